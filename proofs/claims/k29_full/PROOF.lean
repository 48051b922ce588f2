import PyProof.Rows.All
import Wide.All
import OpenK.AllK
import Wide.FinOn
import Lean
import PyProof.EqAt
import PyProof.EqKinds
import PyProof.TupleCall
import PySem.Challenge.RW_ripestone_k29_full
open Array renaming length_toList→G6,getElem?_toList→K5,getElem?_eq_getElem→N5,getD→P1,getElem_toList→T5,toList_push→d7,toList→l0
open Bool renaming false_ne_true→D7,and_eq_true→L6,eq_iff_iff→N8,false_eq_true→U8,or_eq_true→i3,and_false→j5,or_false→j9
open Int renaming toNat_natCast→D9,emod_lt_of_pos→J1,emod_nonneg→K7,le_of_lt→R6,toNat_of_nonneg→U4,natCast_nonneg→V0,natCast_mul→X9,pow_pos→Y2,zero_add→c6,le_refl→f6,natCast_emod→g8,natCast_ediv→g9,natCast_add→i9
open Int.ofNat renaming inj→k9
open List renaming getElem?_eq_getElem→B6,length_map→B8,getD_eq_getElem?_getD→C4,getElem?_map→C5,mem_cons→C6,mem_cons_of_mem→C7,size_toArray→C9,mem_cons_self→D1,map_cons→D2,getElem?_eq_some_iff→D3,length_append→D4,range→D5,length_range→E6,replicate→E7,mem_singleton→E8,length_cons→E9,mem_append_right→F2,mem_of_getElem?→F6,map_nil→F8,getElem?_set_self→F9,append_nil→G0,pairwise_cons→G1,getElem?_eq_none→G2,getElem?_append_left→G3,getElem?_range→G7,mem_map→G8,eq_nil_of_length_eq_zero→I0,zipWith_cons_cons→J0,mem_range→J8,map_map→K0,map_append→K3,mem_append→K6,getElem?_set→L3,filterMap_cons→L4,mem_append_left→M4,eraseIdx_cons_succ→M5,ext_getElem?→M6,nodup_cons→M7,length_set→M8,getElem?_append_right→N2,pairwise_iff_getElem→N4,find?_cons→N9,getElem_of_mem→O3,length_take→O4,idxOf_lt_length_of_mem→O7,take_append_drop→O8,length_eraseIdx_of_lt→O9,drop_eq_getElem_cons→P0,cons_append→P5,filter_cons→P6,getElem?_replicate→P7,zip_cons_cons→P9,nodup_append→Q1,zipWith_nil_left→Q2,getElem?_set_ne→Q4,getElem_mem→Q6,lookup→Q9,map_congr_left→R0,zipWith→R3,any_cons→S0,lookup_cons→S5,any_eq_true→S6,length_replicate→S8,eraseIdx_sublist→T0,eraseIdxIfInBounds_toArray→T1,mem_filter→T2,pairwise_append→T6,mem_of_mem_drop→T9,mem_of_mem_take→U0,getD_cons_succ→U3,filter_append→U9,take_sublist→V3,all_eq_true→V8,ext_getElem→V9,drop_length→W3,length_drop→W4,length_erase_of_mem→W5,set_set→W6,filter_cons_of_pos→X1,filter_cons_of_neg→X2,of_mem_zip→X4,nil_append→X5,length_zip→X6,idxOf_cons→X7,filter_nil→X8,nodup_nil→Y4,length_filter_le→Y8,forall_mem_cons→Z0,replicate_succ→Z7,filter_eq_self→Z8,forall_mem_nil→Z9,mem_filterMap→b5,getElem_idxOf→b9,find?_eq_none→c8,drop_sublist→d6,append_assoc→d8,filter_congr→d9,getElem_take→e8,map_fst_zip→g6,nodup_range→h8,range_succ→i6,filterMap→j8,all_cons→k7
open List.Pairwise renaming map→e9
open List.Perm renaming refl→R7,append_left→Y5,swap→j6
open Nat renaming le_refl→C8,lt_of_lt_of_le→D6,ne_of_lt→D8,le_trans→F5,lt_irrefl→J7,lt_succ_of_lt→L0,not_lt_zero→L5,lt_or_ge→L7,zero_le→M3,le_succ→N0,lt_succ_self→N3,le_of_lt→N7,succ_le_succ→O5,ne_of_gt→P2,zero_add→Q3,mod_lt→T7,div_lt_of_lt_mul→U1,mul_le_mul→U6,lt_of_le_of_lt→U7,mul_pos→Y3,le_of_eq→b6,min_self→b8,sub_self→c7,div_add_mod→i7,mod_add_div→i8
open Option renaming bind_some→B7,map_some→G4,isSome_map→V4,isSome_iff_exists→V7,isSome_some→b7,map_map→j7,none→l4
open Option.some renaming inj→F0
open Or renaming inr→E4,inl→E5
open Prod renaming ext→l3
open PyProof.Rows renaming boot_list→K4,callWith_type1→K8,boot_sorted→R5,callWith_builtin1→T4
open PyProof.Rows.F renaming plain_set_update_loop→O6,entry_set_update_loop→R4
open PySem renaming boot_len→G5,mem_of_lookup→M9,Within→a9,call→i4
open PySem.F renaming plainAttrs_list→F7,called_set→L8,slot_list_append→L9,type_list_append→M0,excBase_ValueError→Q8,slot_dict_get→S9,plain_extend_loop→V5,slot_list_remove→W7,type_list_remove→W8,args_dict_get_2→W9,plain_list_iadd→X0,entry_dict_get→Y1,plain_set_new→Y6,slot_set_iter→Y7
open PySem.W renaming exmOne→B9,fnOf→F3,findIn→F4,mg_none_of→J5,keepIn→J6,codeIn→J9,emptyDict→K9,instObj→N6,nsIn→O0,isFn→P4,mg_of→P8,plainGet→Q5,excIn→Q7,callWith_K→R1,kitCls→R8,hasDictIn→R9,methodCall_KW→S7,makesIn→T3,exm_one→T8,plainGet_of→U2,lookIn→U5,methodObj→V1,plainOver→V2,takerIn→X3,cellsFrom_some→Y0,hideAll_none→Y9,Looks→Z5,hideAll_get→Z6,of_hideAll→b4,specialIn→c9,handedIn→f7,kdl_dict→f9,hideAll→h9,OpenLaw→i5,typeIn→j4,WalkO→k8
open PySem.W.Looks renaming ld→g7
open Sum renaming inl→G9,inr→V6
abbrev aD:=PySem.W.Frag
theorem aX{α:Type u_1}{b:α}{β:Type u_2}{x:Option β}{f:β→Option α}(h:x.bind f=some b):∃a,x=some a∧f a=some b:=Option.bind_eq_some_iff.mp h
theorem mF{α:Type u_1}{b:α}{β:Type u_2}{x:Option β}{f:β→α}(h:x.map f=some b):∃a,x=some a∧f a=b:=Option.map_eq_some_iff.mp h

set_option Elab.async false
set_option linter.all false
set_option maxRecDepth 100000
namespace L2
open PySem PySem.Spec PyProof.Rows
abbrev Key:=Sum Int Str
def Pn:Key→Value→Bool
 | .inl k,v=>Value.isInt k v
 | .inr x,v=>Value.isStrOf x v
def aG0(w:World):Key→Int
 | .inl k=>hashInt k
 | .inr x=>hashStr w x
theorem fM:∀{k:Key} {v:Value},Pn k v=true→(∃i t,k=G9 i∧v=Value.int i t)∨(∃x t,k=V6 x∧v=Value.str x t)
 | .inl i,v,h=>by
  obtain⟨t,e⟩:=Value.isInt_shape (k:=i) (v:=v) h
  exact .inl ⟨i,t,rfl,e⟩
 | .inr x,v,h=>by
  obtain⟨t,e⟩:=Value.isStrOf_shape (x:=x) (v:=v) h
  exact .inr ⟨x,t,rfl,e⟩
theorem RZ(i:Int)(t:Tok):Pn (.inl i) (.int i t)=true:=by simp[Pn,Value.isInt]
theorem SJ(x:Str)(t:Tok):Pn (.inr x) (.str x t)=true:=by simp[Pn,Value.isStrOf]
theorem aCJ(a b:Int):decide ((G9 a:Key)=G9 b)=(a==b):=by
 by_cases e:a=b
 ·subst e;simp
 ·have h:¬(G9 a:Key)=G9 b:=λq=>e (Sum.inl.inj q)
  rw[decide_eq_false h]
  exact(beq_eq_false_iff_ne.mpr e).symm
theorem aCK(a b:Str):decide ((V6 a:Key)=V6 b)=decide (a=b):=by
 by_cases e:a=b
 ·subst e;simp
 ·have h:¬(V6 a:Key)=V6 b:=λq=>e (Sum.inr.inj q)
  rw[decide_eq_false h,decide_eq_false e]
theorem aCL(a:Int)(b:Str):decide ((G9 a:Key)=V6 b)=false:=decide_eq_false (λq=>nomatch q)
theorem aCM(a:Str)(b:Int):decide ((V6 a:Key)=G9 b)=false:=decide_eq_false (λq=>nomatch q)
def fK(prog:Program)(w:World):PySem.KeyKind prog w Key where
  is:=Pn
  hash:=aG0 w
  inj:=λv a b ha hb=>by
    rcases fM ha with ⟨i,t,rfl,rfl⟩ | ⟨x,t,rfl,rfl⟩
    · rcases fM hb with ⟨j,u,rfl,e⟩ | ⟨y,u,rfl,e⟩
      · injection e with e1 _;rw[e1]
      · exact nomatch e
    · rcases fM hb with ⟨j,u,rfl,e⟩ | ⟨y,u,rfl,e⟩
      · exact nomatch e
      · injection e with e1 _;rw[e1]
  byValue:=λk v h=>by
    rcases fM h with ⟨i,t,rfl,rfl⟩ | ⟨x,t,rfl,rfl⟩<;>rfl
  pyHash:=λhv h=>by
    rcases fM hv with ⟨i,t,rfl,rfl⟩ | ⟨x,t,rfl,rfl⟩
    · exact wpAny_pyHash_int h
    · exact wpAny_pyHash_str h
  eqBool:=λhu hv h=>by
    rcases fM hu with ⟨i,t,rfl,rfl⟩ | ⟨x,t,rfl,rfl⟩
    · rcases fM hv with ⟨j,u,rfl,rfl⟩ | ⟨y,u,rfl,rfl⟩
      · rw[aCJ]at h;exact wpAny_eqBool_int h
      · rw[aCL]at h;exact SeqAt.EqAt.int_str i t y u _ _ _ _ h
    · rcases fM hv with ⟨j,u,rfl,rfl⟩ | ⟨y,u,rfl,rfl⟩
      · rw[aCM]at h;exact SeqAt.EqAt.str_int x t j u _ _ _ _ h
      · rw[aCK]at h;exact wpAny_eqBool_str h
  «strs»:=λk x t v h=>by
    rcases fM h with ⟨i,u,rfl,e⟩ | ⟨y,u,rfl,e⟩
    · exact nomatch e
    · injection e with e1 _
      subst e1
      cases v<;>rfl
theorem Wj(prog:Program)(w:World)(i:Int)(t:Tok):(fK prog w).is (.inl i) (.int i t)=true:=RZ i t
theorem Wk(prog:Program)(w:World)(x:Str)(t:Tok):(fK prog w).is (.inr x) (.str x t)=true:=SJ x t
end L2
namespace L2
open PySem PySem.Spec PyProof.Rows
inductive V where
  | non | bl (b:Bool) | int (i:Int) | str (x:Str) | byt (b:Array UInt8) | flt (b:UInt64) | ref (a:Addr) | ty (n:String)
  deriving DecidableEq
def RelV:V→Value→Prop
 | .non,u=>u=Value.none
 | .bl b,u=>u=Value.bool b
 | .int i,u=>∃t,u=Value.int i t
 | .str x,u=>∃t,u=Value.str x t
 | .byt b,u=>∃t,u=Value.bytes b t
 | .flt b,u=>∃t,u=Value.float b t
 | .ref a,u=>u=Value.ref a
 | .ty n,u=>u=Value.type n
abbrev Vals:List V→List Value→Prop:=Paired RelV
theorem Vals.length{xs:List V}{us:List Value}(r:Vals xs us):xs.length=us.length:=Paired.length r
theorem Vals.get:∀{xs:List V} {us:List Value} {i:Nat} {x:V},Vals xs us→xs[i]?=some x→∃u,us[i]?=some u∧RelV x u
 | _,_,_,_,.nil,e=>by simp at e
 | _,_,0,_,.cons r _,e=>by simp at e;subst e;exact⟨_,rfl,r⟩
 | _,_,i+1,x,.cons _ t,e=>by
  obtain⟨u,h1,h2⟩:=Vals.get (i:=i) (x:=x) t (by simpa using e)
  exact⟨u,by simpa using h1,h2⟩
theorem Vals.set{x:V}{u:Value}(r:RelV x u):∀{xs:List V} {us:List Value} (i:Nat),Vals xs us→Vals (xs.set i x) (us.set i u)
 | _,_,_,.nil=>.nil
 | _,_,0,.cons _ t=>.cons r t
 | _,_,i+1,.cons q t=>.cons q (Vals.set r i t)
theorem Vals.append:∀{xs ys:List V} {us ws:List Value},Vals xs us→Vals ys ws→Vals (xs++ys) (us++ws)
 | _,_,_,_,.nil,s=>s
 | _,_,_,_,.cons r t,s=>.cons r (Vals.append t s)
theorem Vals.take:∀{xs:List V} {us:List Value} (n:Nat),Vals xs us→Vals (xs.take n) (us.take n)
 | _,_,0,_=>.nil
 | _,_,_+1,.nil=>.nil
 | _,_,n+1,.cons r t=>.cons r (Vals.take n t)
theorem Vals.drop:∀{xs:List V} {us:List Value} (n:Nat),Vals xs us→Vals (xs.drop n) (us.drop n)
 | _,_,0,r=>r
 | _,_,_+1,.nil=>.nil
 | _,_,n+1,.cons _ t=>Vals.drop n t
def vK:Option V→Option Value→Prop
 | some v,some u=>RelV v u
 | none,none=>True
 | _,_=>False
def KV{κ:Type}:List (κ×V)→List (κ×Value)→Prop:=Paired λ(p:κ×V) (q:κ×Value)=>p.1=q.1∧RelV p.2 q.2
def kV:Key→V
 | .inl i=>.int i
 | .inr x=>.str x
inductive HO where
  | lst (xs:List V)
  | tup (xs:List V)
  | dK (kvs:List (Key×V)) | dT (kvs:List (List Key×V))
  | set (S:Int→Bool) (n:Nat)
  | ins (C dx:Addr) (fs:List (Str×V))
  | own (x:Addr)
  | xd (fs:List (Str×V))
  | met (f x:Addr)
  | rng (lo hi:Int)
  | Bf (o:Obj) (u:HO)
  | tbl (ps:Array Value)
  | ext (φ:Heap→Prop)
abbrev Hp:=Addr→Option HO
def upd(H:Hp)(a:Addr)(o:HO):Hp:=λb=>if b=a then some o else H b
theorem bW{H:Hp}{a:Addr}{o:HO}:upd H a o a=some o:=by unfold upd;rw[if_pos rfl]
theorem bL{H:Hp}{a b:Addr}{o:HO}(h:b≠a):upd H a o b=H b:=by unfold upd;rw[if_neg h]
theorem aFe{H:Hp}{a b:Addr}{o u:HO}(h:H a=some o)(h':H b=some u)(d:o≠u):a≠b:=by
 intro e;subst e;rw[h]at h';exact d (F0 h')
theorem fX{H:Hp}{a b:Addr}{o:HO}(h:H a=some o)(h':H b=none):a≠b:=by
 intro e;subst e;rw[h]at h';cases h'
section
variable(P:Program)(w:World)
def iM(H:Hp)(h:Heap)(a:Addr):HO→Prop
 | .lst xs=>xs.length≤sizeLine∧∃(its:List Value)(n:Nat),Vals xs its∧h.get? a=some {cls:=.type "list", data:=.seq its.toArray n}
 | .tup xs=>xs.length≤sizeLine∧∃its:List Value,Vals xs its∧IsTup h a its.toArray
 | .dK kvs=>kvs.length≤sizeLine∧(a==sysModules)=false∧∃vs,KV kvs vs∧h.DictOf (fK P w) a vs
 | .dT kvs=>kvs.length≤sizeLine∧(a==sysModules)=false∧∃xs:List (List Key×Addr×Value),
   Paired (λ(p:List Key×V) (q:List Key×Addr×Value)=>p.1=q.1∧H q.2.1=some (.tup (p.1.map kV))∧RelV p.2 q.2.2) kvs xs ∧
   ∃o es ep,h.get? a=some o∧o.ExactDict∧o.data=.dict es ep∧es.toList=xs.map (entryOfKey (tupleKind (fK P w)))∧(xs.map (·.1)).Nodup
 | .set S n=>h.SetOf (intKind P w) a S n
 | .ins C dx fs=>H dx=some (.own a)∧fs.length≤1000∧dx≠a∧h.get? a=some (N6 C dx) ∧
   ∃mA,h.Ns1 dx mA∧(∀f,vK (fs.lookup f) (mA f))∧a9 mA (fs.map (·.1))
 | .own _=>∃o,h.get? a=some o
 | .xd fs=>∃mA,h.Ns1 a mA∧∀f,vK (fs.lookup f) (mA f)
 | .rng lo hi=>∃t u v,h.get? a=some {cls:=.type "range", data:=.fields #[.int lo t,.int hi u,.int 1 v]}
 | .Bf o u=>h.get? a=some o∧iM H h a u
 | .tbl ps=>h.get? a=some {cls:=.none,data:=.fields ps}
 | .met f x=>h.get? a=some (V1 (.ref f) (.ref x))
 | .ext φ=>φ h∧(∃o,h.get? a=some o)∧∀h1 h2:Heap,φ h1→(∀o,h1.get? a=some o→h2.get? a=some o)→φ h2
def vL(H:Hp)(h:Heap):Prop:=∀a o,H a=some o→iM P w H h a o
end
section
variable{P:Program}{w:World}{H H':Hp}{h h':Heap}{a:Addr}{o:HO}
theorem iM.lt(x:iM P w H h a o):a<h.objs.size:=by
 cases o with
 | lst xs=>obtain⟨_,_,_,_,e⟩:=x;exact Heap.lt_size e
 | tup xs=>obtain⟨_,_,_,p⟩:=x;exact p.lt
 | dK kvs=>obtain⟨_,_,_,_,o,_,_,e,_⟩:=x;exact Heap.lt_size e
 | dT kvs=>obtain⟨_,_,_,_,o,_,_,e,_⟩:=x;exact Heap.lt_size e
 | set S n=>obtain⟨o,_,_,_,e,_⟩:=x;exact Heap.lt_size e
 | ins C dx fs=>obtain⟨_,_,_,e,_⟩:=x;exact Heap.lt_size e
 | own y=>obtain⟨_,e⟩:=x;exact Heap.lt_size e
 | xd fs=>obtain⟨_,⟨_,_,_,e,_⟩,_⟩:=x;exact Heap.lt_size e
 | rng lo hi=>obtain⟨_,_,_,e⟩:=x;exact Heap.lt_size e
 | Bf ob u=>obtain⟨e,_⟩:=x;exact Heap.lt_size e
 | tbl ps=>exact Heap.lt_size (show h.get? a=some _ from x)
 | met f y=>exact Heap.lt_size (show h.get? a=some _ from x)
 | ext φ=>obtain⟨_,⟨_,e⟩,_⟩:=x;exact Heap.lt_size e
theorem Paired.aCN{α β:Type}{F G:α→β→Prop}:∀{l₁:List α} {l₂:List β},Paired F l₁ l₂→(∀a b,F a b→G a b)→Paired G l₁ l₂
 | _,_,.nil,_=>.nil
 | _,_,.cons r t,f=>.cons (f _ _ r) (Paired.aCN t f)
theorem iM.stay(x:iM P w H h a o)(k:∀b u,(b=a∨H b=some (.own a))→h.get? b=some u→h'.get? b=some u)
  (ho:∀b,H b=some (.own a)→H' b=some (.own a)) (ht:∀b xs,H b=some (.tup xs)→H' b=some (.tup xs)):iM P w H' h' a o:=by
 induction o with
 | lst xs=>obtain⟨z,its,n,r,e⟩:=x;exact⟨z,its,n,r,k _ _ (.inl rfl) e⟩
 | tup xs=>obtain⟨z,its,r,ob,e,c⟩:=x;exact⟨z,its,r,ob,k _ _ (.inl rfl) e,c⟩
 | dK kvs=>obtain⟨z,y,vs,r,ob,es,ep,e,c⟩:=x;exact⟨z,y,vs,r,ob,es,ep,k _ _ (.inl rfl) e,c⟩
 | dT kvs=>
  obtain⟨z,y,xs,r,ob,es,ep,e,c⟩:=x
  exact⟨z,y,xs,Paired.aCN r λp q z=>⟨z.1,ht _ _ z.2.1,z.2.2⟩,ob,es,ep,k _ _ (.inl rfl) e,c⟩
 | set S n=>obtain⟨ob,es,ep,t,e,c⟩:=x;exact⟨ob,es,ep,t,k _ _ (.inl rfl) e,c⟩
 | ins C dx fs=>
  obtain⟨d,z,ne,e,mA,⟨od,es,ep,e2,c⟩,r⟩:=x
  exact⟨ho _ d,z,ne,k _ _ (.inl rfl) e,mA,⟨od,es,ep,k _ _ (.inr d) e2,c⟩,r⟩
 | own y=>obtain⟨ob,e⟩:=x;exact⟨ob,k _ _ (.inl rfl) e⟩
 | xd fs=>obtain⟨mA,⟨od,es,ep,e,c⟩,r⟩:=x;exact⟨mA,⟨od,es,ep,k _ _ (.inl rfl) e,c⟩,r⟩
 | rng lo hi=>obtain⟨t,u,v,e⟩:=x;exact⟨t,u,v,k _ _ (.inl rfl) e⟩
 | Bf ob u ih=>obtain⟨e,q⟩:=x;exact⟨k _ _ (.inl rfl) e,ih q⟩
 | tbl ps=>
  have e:h.get? a=some {cls:=.none,data:=.fields ps}:=x
  show h'.get? a=some {cls:=.none,data:=.fields ps}
  exact k a _ (.inl rfl) e
 | met f y=>
  have e:h.get? a=some (V1 (.ref f) (.ref y)):=x
  show h'.get? a=some (V1 (.ref f) (.ref y))
  exact k a _ (.inl rfl) e
 | ext φ=>obtain⟨p,⟨o,e⟩,st⟩:=x;exact⟨st _ _ p λo q=>k _ _ (.inl rfl) q,⟨o,k _ _ (.inl rfl) e⟩,st⟩
theorem vL.lt(x:vL P w H h)(e:H a=some o):a<h.objs.size:=(x a o e).lt
theorem vL.fresh(x:vL P w H h)(e:h.objs.size≤a):H a=none:=by
 cases q:H a with
 | none=>rfl
 | some u=>exact absurd (D6 (x.lt q) e) (J7 _)
theorem vL.kept(x:vL P w H h)(k:∀b u,h.get? b=some u→h'.get? b=some u):vL P w H h':=λa o e=>
 (x a o e).stay (λb u _ q=>k b u q) (λ_ q=>q) λ_ _ q=>q
theorem vL.laid(x:vL P w H h)(k:∀b u,h.get? b=some u→h'.get? b=some u)(hp:h.objs.size≤a)(new:iM P w (upd H a o) h' a o):vL P w (upd H a o) h':=λb u e=>by
 have hn:=x.fresh hp
 by_cases hb:b=a
 ·subst hb;rw[bW]at e;cases e;exact new
 ·rw[bL hb]at e
  exact(x b u e).stay (λc v _ q=>k c v q) (λc q=>by rw[bL (fX q hn)];exact q) λc xs q=>by rw[bL (fX q hn)];exact q
end
def Rd(H:Hp)(a:Addr)(u:HO):Prop:=H a=some u∨∃o,H a=some (.Bf o u)
theorem Rd.ok{P:Program}{w:World}{H:Hp}{h:Heap}{a:Addr}{u:HO}(r:Rd H a u)(x:vL P w H h):iM P w H h a u:=by
 rcases r with r | ⟨o,r⟩
 ·exact x a u r
 ·obtain⟨_,q⟩:=x a _ r
  exact q
def Mut:Option HO→Prop
 | some (.lst _)=>True
 | some (.dK _)=>True
 | some (.dT _)=>True
 | some (.set _ _)=>True
 | some (.ins _ _ _)=>True
 | some (.ext _)=>True
 | _=>False
section
variable{P:Program}{w:World}{H:Hp}{h h':Heap}{x e:Addr}{o':HO}
theorem vL.write(ok:vL P w H h)(mu:Mut (H x))(he:e=x∨H e=some (.own x))(k:∀b u,b≠e→h.get? b=some u→h'.get? b=some u)(heo:∃u,h'.get? e=some u)
  (new:iM P w (upd H x o') h' x o'):vL P w (upd H x o') h':=λb u q=>by
 have aFg:∀c y,H c=some (.own y)→c≠x:=λc y r z=>by subst z;rw[r]at mu;exact mu
 have aG1:∀c xs,H c=some (.tup xs)→c≠x:=λc xs r z=>by subst z;rw[r]at mu;exact mu
 by_cases hb:b=x
 ·subst hb;rw[bW]at q;cases q;exact new
 ·rw[bL hb]at q
  by_cases hbe:b=e
  ·have q':H b=some (.own x):=by
    rcases he with z | z
    ·exact absurd (hbe.trans z) hb
    ·rw[hbe];exact z
   rw[q]at q';cases q'
   obtain⟨v,hv⟩:=heo
   exact⟨v,by rw[hbe];exact hv⟩
  ·refine(ok b u q).stay (λc v hc r=>k c v ?_ r) (λc r=>by rw[bL (aFg c b r)];exact r) λc xs r=>by rw[bL (aG1 c xs r)];exact r
   rcases hc with rfl | hc
   ·exact hbe
   ·rintro rfl
    rcases he with z | z
    ·exact aFg c b hc z
    ·rw[hc]at z;cases z;exact hb rfl
end
structure Un(fs ex:List Addr)(H H':Hp)(h h':Heap):Prop where
 keep:∀b o,h.get? b=some o→H b=none→b∉fs→b∉ex→h'.get? b=some o
 slot:∀b o,h.get? b=some o→H b=none→b∈fs→b∉ex→∃sl,h'.get? b=some {o with slots:=sl}
 free:∀b o,h.get? b=some o→H b=none→b∉ex→H' b=none
 there:∀b o,h.get? b=some o→b∉ex→∃o',h'.get? b=some o'
 tups:∀b xs,H b=some (.tup xs)→H' b=some (.tup xs)
 Gx:∀b o u,H b=some (.Bf o u)→H' b=some (.Bf o u)
 Ja:∀b ps,H b=some (.tbl ps)→∃more,H' b=some (.tbl (ps++more))
section
variable{fs fs' ex ex':List Addr}{H H1 H2:Hp}{h h1 h2 h':Heap}{a x e:Addr}{o:HO}
theorem Un.any(u:Un fs ex H H1 h h1){b:Addr}{ob:Obj}(q:h.get? b=some ob)(n:H b=none)(hx:b∉ex):∃sl,h1.get? b=some {ob with slots:=sl}:=by
 by_cases hb:b∈fs
 ·exact u.slot b ob q n hb hx
 ·exact⟨ob.slots,u.keep b ob q n hb hx⟩
theorem Un.kept(k:∀b u,h.get? b=some u→h'.get? b=some u):Un fs ex H H h h':=
 ⟨λb ob q _ _ _=>k b ob q,λb ob q _ _ _=>⟨ob.slots,k b ob q⟩,λ_ _ _ n _=>n,λb ob q _=>⟨ob,k b ob q⟩,λ_ _ q=>q,λ_ _ _ q=>q,λ_ ps q=>⟨#[],by rw[q];simp⟩⟩
theorem Un.refl:Un fs ex H H h h:=Un.kept λ_ _ q=>q
theorem Un.laid(k:∀b u,h.get? b=some u→h'.get? b=some u)(hp:h.objs.size≤a)(hn:H a=none):Un fs ex H (upd H a o) h h' where
 keep:=λb u q _ _ _=>k b u q
 slot:=λb u q _ _ _=>⟨u.slots,k b u q⟩
 free:=λb u q n _=>by rw[bL (D8 (D6 (Heap.lt_size q) hp))];exact n
 there:=λb u q _=>⟨u,k b u q⟩
 tups:=λb xs q=>by rw[bL (fX q hn)];exact q
 Gx:=λb u xs q=>by rw[bL (fX q hn)];exact q
 Ja:=λb ps q=>⟨#[],by rw[bL (fX q hn),q];simp⟩
theorem Un.write(mu:Mut (H x))(he:e=x∨H e=some (.own x))(k:∀b u,b≠e→h.get? b=some u→h'.get? b=some u)(heo:∃u,h'.get? e=some u):Un fs ex H (upd H x o) h h':=by
 have hx:∀b,H b=none→b≠x:=λb n z=>by subst z;rw[n]at mu;exact mu
 have hb:∀b,H b=none→b≠e:=λb n z=>by
  subst z
  rcases he with r | r
  ·exact hx b n r
  ·rw[n]at r;cases r
 have hm:∀b u,H b=some u→¬Mut (some u)→b≠x:=λb u q nm z=>by subst z;rw[q]at mu;exact nm mu
 refine⟨λb u q n _ _=>k b u (hb b n) q,λb u q n _ _=>⟨u.slots,k b u (hb b n) q⟩,λb u q n _=>by rw[bL (hx b n)];exact n,λb u q _=>?_,
  λb xs q=>by rw[bL (hm b _ q λz=>z)];exact q,λb u xs q=>by rw[bL (hm b _ q λz=>z)];exact q,λb ps q=>⟨#[],by rw[bL (hm b _ q λz=>z),q];simp⟩⟩
 by_cases hbe:b=e
 ·subst hbe;exact heo
 ·exact⟨u,k b u hbe q⟩
end
def trk(h:Heap)(H:Hp):List Addr:=(D5 h.objs.size).filter λa=>(H a).isSome
def Te(h:Heap)(H:Hp):Heap:=h9 h (trk h H)
theorem SM(h:Heap)(H:Hp):(Te h H).objs.size=h.objs.size:=PySem.W.hideAll_size _ _
theorem ZW{h:Heap}{H:Hp}{b:Addr}{o:Obj}(e:h.get? b=some o)(n:H b=none):(Te h H).get? b=some o:=
 Z6 _ e λhm=>by
  have q:(H b).isSome=true:=(T2.mp hm).2
  rw[n]at q;simp at q
theorem aAl{h:Heap}{H:Hp}{b:Addr}{o:Obj}(e:(Te h H).get? b=some o):h.get? b=some o∧H b=none:=by
 have e':h.get? b=some o:=b4 (trk h H) e
 refine⟨e',?_⟩
 cases q:H b with
 | none=>rfl
 | some x=>
  have hm:b∈trk h H:=T2.mpr ⟨J8.mpr (Heap.lt_size e'),by simp[q]⟩
  have z:(Te h H).get? b=none:=Y9 (trk h H) hm
  rw[z]at e;cases e
def aAm(g h:Heap)(L:Addr):List (Addr×Obj):=(D5 h.objs.size).filterMap λa=>if a=L∨(g.get? a).isSome=true then none else(h.get? a).map λo=>(a,o)
def rest(g h:Heap)(L d:Addr):List (Addr×Obj):=(aAm g h L).filter λp=>decide (p.1≠d)
end L2
namespace L2
open PySem PySem.Spec PyProof.Rows
structure Mod(K:aD)(mg:Str→Option Value)(base:Heap):Prop where
 ZX:K.In base
 glob:base.Ns mainGlobals mg
 blt:∃mb,base.Ns builtinsNs mb∧∀x:Str,x ≠ "__name__" → mb x=bootBuiltins x
 nolimit:base.NoLimit
structure Cx where
 prog:Program
 w:World
 K:aD
 mg:Str→Option Value
 base:Heap
 A:Around
 N:List Str
 s₀:Shared
 H₀:Hp
 env:Env
 outer:List Env
 stack:List Env
 ex:List Addr
 fn:Str→Bool
 calm:Bool
 pn:List (Addr×Obj)
 xe:Value→Shared→Prop
def frs(l:List Env):List Addr:=l.filterMap (·.frame)
abbrev Cx.fs(X:Cx):List Addr:=frs X.outer
def Vis(sc:Scope)(x:Str):Prop:=sc.names.lookup x=some .local∨sc.names.lookup x=some .cell∨sc.names.lookup x=some .free
def Loc(sc:Scope)(x:Str):Prop:=sc.names.lookup x=some .local∨sc.names.lookup x=some .cell
def Look(env:Env)(h:Heap)(m:Str→Option Value)(x:Str)(u:Value):Prop:=
 (env.kindOf x=some .local∧m x=some u)∨((env.kindOf x=some .cell∨env.kindOf x=some .free)∧∃c,env.cells.lookup x=some c∧h.IsCell c (some u))
structure Cx.Ok(X:Cx):Prop where
 mod:Mod X.K X.mg X.base
 kind:X.env.scope.kind=.function
 glob:X.env.globals=mainGlobals
 blt:X.env.builtins=builtinsNs
 above:X.s₀.heap.objs.size≤X.env.locals
 inj:∀x y c,X.env.cells.lookup x=some c→X.env.cells.lookup y=some c→x=y
 has:∀x,(X.env.kindOf x=some .cell∨X.env.kindOf x=some .free)→∃c,X.env.cells.lookup x=some c
 cab:∀x c,X.fn x=true→X.env.cells.lookup x=some c→X.s₀.heap.objs.size≤c
 hd:X.calm=true→X.A.handled=none
 frames:X.A.frames=some X.stack
 stk:X.stack=X.outer∨(X.stack=X.env::X.outer∧X.env.frame=some X.env.locals)
 exf:∀b∈X.ex,b≠X.env.locals∧∀x c,X.env.cells.lookup x=some c→c≠b
 bs:∀b o,X.base.get? b=some o→X.s₀.heap.get? b=some o∧X.H₀ b=none
 SN:X.base.objs.size≤X.s₀.heap.objs.size
 Tf:∀b o,X.base.get? b=some o→b∉X.ex
 Wl:∀b∈X.ex,b∉X.fs
 vW:X.s₀.heap.FunFrames X.base X.outer
 ZZ:∀b∈X.fs,X.H₀ b=none
structure Inv(X:Cx)(pins:List (Addr×Obj))(σ:List (Option V))(H:Hp)(s:Shared):Prop where
 ok:X.Ok
 os:s.os=X.s₀.os
 bare:AllBare s.gens
 base:Un X.fs X.ex X.H₀ H X.s₀.heap s.heap
 loc:∃m,s.heap.Ns X.env.locals m∧∀(i:Nat)(x:Str)(v:V),X.N[i]?=some x→σ[i]?=some (some v)→Vis X.env.scope x→∃u,RelV v u∧Look X.env s.heap m x u
 cell:∀x c,X.env.cells.lookup x=some c→∃v,s.heap.IsCell c v
 free:H X.env.locals=none
 oR:∀x c,X.env.cells.lookup x=some c→H c=none
 pin:∀p∈X.pn++pins,s.heap.get? p.1=some p.2∧H p.1=none∧p.1≠X.env.locals∧p.1∉X.fs∧∀v,p.2.data≠.cell v
 hok:vL X.prog X.w H s.heap
 len:σ.length=X.N.length
section
variable{X:Cx}{pins:List (Addr×Obj)}{σ:List (Option V)}{H H':Hp}{s:Shared}{h':Heap}
theorem Cx.Ok.aG2(ok:X.Ok){b:Addr}{o:Obj}(e:X.base.get? b=some o):b∉X.fs:=λhb=>by
 have:=(ok.vW.mem hb).1
 rw[e]at this;cases this
theorem Inv.bs(I:Inv X pins σ H s):∀b o,X.base.get? b=some o→s.heap.get? b=some o∧H b=none:=λb o e=>
 ⟨I.base.keep b o (I.ok.bs b o e).1 (I.ok.bs b o e).2 (I.ok.aG2 e) (I.ok.Tf b o e),I.base.free b o (I.ok.bs b o e).1 (I.ok.bs b o e).2 (I.ok.Tf b o e)⟩
theorem Inv.bk(I:Inv X pins σ H s):∀b o,X.base.get? b=some o→s.heap.get? b=some o:=λb o e=>(I.bs b o e).1
theorem Inv.mod(I:Inv X pins σ H s):Mod X.K X.mg X.base:=I.ok.mod
theorem Inv.Nz(I:Inv X pins σ H s):X.K.In s.heap:=I.ok.mod.ZX.keeps I.bk
theorem Inv.lt(I:Inv X pins σ H s):X.env.locals<s.heap.objs.size:=let ⟨_,hn,_⟩:=I.loc;hn.lt
theorem Inv.sz(I:Inv X pins σ H s):X.s₀.heap.objs.size≤s.heap.objs.size:=F5 I.ok.above (N7 I.lt)
theorem Inv.aG3(I:Inv X pins σ H s){a:Addr}(h:s.heap.objs.size≤a):a∉X.fs:=λhb=>by
 obtain⟨_,o,ho,_⟩:=I.ok.vW.mem hb
 exact absurd (D6 (Heap.lt_size ho) (F5 I.sz h)) (J7 _)
theorem Inv.KD(I:Inv X pins σ H s):∀x c,X.env.cells.lookup x=some c→c≠X.env.locals:=λx c e z=>by
 obtain⟨v,o,ho,hd⟩:=I.cell x c e
 obtain⟨m,⟨o',es,ep,ho',hd',_⟩,_⟩:=I.loc
 rw[z,ho']at ho;cases ho;rw[hd']at hd;cases hd
theorem Inv.vW(I:Inv X pins σ H s):s.heap.FunFrames X.base X.outer:=by
 have all:∀(l:List Env),(∀b∈frs l,b∈X.fs)→X.s₀.heap.FunFrames X.base l→s.heap.FunFrames X.base l:=by
  intro l
  induction l with
  | nil=>intro _ _;trivial
  | cons env r ih=>
   intro hs hl
   obtain⟨hk,⟨L,o,hf,hn,ho,hd⟩,hr⟩:=hl
   have hL:L∈X.fs:=hs L (by unfold frs;rw[L4,hf];exact D1)
   obtain⟨sl,e⟩:=I.base.slot L o ho (I.ok.ZZ L hL) hL λz=>I.ok.Wl L z hL
   exact⟨hk,⟨L,_,hf,hn,e,hd⟩,ih (λb hb=>hs b (by unfold frs;rw[L4,hf];exact C7 _ hb)) hr⟩
 exact all X.outer (λ_ hb=>hb) I.ok.vW
theorem Inv.stack(I:Inv X pins σ H s):s.heap.FunFrames X.base X.stack:=by
 rcases I.ok.stk with e | ⟨e,hf⟩
 ·rw[e];exact I.vW
 ·rw[e]
  obtain⟨m,hn,_⟩:=I.loc
  refine .cons (by rw[I.ok.kind];decide) hf hn ?_ I.vW
  exact Heap.get?_none_of_le (F5 I.ok.SN I.ok.above)
theorem Inv.Tg(I:Inv X pins σ H s):∀b∈frs X.stack,b∈X.env.locals::X.fs:=λb hb=>by
 rcases I.ok.stk with e | ⟨e,hf⟩
 ·rw[e]at hb;exact C7 _ hb
 ·rw[e]at hb
  unfold frs at hb
  rw[L4,hf]at hb
  exact hb
theorem Inv.Th(I:Inv X pins σ H s):∀b∈frs X.stack,H b=none:=λb hb=>by
 rcases C6.mp (I.Tg b hb)with e | hb
 ·rw[e];exact I.free
 ·obtain⟨_,o,ho,_⟩:=I.ok.vW.mem hb
  exact I.base.free b o ho (I.ok.ZZ b hb) λz=>I.ok.Wl b z hb
theorem Inv.step{g':Array GenState}{t':Nat}{d':Drawn}{ch:List Addr}(I:Inv X pins σ H s)
  (hch:∀b∈ch,(b∈X.ex∨X.s₀.heap.objs.size≤b)∧b≠X.env.locals∧(∀x c,X.env.cells.lookup x=some c→c≠b)∧∀p∈X.pn++pins,p.1≠b)
  (keep:∀b o,b≠X.env.locals→b∉X.fs→b∉ch→s.heap.get? b=some o→H b=none→h'.get? b=some o)
  (slot:∀b o,b≠X.env.locals→b∈X.fs→b∉ch→s.heap.get? b=some o→H b=none→∃sl,h'.get? b=some {o with slots:=sl}) (free:∀b o,b∉ch→s.heap.get? b=some o→H b=none→H' b=none)
  (there:∀b o,b∉ch→s.heap.get? b=some o→∃o',h'.get? b=some o')
  (tups:∀b xs,H b=some (.tup xs)→H' b=some (.tup xs)) (Gx:∀b o u,H b=some (.Bf o u)→H' b=some (.Bf o u)) (Ja:∀b ps,H b=some (.tbl ps)→∃more,H' b=some (.tbl (ps++more)))
  (ns:∀m,s.heap.Ns X.env.locals m→h'.Ns X.env.locals m) (hok:vL X.prog X.w H' h') (hg:AllBare g') :
  Inv X pins σ H' {s with heap:=h',gens:=g',drawn:=d',toks:=t'}:=by
 have neL:∀b o,X.s₀.heap.get? b=some o→b≠X.env.locals:=λb o e=>D8 (D6 (Heap.lt_size e) I.ok.above)
 have neC:∀b o,X.s₀.heap.get? b=some o→b∉X.ex→b∉ch:=λb o e hx hb=>by
  rcases(hch b hb).1 with z | z
  ·exact hx z
  ·exact absurd (D6 (Heap.lt_size e) z) (J7 _)
 have cellK:∀x c,X.env.cells.lookup x=some c→∀v,s.heap.IsCell c v→h'.IsCell c v:=λx c e v ⟨o,ho,hd⟩=>by
  have nch:c∉ch:=λz=>(hch c z).2.2.1 x c e rfl
  by_cases hc:c∈X.fs
  ·obtain⟨sl,q⟩:=slot c o (I.KD x c e) hc nch ho (I.oR x c e)
   exact⟨_,q,hd⟩
  ·exact⟨o,keep c o (I.KD x c e) hc nch ho (I.oR x c e),hd⟩
 refine⟨I.ok,I.os,hg,⟨λb o e n hb hx=>?_,λb o e n hb hx=>?_,λb o e n hx=>?_,λb o e hx=>?_,λb xs e=>tups b xs (I.base.tups b xs e),λb o xs e=>Gx b o xs (I.base.Gx b o xs e),λb ps e=>?_⟩,?_,λx c e=>?_,?_,λx c e=>?_,λp hp=>?_,hok,I.len⟩
 ·exact keep b o (neL b o e) hb (neC b o e hx) (I.base.keep b o e n hb hx) (I.base.free b o e n hx)
 ·obtain⟨sl,e1⟩:=I.base.slot b o e n hb hx
  obtain⟨sl',e2⟩:=slot b _ (neL b o e) hb (neC b o e hx) e1 (I.base.free b o e n hx)
  exact⟨sl',e2⟩
 ·obtain⟨o',e1⟩:=I.base.there b o e hx
  exact free b o' (neC b o e hx) e1 (I.base.free b o e n hx)
 ·obtain⟨o',e1⟩:=I.base.there b o e hx
  exact there b o' (neC b o e hx) e1
 ·obtain⟨m1,e1⟩:=I.base.Ja b ps e
  obtain⟨m2,e2⟩:=Ja b _ e1
  exact⟨m1++m2,by rw[e2,Array.append_assoc]⟩
 ·obtain⟨m,hn,hl⟩:=I.loc
  refine⟨m,ns m hn,λi x v e1 e2 e3=>?_⟩
  obtain⟨u,r,l⟩:=hl i x v e1 e2 e3
  refine⟨u,r,?_⟩
  rcases l with l | ⟨k,c,e,z⟩
  ·exact .inl l
  ·exact .inr ⟨k,c,e,cellK x c e _ z⟩
 ·obtain⟨v,z⟩:=I.cell x c e
  exact⟨v,cellK x c e v z⟩
 ·obtain⟨m,⟨o,_,_,ho,_⟩,_⟩:=I.loc
  exact free _ o (λz=>(hch _ z).2.1 rfl) ho I.free
 ·obtain⟨v,o,ho,hd⟩:=I.cell x c e
  exact free c o (λz=>(hch c z).2.2.1 x c e rfl) ho (I.oR x c e)
 ·obtain⟨e,n,ne,nf,d⟩:=I.pin p hp
  have nch:p.1∉ch:=λz=>(hch p.1 z).2.2.2 p hp rfl
  exact⟨keep p.1 p.2 ne nf nch e n,free p.1 p.2 nch e n,ne,nf,d⟩
theorem Inv.un{t':Nat}(I:Inv X pins σ H s)(u:Un X.fs [] H H' s.heap h')(hok:vL X.prog X.w H' h'):Inv X pins σ H' {s with heap:=h',toks:=t'}:=by
 obtain⟨m,⟨o,es,ep,ho,r⟩,_⟩:=id I.loc
 obtain⟨sl,hL⟩:=u.any ho I.free (by simp)
 exact I.step (g':=s.gens) (d':=s.drawn) (ch:=[]) (λ_ z=>nomatch z) (λb o _ hb _ e n=>u.keep b o e n hb (by simp)) (λb o _ hb _ e n=>u.slot b o e n hb (by simp)) (λb o _ e n=>u.free b o e n (by simp)) (λb o _ e=>u.there b o e (by simp)) u.tups u.Gx u.Ja (λm' hm=>by
  obtain⟨o',es',ep',ho',r'⟩:=hm
  rw[ho]at ho';cases ho'
  exact⟨_,es',ep',hL,r'⟩) hok I.bare
theorem Inv.call{g':Array GenState}{t':Nat}{d':Drawn}{ch:List Addr}(I:Inv X pins σ H s)(u:Un (frs X.stack) ch H H' s.heap h')(hok:vL X.prog X.w H' h')(hg:AllBare g')
  (hch:∀b∈ch,(b∈X.ex∨X.s₀.heap.objs.size≤b)∧b≠X.env.locals∧(∀x c,X.env.cells.lookup x=some c→c≠b)∧∀p∈X.pn++pins,p.1≠b) :
  Inv X pins σ H' {s with heap:=h',gens:=g',drawn:=d',toks:=t'}:=by
 obtain⟨m,⟨o,es,ep,ho,r⟩,_⟩:=id I.loc
 obtain⟨sl,hL⟩:=u.any ho I.free λz=>(hch _ z).2.1 rfl
 exact I.step (ch:=ch) hch (λb o hL hb hc e n=>u.keep b o e n (λz=>(C6.mp (I.Tg b z)).elim hL hb) hc) (λb o _ _ hc e n=>u.any e n hc) (λb o hc e n=>u.free b o e n hc) (λb o hc e=>u.there b o e hc) u.tups u.Gx u.Ja (λm' hm=>by
  obtain⟨o',es',ep',ho',r'⟩:=hm
  rw[ho]at ho';cases ho'
  exact⟨_,es',ep',hL,r'⟩) hok hg
theorem Inv.turned{t':Nat}{it:Addr}(I:Inv X pins σ H s)(k:∀b o,b≠it→s.heap.get? b=some o→h'.get? b=some o)(hn:H it=none)(hL:it≠X.env.locals)
  (h1:it∈X.ex∨X.s₀.heap.objs.size≤it) (h2:∀x c,X.env.cells.lookup x=some c→c≠it) (h3:∀p∈X.pn++pins,p.1≠it):Inv X pins σ H {s with heap:=h',toks:=t'}:=by
 have nit:∀b u,H b=some u→b≠it:=λb u e z=>by rw[z,hn]at e;cases e
 refine I.step (g':=s.gens) (d':=s.drawn) (ch:=[it]) (λb hb=>?_) (λb o _ _ hc e _=>k b o (λz=>hc (by simp[z])) e) (λb o _ _ hc e _=>⟨o.slots,k b o (λz=>hc (by simp[z])) e⟩) (λ_ _ _ _ n=>n)
  (λb o hc e=>⟨o,k b o (λz=>hc (by simp[z])) e⟩) (λ_ _ e=>e) (λ_ _ _ e=>e) (λb ps e=>⟨#[],by rw[e];simp⟩) (λm hm=>?_) (λb u e=>?_) I.bare
 ·have e:b=it:=by simpa using hb
  subst e
  exact⟨h1,hL,h2,h3⟩
 ·obtain⟨o,es,ep,ho,r⟩:=hm
  exact⟨o,es,ep,k _ o (Ne.symm hL) ho,r⟩
 ·refine(I.hok b u e).stay (λc v hc q=>k c v ?_ q) (λ_ q=>q) λ_ _ q=>q
  rcases hc with z | z
  ·rw[z];exact nit b u e
  ·exact nit c _ z
theorem Inv.tok(I:Inv X pins σ H s)(t:Nat):Inv X pins σ H {s with toks:=t}:=I.un (h':=s.heap) (t':=t) Un.refl I.hok
theorem Inv.kept{t':Nat}(I:Inv X pins σ H s)(k:∀b u,s.heap.get? b=some u→h'.get? b=some u):Inv X pins σ H {s with heap:=h',toks:=t'}:=I.un (Un.kept k) (I.hok.kept k)
theorem Inv.laid{a:Addr}{o:HO}{t':Nat}(I:Inv X pins σ H s)(k:∀b u,s.heap.get? b=some u→h'.get? b=some u)(hp:s.heap.objs.size≤a)(new:iM X.prog X.w (upd H a o) h' a o) :
  Inv X pins σ (upd H a o) {s with heap:=h',toks:=t'}:=I.un (Un.laid k hp (I.hok.fresh hp)) (I.hok.laid k hp new)
theorem Inv.write{x e:Addr}{o:HO}{t':Nat}(I:Inv X pins σ H s)(mu:Mut (H x))(he:e=x∨H e=some (.own x))(k:∀b u,b≠e→s.heap.get? b=some u→h'.get? b=some u)(heo:∃u,h'.get? e=some u)
  (new:iM X.prog X.w (upd H x o) h' x o):Inv X pins σ (upd H x o) {s with heap:=h',toks:=t'}:=I.un (Un.write mu he k heo) (I.hok.write mu he k heo new)
theorem Inv.weak{σ':List (Option V)}(I:Inv X pins σ H s)(hl:σ'.length=σ.length)(w:∀(i:Nat) v,σ'[i]?=some (some v)→σ[i]?=some (some v)):Inv X pins σ' H s:=
 ⟨I.ok,I.os,I.bare,I.base,let ⟨m,hn,hl'⟩:=I.loc;⟨m,hn,λi x v e1 e2 e3=>hl' i x v e1 (w i v e2) e3⟩,I.cell,I.free,I.oR,I.pin,I.hok,hl.trans I.len⟩
theorem Inv.Hr{Jb:List (Addr×Obj)}(I:Inv X pins σ H s)(h:∀p∈Jb,s.heap.get? p.1=some p.2∧H p.1=none∧p.1≠X.env.locals∧p.1∉X.fs∧∀v,p.2.data≠.cell v):Inv X Jb σ H s:=
 ⟨I.ok,I.os,I.bare,I.base,I.loc,I.cell,I.free,I.oR,λp hp=>(K6.mp hp).elim (λz=>I.pin p (M4 _ z)) (h p),I.hok,I.len⟩
theorem Jc{N:List Str}(hN:N.Nodup){i j:Nat}{x:Str}(a:N[i]?=some x)(b:N[j]?=some x):i=j:=by
 obtain⟨h1,e1⟩:=D3.mp a
 obtain⟨h2,e2⟩:=D3.mp b
 exact(List.getElem_inj hN).mp (e1.trans e2.symm)
theorem Pq{M:Model}{A:Around}{E:Value→Shared→Prop}{i:Nat}{x:Str}{v:V}{u:Value}{Q:Unit→Shared→Prop}(I:Inv X pins σ H s)(hN:X.N.Nodup)(hi:X.N[i]?=some x)(hx:Loc X.env.scope x)(r:RelV v u)
  (h:∀s',Inv X pins (σ.set i (some v)) H s'→(∃a,Heap.SameBut a s.heap s'.heap∧(a=X.env.locals∨X.env.cells.lookup x=some a))→Q () s') (hf:X.fn x=true∨X.env.scope.names.lookup x=some .local:=by first | exact .inl rfl | exact .inr rfl | assumption):wpAny M A (storeName X.env x u) Q E s:=by
 obtain⟨m,hn,hl⟩:=id I.loc
 have hcls:(X.env.scope.kind==.class||(X.env.scope.kind==.module&&X.env.locals != X.env.globals))=false:=by rw[I.ok.kind];rfl
 have hiσ:i<σ.length:=by rw[I.len];exact(D3.mp hi).1
 have KD:=I.KD
 have tracked:∀{a:Addr} {h':Heap},(∃o,s.heap.get? a=some o∧H a=none)→Heap.SameBut a s.heap h'→vL X.prog X.w H h':=λ{a h'} ha hs b ob e=>by
  obtain⟨_,_,hfree⟩:=ha
  refine(I.hok b ob e).stay (λc w' hc q=>(hs.2 c ?_).trans q) (λ_ q=>q) λ_ _ q=>q
  rintro rfl
  rcases hc with rfl | hc
  ·rw[hfree]at e;cases e
  ·rw[hfree]at hc;cases hc
 rcases hx with hk | hk
 ·refine wpAny_storeName_local hk hn (λh' hn' hs=>?_) hcls
  obtain⟨oL,_,_,hoL,_⟩:=id hn
  refine h _ ⟨I.ok,I.os,I.bare,⟨λb o e n hb hx=>?_,λb o e n hb hx=>?_,I.base.free,λb o e hx=>?_,I.base.tups,I.base.Gx,I.base.Ja⟩,⟨_,hn',λj y v' e1 e2 e3=>?_⟩,λy c e=>?_,I.free,I.oR,λp hp=>?_,tracked ⟨oL,hoL,I.free⟩ hs,by simpa using I.len⟩ ⟨_,hs,.inl rfl⟩
  ·exact(hs.2 b (D8 (D6 (Heap.lt_size e) I.ok.above))).trans (I.base.keep b o e n hb hx)
  ·obtain⟨sl,e1⟩:=I.base.slot b o e n hb hx
   exact⟨sl,(hs.2 b (D8 (D6 (Heap.lt_size e) I.ok.above))).trans e1⟩
  ·obtain⟨o',e1⟩:=I.base.there b o e hx
   exact⟨o',(hs.2 b (D8 (D6 (Heap.lt_size e) I.ok.above))).trans e1⟩
  ·by_cases hj:j=i
   ·subst hj
    rw[hi]at e1;cases e1
    rw[F9 hiσ]at e2
    cases e2
    exact⟨u,r,.inl ⟨hk,by simp⟩⟩
   ·rw[Q4 (Ne.symm hj)]at e2
    obtain⟨u',r',q⟩:=hl j y v' e1 e2 e3
    refine⟨u',r',?_⟩
    rcases q with ⟨k,e⟩ | ⟨k,c,e,z⟩
    ·refine .inl ⟨k,?_⟩
     have:y≠x:=λe=>hj (Jc hN e1 (e▸hi))
     simp[this,e]
    ·exact .inr ⟨k,c,e,z.sameBut hs (KD y c e)⟩
  ·obtain⟨w',z⟩:=I.cell y c e
   exact⟨w',z.sameBut hs (KD y c e)⟩
  ·obtain⟨e,n,ne,nf,d⟩:=I.pin p hp
   exact⟨(hs.2 p.1 ne).trans e,n,ne,nf,d⟩
 ·have hfn:X.fn x=true:=by
   rcases hf with z | z
   ·exact z
   ·rw[z]at hk;cases hk
  obtain⟨c,hc⟩:=I.ok.has x (.inl hk)
  obtain⟨w',z⟩:=I.cell x c hc
  refine wpAny_storeName_cell I.ok.kind hk hc z (λh' hc' hs=>?_)
  obtain⟨oc,hoc,aG4⟩:=id z
  refine h {s with heap:=h'} ⟨I.ok,I.os,I.bare,⟨λb o e n hb hx=>?_,λb o e n hb hx=>?_,I.base.free,λb o e hx=>?_,I.base.tups,I.base.Gx,I.base.Ja⟩,⟨m,hn.sameBut hs (Ne.symm (KD x c hc)),λj y v' e1 e2 e3=>?_⟩,λy c' e=>?_,I.free,I.oR,λp hp=>?_,tracked ⟨oc,hoc,I.oR x c hc⟩ hs,by simpa using I.len⟩ ⟨c,hs,.inr hc⟩
  ·exact(hs.2 b (D8 (D6 (Heap.lt_size e) (I.ok.cab x c hfn hc)))).trans (I.base.keep b o e n hb hx)
  ·obtain⟨sl,e1⟩:=I.base.slot b o e n hb hx
   exact⟨sl,(hs.2 b (D8 (D6 (Heap.lt_size e) (I.ok.cab x c hfn hc)))).trans e1⟩
  ·obtain⟨o',e1⟩:=I.base.there b o e hx
   exact⟨o',(hs.2 b (D8 (D6 (Heap.lt_size e) (I.ok.cab x c hfn hc)))).trans e1⟩
  ·by_cases hj:j=i
   ·subst hj
    rw[hi]at e1;cases e1
    rw[F9 hiσ]at e2
    cases e2
    exact⟨u,r,.inr ⟨.inl hk,c,hc,hc'⟩⟩
   ·rw[Q4 (Ne.symm hj)]at e2
    obtain⟨u',r',q⟩:=hl j y v' e1 e2 e3
    refine⟨u',r',?_⟩
    rcases q with q | ⟨k,c',e,z'⟩
    ·exact .inl q
    ·refine .inr ⟨k,c',e,z'.sameBut hs ?_⟩
     rintro rfl
     exact hj (Jc hN e1 (I.ok.inj _ _ _ e hc▸hi))
  ·by_cases hcc:c'=c
   ·subst hcc;exact⟨_,hc'⟩
   ·obtain⟨w2,z2⟩:=I.cell y c' e
    exact⟨w2,z2.sameBut hs hcc⟩
  ·obtain⟨e,n,ne,nf,d⟩:=I.pin p hp
   refine⟨(hs.2 p.1 ?_).trans e,n,ne,nf,d⟩
   intro q
   rw[q,hoc]at e
   have q':oc=p.2:=F0 e
   exact d w' (by rw[←q'];exact aG4)
theorem Jd{M:Model}{A:Around}{E:Value→Shared→Prop}{i:Nat}{x:Str}{v:V}{u:Value}{Q:Unit→Shared→Prop}(I:Inv X pins σ H s)(hN:X.N.Nodup)(hi:X.N[i]?=some x)(hx:Loc X.env.scope x)(r:RelV v u)
  (h:∀s',Inv X pins (σ.set i (some v)) H s'→Q () s') (hf:X.fn x=true∨X.env.scope.names.lookup x=some .local:=by first | exact .inl rfl | exact .inr rfl | assumption):wpAny M A (storeName X.env x u) Q E s:=
 Pq I hN hi hx r (λs' I' _=>h s' I') hf
theorem Inv.call'{s':Shared}{ch:List Addr}(I:Inv X pins σ H s)(ho:s'.os=s.os)(u:Un (frs X.stack) ch H H' s.heap s'.heap)(hok:vL X.prog X.w H' s'.heap)(hg:AllBare s'.gens)
  (hch:∀b∈ch,(b∈X.ex∨X.s₀.heap.objs.size≤b)∧b≠X.env.locals∧(∀x c,X.env.cells.lookup x=some c→c≠b)∧∀p∈X.pn++pins,p.1≠b):Inv X pins σ H' s':=by
 obtain⟨h',g',d',t',o'⟩:=s'
 have e:o'=s.os:=ho
 subst e
 exact I.call (g':=g') (t':=t') (d':=d') u hok hg hch
end
abbrev XK:=Value→Option Addr→Hp→Prop
abbrev St:=List (Option V)
abbrev VK:=V→Hp→Prop
abbrev TE:=St→Hp→VK→Prop
abbrev TT:=St→Hp→(Bool→Hp→Prop)→Prop
abbrev TA:=St→Hp→(List V→Hp→Prop)→Prop
structure Ends where
 nx:St→Hp→Prop
 rt:VK
 bk:St→Hp→Prop:=λ_ _=>False
 ct:St→Hp→Prop:=λ_ _=>False
abbrev TS:=Ends→St→Hp→Prop
def EP(X:Cx)(pins:List (Addr×Obj))(σ:St)(Q:VK)(u:Value)(s':Shared):Prop:=∃v H',Inv X pins σ H' s'∧RelV v u∧Q v H'
def TP(X:Cx)(pins:List (Addr×Obj))(σ:St)(Q:Bool→Hp→Prop)(b:Bool)(s':Shared):Prop:=∃H',Inv X pins σ H' s'∧Q b H'
def AP(X:Cx)(pins:List (Addr×Obj))(σ:St)(Q:List V→Hp→Prop)(us:List Value)(s':Shared):Prop:=∃vs H',Inv X pins σ H' s'∧Vals vs us∧Q vs H'
def SP(X:Cx)(pins:List (Addr×Obj))(D:Ends)(f:Flow)(s':Shared):Prop:=
 match f with
 | .next=>∃σ' H',Inv X pins σ' H' s'∧D.nx σ' H'
 | .brk=>∃σ' H',Inv X pins σ' H' s'∧D.bk σ' H'
 | .cont=>∃σ' H',Inv X pins σ' H' s'∧D.ct σ' H'
 | .ret u=>∃v σ' H',Inv X pins σ' H' s'∧RelV v u∧D.rt v H'
def PE(X:Cx)(e:Expr)(t:TE):Prop:=
 ∀(pins:List (Addr×Obj))(s:Shared)(σ:St)(H:Hp)(Q:VK),Inv X pins σ H s→t σ H Q→wpAny (model X.prog X.w) X.A (eval e X.env) (EP X pins σ Q) X.xe s
def PT(X:Cx)(e:Expr)(t:TT):Prop:=
 ∀(pins:List (Addr×Obj))(s:Shared)(σ:St)(H:Hp)(Q:Bool→Hp→Prop),Inv X pins σ H s→t σ H Q→wpAny (model X.prog X.w) X.A (isTrue e X.env (eval e X.env)) (TP X pins σ Q) X.xe s
def PW(X:Cx)(e:Expr)(t:TT):Prop:=
 ∀(whole:Sem Value)(pins:List (Addr×Obj))(s:Shared)(σ:St)(H:Hp)(Q:Bool→Hp→Prop),Inv X pins σ H s→t σ H Q→wpAny (model X.prog X.w) X.A (isTrue e X.env whole) (TP X pins σ Q) X.xe s
theorem PW.pt{X:Cx}{e:Expr}{t:TT}(h:PW X e t):PT X e t:=h _
def PA(X:Cx)(es:List Expr)(t:TA):Prop:=
 ∀(pos:Pos)(pins:List (Addr×Obj))(s:Shared)(σ:St)(H:Hp)(Q:List V→Hp→Prop),Inv X pins σ H s→t σ H Q→wpAny (model X.prog X.w) X.A (spliced (backTo pos (starEach es X.env))) (AP X pins σ Q) X.xe s
def PS(X:Cx)(st:Stmt)(t:TS):Prop:=
 ∀(pins:List (Addr×Obj))(s:Shared)(σ:St)(H:Hp)(D:Ends),Inv X pins σ H s→t D σ H→wpAny (model X.prog X.w) X.A (exec st X.env) (SP X pins D) X.xe s
def Wf(X:Cx)(st:List Stmt)(t:TS):Prop:=
 ∀(pins:List (Addr×Obj))(s:Shared)(σ:St)(H:Hp)(D:Ends),Inv X pins σ H s→t D σ H→wpAny (model X.prog X.w) X.A (execs st X.env) (SP X pins D) X.xe s
theorem gQ{α:Type}{t:Sem α}{Q Q':α→Shared→Prop}{M:Model}{A:Around}{E:Value→Shared→Prop}{s:Shared}(h:wpAny M A t Q E s)(hQ:∀a s,Q a s→Q' a s):wpAny M A t Q' E s:=wpAny_mono h hQ λ_ _ x=>x
end L2
namespace L2
open PySem PySem.Spec PyProof.Rows
section
variable{X:Cx}
def pN(i:Nat):TE:=λσ H Q=>∃v,σ[i]?=some (some v)∧Q v H
def tC(v:V):TE:=λ_ H Q=>Q v H
theorem aCO{i:Nat}{x:Str}{pos:Pos}(hN:X.N[i]?=some x)(hv:Vis X.env.scope x)(hd:(x==("__debug__" : Str))=false:=by decide) (hcd:(x==("__classdict__" : Str))=false:=by decide):PE X (.Name x pos) (pN i):=by
  intro pins s σ H Q I h
  obtain⟨v,e,h⟩:=h
  obtain⟨m,hn,hl⟩:=I.loc
  obtain⟨u,r,l⟩:=hl i x v hN e hv
  have fin:EP X pins σ Q u s:=⟨v,H,I,r,h⟩
  rcases l with ⟨hk,hm⟩ | ⟨hk,c,hc,hcell⟩
  · exact wpAny_Name (wpAny_loadName_local I.ok.kind hk hn hm fin) hd
  · rcases hk with hk | hk
    · exact wpAny_Name (wpAny_loadName_cell I.ok.kind hk hc hcell fin) hd
    · exact wpAny_Name (wpAny_loadName_free I.ok.kind hk hc hcell fin hcd) hd
theorem aCP{i j pos}:PE X (.Constant (.int i) j pos) (tC (.int i)):=λ_ _ _ H _ I h=>wpAny_Constant_int ⟨.int i,H,I.tok _,⟨_,rfl⟩,h⟩
theorem aFi{b j pos}:PE X (.Constant (.bool b) j pos) (tC (.bl b)):=λ_ _ _ H _ I h=>Constant_bool ⟨.bl b,H,I,rfl,h⟩
theorem aCQ{j pos}:PE X (.Constant .none j pos) (tC .non):=λ_ _ _ H _ I h=>Constant_none ⟨.non,H,I,rfl,h⟩
theorem aCR{x j pos}:PE X (.Constant (.str x) j pos) (tC (.str x)):=λ_ _ _ H _ I h=>Calls.Constant_str ⟨.str x,H,I.tok _,⟨_,rfl⟩,h⟩
def Gl(X:Cx)(x:Str):Prop:=X.env.kindOf x=some .globalImplicit
theorem xX{E:Value→Shared→Prop}{pins:List (Addr×Obj)}{s:Shared}{σ:St}{H:Hp}{x:Str}{u:Value}{pos:Pos}{Q:Value→Shared→Prop}(I:Inv X pins σ H s)(hg:Gl X x)(hm:X.mg x=some u)(h:Q u s)
  (hd:(x==("__debug__" : Str))=false:=by decide):wpAny (model X.prog X.w) X.A (eval (.Name x pos) X.env) Q E s:=
 Calls.Name_function_global I.ok.kind hg (Calls.loadGlobal_global (by rw[I.ok.glob];exact I.mod.glob.keeps I.bk) hm h) hd
theorem uF{E:Value→Shared→Prop}{pins:List (Addr×Obj)}{s:Shared}{σ:St}{H:Hp}{x:Str}{u:Value}{pos:Pos}{Q:Value→Shared→Prop}(I:Inv X pins σ H s)(hg:Gl X x)(hm:X.mg x=none)(hv:bootBuiltins x=some u)(h:Q u s)
  (hn:x ≠ "__name__" := by decide) (hd:(x==("__debug__" : Str))=false:=by decide):wpAny (model X.prog X.w) X.A (eval (.Name x pos) X.env) Q E s:=by
 obtain⟨mb,h1,h2⟩:=I.mod.blt
 exact Calls.Name_function_global I.ok.kind hg (Calls.loadGlobal_builtin (by rw[I.ok.glob];exact I.mod.glob.keeps I.bk) hm (by rw[I.ok.blt];exact h1.keeps I.bk) ((h2 x hn).trans hv) h) hd
theorem aAn{x:Str}{v:V}{u:Value}{pos:Pos}(hg:Gl X x)(hm:X.mg x=some u)(r:RelV v u)(hd:(x==("__debug__" : Str))=false:=by decide):PE X (.Name x pos) (tC v):=
 λ_ _ _ H _ I h=>xX I hg hm ⟨v,H,I,r,h⟩ hd
theorem aAo{x:Str}{v:V}{u:Value}{pos:Pos}(hg:Gl X x)(hm:X.mg x=none)(hv:bootBuiltins x=some u)(r:RelV v u)(hn:x ≠ "__name__" := by decide) (hd:(x==("__debug__" : Str))=false:=by decide):PE X (.Name x pos) (tC v):=
 λ_ _ _ H _ I h=>uF I hg hm hv ⟨v,H,I,r,h⟩ hn hd
variable{a b:Expr}{ta tb:TE}{pos:Pos}
def PC(X:Cx)(op:CmpOp)(a b:Expr)(t:TE):Prop:=
 ∀(pins:List (Addr×Obj))(s:Shared)(σ:St)(H:Hp)(Q:VK),Inv X pins σ H s→t σ H Q →
  wpAny (model X.prog X.w) X.A (eval a X.env) (λv s₁=>wpAny (model X.prog X.w) X.A (eval b X.env) (λu s₂=>wpAny (model X.prog X.w) X.A (compareOp op v u) (EP X pins σ Q) X.xe s₂) X.xe s₁) X.xe s
def tB(t:TE):TT:=λσ H Q=>t σ H λx H1=>∃c,x=.bl c∧Q c H1
theorem aj{op:CmpOp}{t:TE}(h:PC X op a b t)(h1:behindInMarks op b=false:=by first | exact nobehind _ (by decide) (by decide) | rfl):PE X (.Compare a [op] [b] pos) t:=λpins s σ H Q I hw=>wpAny_Compare1 (h pins s σ H Q I hw) h1
theorem aCS{op:CmpOp}{t:TE}(h:PC X op a b t)(h1:behindInMarks op b=false:=by first | exact nobehind _ (by decide) (by decide) | rfl):PT X (.Compare a [op] [b] pos) (tB t):=by
 intro pins s σ H Q I hw
 refine wpAny_isTrue_Compare1 (gQ (h pins s σ H _ I hw) λv s1 h1=>gQ h1 λu s2 h2=>gQ h2 λc s3 ⟨x,H1,I1,r1,q1⟩=>?_) h1
 obtain⟨d,rfl,q⟩:=q1
 cases r1
 exact wpAny_truthy_bool ⟨H1,I1,q⟩
variable{tA tB':TT}{rest:List Expr}
def aCT(t u:TT):TT:=λσ H Q=>t σ H λc H1=>if c=true then u σ H1 Q else Q false H1
def tOr(t u:TT):TT:=λσ H Q=>t σ H λc H1=>if c=true then Q true H1 else u σ H1 Q
def aCU(t:TT):TT:=λσ H Q=>t σ H λc H1=>Q (!c) H1
theorem aAp(ha:PT X a tA):PW X (.BoolOp .And [a] pos) tA:=by
 intro wh pins s σ H Q I h
 refine isTrue_and (gQ (ha pins s σ H Q I h) λc s1 e=>?_)
 cases c with
 | true=>exact isTrue_and_nil e
 | false=>exact e
theorem ak(ha:PT X a tA):PW X (.BoolOp .Or [a] pos) tA:=by
 intro wh pins s σ H Q I h
 refine isTrue_or (gQ (ha pins s σ H Q I h) λc s1 e=>?_)
 cases c with
 | false=>exact isTrue_or_nil e
 | true=>exact e
theorem aCV(ha:PT X a tA)(hb:PW X (.BoolOp .And (b::rest) pos) tB'):PW X (.BoolOp .And (a::b::rest) pos) (aCT tA tB'):=by
 intro wh pins s σ H Q I h
 refine isTrue_and (gQ (ha pins s σ H _ I h) λc s1 ⟨H1,I1,q1⟩=>?_)
 cases c with
 | true=>exact hb wh pins s1 σ H1 Q I1 q1
 | false=>exact⟨H1,I1,q1⟩
theorem aB5(ha:PT X a tA)(hb:PW X (.BoolOp .Or (b::rest) pos) tB'):PW X (.BoolOp .Or (a::b::rest) pos) (tOr tA tB'):=by
 intro wh pins s σ H Q I h
 refine isTrue_or (gQ (ha pins s σ H _ I h) λc s1 ⟨H1,I1,q1⟩=>?_)
 cases c with
 | true=>exact⟨H1,I1,q1⟩
 | false=>exact hb wh pins s1 σ H1 Q I1 q1
theorem aCW(ha:PT X a tA):PT X (.UnaryOp .Not a pos) (aCU tA):=by
 intro pins s σ H Q I h
 exact isTrue_not (ha pins s σ H (λc H1=>Q (!c) H1) I h)
def tIf(t:TT)(ta tb:TE):TE:=λσ H Q=>t σ H λc H1=>if c=true then ta σ H1 Q else tb σ H1 Q
theorem ao{c:Expr}(hc:PT X c tA)(ha:PE X a ta)(hb:PE X b tb):PE X (.IfExp c a b pos) (tIf tA ta tb):=by
 intro pins s σ H Q I h
 refine wpAny_IfExp (gQ (hc pins s σ H _ I h) λd s1 ⟨H1,I1,q1⟩=>?_)
 cases d with
 | true=>exact ha pins s1 σ H1 Q I1 q1
 | false=>exact hb pins s1 σ H1 Q I1 q1
end
end L2
namespace L2
open PySem PySem.Spec PyProof.Rows
def pY(K:aD)(H:Hp)(a:Addr)(xs:List V):Prop:=
 Rd H a (.lst xs) ∨
  ∃(o:Obj)(its:Array Value)(n:Nat),K.lookup a=some o∧o.cls=.type "list" ∧ o.dict=none∧o.data=.seq its n∧its.size≤sizeLine∧Vals xs its.toList
def vU(K:aD)(H:Hp)(a:Addr)(xs:List V):Prop:=
 Rd H a (.tup xs) ∨
  ∃(o:Obj)(its:Array Value)(n:Nat),K.lookup a=some o∧o.cls=.type "tuple" ∧ o.data=.seq its n∧its.size≤sizeLine∧Vals xs its.toList
def aG5:Value→Option V
 | .none=>some .non
 | .bool b=>some (.bl b)
 | .int i _=>some (.int i)
 | .str x _=>some (.str x)
 | .bytes b _=>some (.byt b)
 | .float b _=>some (.flt b)
 | .ref a=>some (.ref a)
 | .type n=>some (.ty n)
 | _=>none
theorem RelV.abs{x:V}{u:Value}(r:RelV x u):aG5 u=some x:=by
 cases x with
 | non=>cases r;rfl
 | bl _=>cases r;rfl
 | int _=>obtain⟨t,rfl⟩:=r;rfl
 | str _=>obtain⟨t,rfl⟩:=r;rfl
 | byt _=>obtain⟨t,rfl⟩:=r;rfl
 | flt _=>obtain⟨t,rfl⟩:=r;rfl
 | ref _=>cases r;rfl
 | ty _=>cases r;rfl
theorem RelV.inj{x y:V}{u:Value}(r:RelV x u)(q:RelV y u):x=y:=F0 (r.abs.symm.trans q.abs)
theorem Vals.inj:∀{xs ys:List V} {us:List Value},Vals xs us→Vals ys us→xs=ys
 | _,_,_,.nil,.nil=>rfl
 | _,_,_,.cons r t,.cons r' t'=>by rw[r.inj r',Vals.inj t t']
section
variable{X:Cx}{pins:List (Addr×Obj)}{σ:St}{H:Hp}{s:Shared}{a:Addr}{xs ys:List V}
theorem pY.of{K:aD}(h:H a=some (.lst xs)):pY K H a xs:=.inl (.inl h)
theorem vU.of{K:aD}(h:H a=some (.tup xs)):vU K H a xs:=.inl (.inl h)
theorem Inv.list(I:Inv X pins σ H s)(h:pY X.K H a xs):∃its:List Value,Vals xs its∧PlainL s.heap a its.toArray∧xs.length≤sizeLine:=by
 rcases h with h | ⟨o,its,n,hk,hc,hd,hs,hz,r⟩
 ·obtain⟨z,its,n,r,e⟩:=h.ok I.hok
  exact⟨its,r,⟨_,n,e,rfl,rfl,rfl⟩,z⟩
 ·refine⟨its.toList,r,⟨o,n,I.Nz a o hk,hc,hd,by simpa using hs⟩,?_⟩
  have e:=r.length
  simp only[G6]at e
  omega
theorem Inv.tuple(I:Inv X pins σ H s)(h:vU X.K H a xs):∃its:List Value,Vals xs its∧IsTup s.heap a its.toArray∧xs.length≤sizeLine:=by
 rcases h with h | ⟨o,its,n,hk,hc,hs,hz,r⟩
 ·obtain⟨z,its,r,p⟩:=h.ok I.hok
  exact⟨its,r,p,z⟩
 ·refine⟨its.toList,r,⟨o,I.Nz a o hk,hc,n,by simpa using hs⟩,?_⟩
  have e:=r.length
  simp only[G6]at e
  omega
theorem Inv.Wm(I:Inv X pins σ H s)(h:pY X.K H a xs)(h':pY X.K H a ys):xs=ys:=by
 obtain⟨its,r,⟨o,n,e,_,_,d⟩,_⟩:=I.list h
 obtain⟨its',r',⟨o',n',e',_,_,d'⟩,_⟩:=I.list h'
 rw[e]at e';cases e'
 rw[d]at d'
 injection d' with d1 _
 have:its=its':=by simpa using congrArg l0 d1
 subst this
 exact r.inj r'
theorem Inv.Pu(I:Inv X pins σ H s)(h:vU X.K H a xs)(h':vU X.K H a ys):xs=ys:=by
 obtain⟨its,r,⟨o,e,_,n,d⟩,_⟩:=I.tuple h
 obtain⟨its',r',⟨o',e',_,n',d'⟩,_⟩:=I.tuple h'
 rw[e]at e';cases e'
 rw[d]at d'
 injection d' with d1 _
 have:its=its':=by simpa using congrArg l0 d1
 subst this
 exact r.inj r'
end
abbrev Cx.wish(X:Cx)(E:Value→Shared→Prop):Cx:={X with xe:=E}
abbrev Cx.KH(X:Cx):Cx:=X.wish λ_ _=>False
theorem Cx.Ok.wish{X:Cx}(ok:X.Ok)(E:Value→Shared→Prop):(X.wish E).Ok:=
 ⟨ok.mod,ok.kind,ok.glob,ok.blt,ok.above,ok.inj,ok.has,ok.cab,ok.hd,ok.frames,ok.stk,ok.exf,ok.bs,ok.SN,ok.Tf,ok.Wl,ok.vW,ok.ZZ⟩
theorem Cx.Ok.vX{X:Cx}{E:Value→Shared→Prop}(ok:(X.wish E).Ok):X.Ok:=
 ⟨ok.mod,ok.kind,ok.glob,ok.blt,ok.above,ok.inj,ok.has,ok.cab,ok.hd,ok.frames,ok.stk,ok.exf,ok.bs,ok.SN,ok.Tf,ok.Wl,ok.vW,ok.ZZ⟩
section
variable{X:Cx}{pins:List (Addr×Obj)}{σ:St}{H:Hp}{s:Shared}{E:Value→Shared→Prop}
theorem Inv.wish(I:Inv X pins σ H s)(E:Value→Shared→Prop):Inv (X.wish E) pins σ H s:=⟨I.ok.wish E,I.os,I.bare,I.base,I.loc,I.cell,I.free,I.oR,I.pin,I.hok,I.len⟩
theorem Inv.vX(I:Inv (X.wish E) pins σ H s):Inv X pins σ H s:=⟨I.ok.vX,I.os,I.bare,I.base,I.loc,I.cell,I.free,I.oR,I.pin,I.hok,I.len⟩
theorem SP.vX{D:Ends}{f:Flow}{s':Shared}(h:SP (X.wish E) pins D f s'):SP X pins D f s':=by
 cases f with
 | next=>obtain⟨σ',H',I,q⟩:=h;exact⟨σ',H',I.vX,q⟩
 | brk=>obtain⟨σ',H',I,q⟩:=h;exact⟨σ',H',I.vX,q⟩
 | cont=>obtain⟨σ',H',I,q⟩:=h;exact⟨σ',H',I.vX,q⟩
 | ret u=>obtain⟨v,σ',H',I,r,q⟩:=h;exact⟨v,σ',H',I.vX,r,q⟩
theorem Wf.KH{st:List Stmt}{t:TS}(h:Wf X.KH st t):Wf X st t:=λpins s σ H D I hw=>
 wpAny_mono (h pins s σ H D (I.wish _) hw) (λ_ _ q=>q.vX) λ_ _ z=>False.elim z
end
section
variable{X:Cx}{st:Stmt}{rest:List Stmt}{t u:TS}{e:Expr}{te:TE}{pos:Pos}
def aB6:TS:=λD σ H=>D.nx σ H
def aAq(t u:TS):TS:=λD σ H=>t {D with nx:=u D} σ H
theorem aAr:Wf X [] aB6:=λ_ _ σ H _ I h=>wpAny_execs_nil ⟨σ,H,I,h⟩
theorem Wn(h1:PS X st t)(h2:Wf X rest u):Wf X (st::rest) (aAq t u):=by
 intro pins s σ H D I h
 refine wpAny_execs_cons (gQ (h1 pins s σ H {D with nx:=u D} I h) λf s1 q=>?_)
 cases f with
 | next=>
  obtain⟨σ',H',I',q⟩:=q
  exact h2 pins s1 σ' H' D I' q
 | ret v=>exact q
 | brk=>exact q
 | cont=>exact q
theorem KJ(h1:PS X st t):Wf X [st] t:=by
 intro pins s σ H D I h
 refine wpAny_execs_cons (gQ (h1 pins s σ H D I h) λf s1 q=>?_)
 cases f with
 | next=>exact wpAny_execs_nil q
 | ret v=>exact q
 | brk=>exact q
 | cont=>exact q
theorem Inv.quiet{pins:List (Addr×Obj)}{σ:St}{H:Hp}{s:Shared}(I:Inv X pins σ H s):interactive X.env=false:=by simp[interactive,I.ok.kind]
def lU(te:TE):TS:=λD σ H=>te σ H λ_ H1=>D.nx σ H1
theorem mG(he:PE X e te)(hs:swapsWith e none pos.line X.env=pure false:=by rfl):PS X (.Expr e pos) (lU te):=by
 intro pins s σ H D I h
 exact wpAny_Expr_any (gQ (he pins s σ H _ I h) λv s1 ⟨x,H1,I1,r1,q1⟩=>⟨σ,H1,I1,q1⟩) I.quiet hs
def SQ(te:TE):TS:=λD σ H=>te σ H D.rt
theorem Je(he:PE X e te):PS X (.Return (some e) pos) (SQ te):=by
 intro pins s σ H D I h
 exact wpAny_Return_some (gQ (he pins s σ H _ I h) λv s1 ⟨x,H1,I1,r1,q1⟩=>⟨x,σ,H1,I1,r1,q1⟩)
def aAs(c:TT)(t u:TS):TS:=λD σ H=>c σ H λb H1=>if b=true then t D σ H1 else u D σ H1
theorem aq{c:Expr}{a b:List Stmt}{tc:TT}(hc:PT X c tc)(ha:Wf X a t)(hb:Wf X b u):PS X (.If c a b pos) (aAs tc t u):=by
 intro pins s σ H D I h
 refine wpAny_If (gQ (hc pins s σ H _ I h) λd s1 ⟨H1,I1,q1⟩=>?_)
 cases d with
 | true=>exact ha pins s1 σ H1 D I1 q1
 | false=>exact hb pins s1 σ H1 D I1 q1
def Jf:TS:=λ_ _ _=>False
theorem au:PS X st Jf:=λ_ _ _ _ _ _ h=>h.elim
theorem Px{sts:List Stmt}:Wf X sts Jf:=λ_ _ _ _ _ _ h=>h.elim
end
abbrev TG:=V→St→Hp→(St→Hp→Prop)→Prop
abbrev TGs:=List V→St→Hp→(St→Hp→Prop)→Prop
def PG(X:Cx)(target:Expr)(t:TG):Prop:=
 ∀(pins:List (Addr×Obj))(s:Shared)(σ:St)(H:Hp)(v:V)(u:Value)(Q:St→Hp→Prop),Inv X pins σ H s→RelV v u→t v σ H Q →
  wpAny (model X.prog X.w) X.A (assign target X.env u) (λ_ s'=>∃σ' H',Inv X pins σ' H' s'∧Q σ' H') X.xe s
def PGs(X:Cx)(ts:List Expr)(t:TGs):Prop:=
 ∀(pins:List (Addr×Obj))(s:Shared)(σ:St)(H:Hp)(vs:List V)(us:List Value)(Q:St→Hp→Prop),Inv X pins σ H s→Vals vs us→t vs σ H Q →
  wpAny (model X.prog X.w) X.A (assignInOrder ((assignEach ts X.env).map (·.2)) us) (λ_ s'=>∃σ' H',Inv X pins σ' H' s'∧Q σ' H') X.xe s
abbrev aCX:=V→V→V→Hp→(Hp→Prop)→Prop
def aFj(X:Cx)(t:aCX):Prop:=
 ∀(pins:List (Addr×Obj))(s:Shared)(σ:St)(H:Hp)(o i v:V)(ov iv u:Value)(Q:Hp→Prop),Inv X pins σ H s→RelV o ov→RelV i iv→RelV v u→t o i v H Q →
  wpAny (model X.prog X.w) X.A (setItem ov iv u) (λ_ s'=>∃H',Inv X pins σ H' s'∧Q H') X.xe s
section
variable{X:Cx}{pos:Pos}
def fY(i:Nat):TG:=λv σ H Q=>Q (σ.set i (some v)) H
theorem mH{i:Nat}{x:Str}(hN:X.N.Nodup)(hi:X.N[i]?=some x)(hx:Loc X.env.scope x)(hf:X.fn x=true∨X.env.scope.names.lookup x=some .local:=by first | exact .inl rfl | exact .inr rfl | assumption):PG X (.Name x pos) (fY i):=by
 intro pins s σ H v u Q I r h
 exact wpAny_assign_Name (Jd I hN hi hx r (λs' I'=>⟨_,H,I',h⟩) hf)
def aFk:TGs:=λvs σ H Q=>vs=[]∧Q σ H
def aB8(t:TG)(u:TGs):TGs:=λvs σ H Q=>∃v r,vs=v::r∧t v σ H λσ' H'=>u r σ' H' Q
theorem aAt:PGs X [] aFk:=by
 intro pins s σ H vs us Q I r h
 obtain⟨e,h⟩:=h
 subst e
 cases r
 exact assignInOrder_nil ⟨σ,H,I,h⟩
theorem Wo{e:Expr}{es:List Expr}{t:TG}{u:TGs}(h1:PG X e t)(h2:PGs X es u)
  (hs:(assignEach (e::es) X.env).map (·.2)=assign e X.env::(assignEach es X.env).map (·.2):=by rfl):PGs X (e::es) (aB8 t u):=by
 intro pins s σ H vs us Q I r h
 obtain⟨v,vr,e1,h⟩:=h
 subst e1
 cases r with
 | cons r rr=>
  rw[hs]
  refine assignInOrder_cons (gQ (h1 pins s σ H _ _ _ I r h) λ_ s1 ⟨σ1,H1,I1,q1⟩=>?_)
  exact h2 pins s1 σ1 H1 _ _ Q I1 rr q1
def aAu(K:aD)(n:Nat)(t:TGs):TG:=λv σ H Q=>∃a xs,v=.ref a∧vU K H a xs∧xs.length=n∧t xs σ H Q
theorem aCY{es:List Expr}{k:Nat}{t:TGs}{n:Nat}(hc:X.calm=true)(h:PGs X es t)
  (hn:(assignEach es X.env).length=n:=by rfl) (hst:(assignEach es X.env).findIdx? (·.1)=none:=by rfl):PG X (.Tuple es k pos) (aAu X.K n t):=by
 intro pins s σ H v u Q I r hw
 obtain⟨a,xs,e1,hq,hl,hw⟩:=hw
 subst e1
 cases r
 obtain⟨its,rv,ht,hz⟩:=I.tuple hq
 refine assign_Tuple_tuple (I.ok.hd hc) ht (by simp[hn,←hl,rv.length]) hst λh' hx=>?_
 have I1:Inv X pins σ H {s with heap:=h'}:=I.kept (t':=s.toks) λb o e=>hx b o (D8 (Heap.lt_size e)) e
 exact h pins _ σ H xs _ Q I1 (by simpa using rv) hw
def aAv(to ti:TE)(t:aCX):TG:=λv σ H Q=>to σ H λo H1=>ti σ H1 λi H2=>t o i v H2 λH3=>Q σ H3
theorem az{o i:Expr}{to ti:TE}{t:aCX}(ho:PE X o to)(hi:PE X i ti)(hs:aFj X t)
  (ha:∀v,assign (.Subscript o i pos) X.env v=(do
   let ov ←holding [v] (eval o X.env)
   let iv ←holding [v,ov] (eval i X.env)
   standAt pos
   holding [v,ov,iv] (setItem ov iv v)
   release [v,ov,iv] []):=by intro _;rfl):PG X (.Subscript o i pos) (aAv to ti t):=by
 intro pins s σ H v u Q I r h
 rw[ha]
 refine wpAny_bind (wpAny_holding (gQ (ho pins s σ H _ I h) λov s1 ⟨x,H1,I1,r1,q1⟩=>?_))
 refine wpAny_bind (wpAny_holding (gQ (hi pins s1 σ H1 _ I1 q1) λiv s2 ⟨y,H2,I2,r2,q2⟩=>?_))
 refine wpAny_bind (wpAny_standAt (wpAny_bind (wpAny_holding (gQ (hs pins s2 σ H2 x y v ov iv u _ I2 r1 r2 r q2) λ_ s3 ⟨H3,I3,q3⟩=>?_))))
 exact wpAny_release ⟨σ,H3,I3,q3⟩
def sX(te:TE)(g:TG):TS:=λD σ H=>te σ H λx H1=>g x σ H1 D.nx
theorem BZ{tg e:Expr}{te:TE}{g:TG}(he:PE X e te)(hg:PG X tg g)(hs:swapsWithSole [tg] e pos.line X.env=pure false:=by rfl)(hw:swappedStores [tg] e X.env=pure none:=by rfl)
  (h1:(assignEach [tg] X.env).map (·.2)=[assign tg X.env]:=by rfl):PS X (.Assign [tg] e pos) (sX te g):=by
 intro pins s σ H D I h
 refine wpAny_Assign_stores (gQ (he pins s σ H _ I h) λv s1 ⟨x,H1,I1,r1,q1⟩=>?_) hs hw
 rw[h1]
 exact gQ (hg pins s1 σ H1 x v _ I1 r1 q1) λ_ s2 q=>q
theorem bH{i:Nat}{x:Str}{e:Expr}{te:TE}{pos':Pos}(hN:X.N.Nodup)(hi:X.N[i]?=some x)(hx:Loc X.env.scope x)(he:PE X e te)(hs:swapsWith e (some (.Name x pos')) pos.line X.env=pure false:=by rfl)(hf:X.fn x=true∨X.env.scope.names.lookup x=some .local:=by first | exact .inl rfl | exact .inr rfl | assumption) :
  PS X (.Assign [.Name x pos'] e pos) (sX te (fY i)):=by
 intro pins s σ H D I h
 refine wpAny_Assign_Name (gQ (he pins s σ H _ I h) λv s1 ⟨y,H1,I1,r1,q1⟩=>?_) hs
 exact Jd I1 hN hi hx r1 (λs2 I2=>⟨_,H1,I2,q1⟩) hf
end
section
variable{X:Cx}{pos:Pos}
def CG(c:TT)(tb:TS):TS:=λD σ H=>∃W:Nat→St→Hp→Prop,(∃m,W m σ H)∧∀m σ H,W m σ H →
 c σ H λb H1=>if b=true then ∃N:St→Hp→Prop,(∀σ' H',N σ' H'→∃m',m'<m∧W m' σ' H')∧tb {D with nx:=N,ct:=N,bk:=D.nx} σ H1 else D.nx σ H1
theorem bc{c:Expr}{body:List Stmt}{tc:TT}{tb:TS}(hp:PassesOwn (model X.prog X.w) X.A X.env X.xe)(hc:PT X c tc)(hb:Wf X body tb):PS X (.While c body [] pos) (CG tc tb):=by
 intro pins s σ H D I h
 obtain⟨W,⟨m0,w0⟩,turn⟩:=h
 refine wpAny_While (codeAny_whileLoop (λn s'=>∃σ' H',Inv X pins σ' H' s'∧W n σ' H') ?_ m0 ⟨σ,H,I,w0⟩)
 rintro n s1 ⟨σ1,H1,I1,w1⟩
 refine wpAny_passesOwn hp (gQ (hc pins s1 σ1 H1 _ I1 (turn n σ1 H1 w1)) λb s2 ⟨H2,I2,q2⟩=>?_)
 cases b with
 | true=>
  obtain⟨N,hN,q2⟩:=q2
  rw[if_pos rfl]
  refine wpAny_passesOwn hp (gQ (hb pins s2 σ1 H2 _ I2 q2) λf s3 q3=>?_)
  cases f with
  | next=>
   obtain⟨σ3,H3,I3,n3⟩:=q3
   obtain⟨m',hm,w3⟩:=hN σ3 H3 n3
   exact⟨m',hm,σ3,H3,I3,w3⟩
  | cont=>
   obtain⟨σ3,H3,I3,n3⟩:=q3
   obtain⟨m',hm,w3⟩:=hN σ3 H3 n3
   exact⟨m',hm,σ3,H3,I3,w3⟩
  | brk=>exact q3
  | ret v=>exact q3
 | false=>
  rw[if_neg D7]
  exact wpAny_execs_nil ⟨σ1,H2,I2,q2⟩
end
structure It where
 go:Nat→Hp→Prop
 yld:Nat→Hp→V→Hp→Prop
 stop:Nat→Hp→Prop
def Ti(X:Cx)(pins:List (Addr×Obj))(H:Hp)(b:Addr):Prop:=
 H b=none∧b≠X.env.locals∧b∉X.fs∧(b∈X.ex∨X.s₀.heap.objs.size≤b)∧(∀x c,X.env.cells.lookup x=some c→c≠b)∧∀p∈X.pn++pins,p.1≠b
theorem Inv.aCZ{X:Cx}{pins:List (Addr×Obj)}{σ:St}{H H':Hp}{s:Shared}{b:Addr}(I:Inv X pins σ H s)(hb:s.heap.objs.size≤b)(hn:H' b=none):Ti X pins H' b:=by
 refine⟨hn,P2 (D6 I.lt hb),I.aG3 hb,.inr (F5 I.sz hb),λx c e z=>?_,λp hp z=>?_⟩
 ·obtain⟨v,q⟩:=I.cell x c e
  exact absurd (D6 q.lt (by rw[z];exact hb)) (J7 _)
 ·exact absurd (D6 (Heap.lt_size (I.pin p hp).1) (by rw[z];exact hb)) (J7 _)
structure Turn(P:Program)(w:World)(K:aD)(tg:Expr)(J:It)(fp:List Addr)(it:Addr)(tn:Nat→Heap→Prop):Prop where
 mem:it∈fp
 obj:∀i h,tn i h→∀b∈fp,∃o,h.get? b=some o∧∀v,o.data≠.cell v
 keep:∀i h h',tn i h→(∀b∈fp,∀o,h.get? b=some o→h'.get? b=some o)→tn i h'
 item:∀(X:Cx),X.prog=P→X.w=w→X.K=K→X.calm=true→∀(i:Nat)(pins:List (Addr×Obj))(s:Shared)(σ:St)(H:Hp)(E:Value→Shared→Prop),Inv X pins σ H s→(∀b∈fp,Ti X pins H b)→tn i s.heap→J.go i H →
  wpAny (model P w) X.A (pyNext (.ref it)) (λr s1=>∃u,r=some u ∧
   wpAny (model P w) X.A (letOwnedTupleGo tg (.ref it) u) (λ_ s2=>∃x H',Inv X pins σ H' s2∧RelV x u∧J.yld i H x H'∧tn (i+1) s2.heap∧∀b∈fp,H' b=none) E s1) E s
 done:∀(X:Cx),X.prog=P→X.w=w→X.K=K→X.calm=true→∀(i:Nat)(pins:List (Addr×Obj))(s:Shared)(σ:St)(H:Hp)(E:Value→Shared→Prop),Inv X pins σ H s→(∀b∈fp,Ti X pins H b)→tn i s.heap→J.stop i H →
  wpAny (model P w) X.A (pyNext (.ref it)) (λr s1=>r=none∧Inv X pins σ H s1) E s
 self:∀(A:Around)(i:Nat)(s:Shared)(Q:Value→Shared→Prop)(E:Value→Shared→Prop),tn i s.heap→Q (.ref it) s→wpAny (model P w) A (pyIter (.ref it)) Q E s
abbrev TI:=St→Hp→(It→Hp→Prop)→Prop
def PIE(X:Cx)(pins:List (Addr×Obj))(σ:St)(tg:Expr)(R:It→Hp→Prop)(itv:Value)(s2:Shared):Prop:=
 ∃(it:Addr)(fp:List Addr)(tn:Nat→Heap→Prop)(J:It)(H':Hp),itv=.ref it∧Inv X pins σ H' s2∧Turn X.prog X.w X.K tg J fp it tn∧tn 0 s2.heap∧(∀b∈fp,Ti X pins H' b)∧R J H'
def PI(X:Cx)(tg iter:Expr)(wi:TI):Prop:=
 ∀(pins:List (Addr×Obj))(s:Shared)(σ:St)(H:Hp)(R:It→Hp→Prop),Inv X pins σ H s→wi σ H R →
  wpAny (model X.prog X.w) X.A (eval iter X.env) (λv s1=>wpAny (model X.prog X.w) X.A (pyIter v) (PIE X pins σ tg R) X.xe s1) X.xe s
theorem bf{M:Model}{A:Around}{E:Value→Shared→Prop}{s:Shared}{tg:Expr}{it:Addr}{u:Value}{o:Obj}{n:String}{vs:Array Value}{Q:Unit→Shared→Prop}(ho:s.heap.get? it=some o)(hc:o.cls=.type n)(hd:o.data=.fields vs)
    (hn:["enumerate", "zip", "dict_itemiterator", "dict_reverseitemiterator", "odict_iterator", "itertools.zip_longest", "itertools.pairwise"].contains n=false) (hQ:Q () s):wpAny M A (letOwnedTupleGo tg (.ref it) u) Q E s:=by
  unfold letOwnedTupleGo
  cases tg<;>first
    | exact wpAny_pure hQ
    | (cases u<;>first
        | exact wpAny_pure hQ
        | (refine wpAny_bind (wpAny_load ho ?_)
           rw[hc,hd]
           show wpAny M A (if(["enumerate", "zip", "dict_itemiterator", "dict_reverseitemiterator", "odict_iterator", "itertools.zip_longest", "itertools.pairwise"].contains n&&vs[0]?==some (rawInt _))=true then _ else _) Q E s
           rw[if_neg (by intro h;rw[hn,Bool.false_and]at h;cases h)]
           exact wpAny_pure hQ))
def Itl(K:aD)(a:Addr):It:=
 ⟨λi H=>∃xs x,pY K H a xs∧xs[i]?=some x,λi H x H'=>H'=H∧∀xs,pY K H a xs→xs[i]?=some x,λi H=>∃xs,pY K H a xs∧xs.length≤i⟩
def Itt(K:aD)(a:Addr):It:=
 ⟨λi H=>∃xs x,vU K H a xs∧xs[i]?=some x,λi H x H'=>H'=H∧∀xs,vU K H a xs→xs[i]?=some x,λi H=>∃xs,vU K H a xs∧xs.length≤i⟩
def Itr(lo:Int)(n:Nat):It:=⟨λi _=>i<n,λi H x H'=>H'=H∧x=.int (lo+i),λi _=>n≤i⟩
theorem SX{P:Program}{w:World}{K:aD}{tg:Expr}(a it:Addr):Turn P w K tg (Itl K a) [it] it (λi h=>h.IsListIter it a i) where
 mem:=by simp
 obj:=λi h st b hb=>by
  have e:b=it:=by simpa using hb
  subst e
  obtain⟨o,e,c,d⟩:=st
  exact⟨o,e,λv z=>by rw[d]at z;cases z⟩
 keep:=λi h h' st k=>st.at λo e=>k it (by simp) o e
 item:=by
  intro X hP hw hK hc i pins s σ H E I hf st hg
  subst hP hw hK
  obtain⟨xs,x,hq,hx⟩:=hg
  obtain⟨its,rv,p,hz⟩:=I.list hq
  obtain⟨u,hu,ru⟩:=rv.get hx
  obtain⟨f0,f1,f2,f3,f4,f5⟩:=hf it (by simp)
  refine wpAny_pyNext_list_item st p.isList (x:=u) (by simpa using hu) λh' st' sb=>?_
  have I1:Inv X pins σ H {s with heap:=h'}:=I.turned (t':=s.toks) (λb o hb e=>(sb.2 b hb).trans e) f0 f1 f3 f4 f5
  obtain⟨o,e,c,d⟩:=id st'
  exact⟨u,rfl,bf (s:={s with heap:=h'}) e c d (by decide) ⟨x,H,I1,ru,⟨rfl,λys hy=>by rw[I.Wm hy hq];exact hx⟩,st',λb hb=>(hf b hb).1⟩⟩
 done:=by
  intro X hP hw hK hc i pins s σ H E I hf st hg
  subst hP hw hK
  obtain⟨xs,hq,hx⟩:=hg
  obtain⟨its,rv,p,hz⟩:=I.list hq
  obtain⟨f0,f1,f2,f3,f4,f5⟩:=hf it (by simp)
  have hl:=rv.length
  exact wpAny_pyNext_list_end (I.ok.hd hc) st p.isList (by simp;omega) λh' eb=>⟨rfl,I.turned (t':=s.toks) (λb o hb e=>eb b o hb e) f0 f1 f3 f4 f5⟩
 self:=λ_ _ _ _ _ st h=>wpAny_pyIter_listiter st h
theorem CJ{P:Program}{w:World}{K:aD}{tg:Expr}(a it:Addr):Turn P w K tg (Itt K a) [it] it (λi h=>h.IsTupleIter it a i) where
 mem:=by simp
 obj:=λi h st b hb=>by
  have e:b=it:=by simpa using hb
  subst e
  obtain⟨o,e,c,d⟩:=st
  exact⟨o,e,λv z=>by rw[d]at z;cases z⟩
 keep:=λi h h' st k=>st.at λo e=>k it (by simp) o e
 item:=by
  intro X hP hw hK hc i pins s σ H E I hf st hg
  subst hP hw hK
  obtain⟨xs,x,hq,hx⟩:=hg
  obtain⟨its,rv,p,hz⟩:=I.tuple hq
  obtain⟨u,hu,ru⟩:=rv.get hx
  obtain⟨f0,f1,f2,f3,f4,f5⟩:=hf it (by simp)
  refine wpAny_pyNext_tuple_item st (show s.heap.IsTuple a its.toArray from p) (x:=u) (by simpa using hu) λh' st' sb=>?_
  have I1:Inv X pins σ H {s with heap:=h'}:=I.turned (t':=s.toks) (λb o hb e=>(sb.2 b hb).trans e) f0 f1 f3 f4 f5
  obtain⟨o,e,c,d⟩:=id st'
  exact⟨u,rfl,bf (s:={s with heap:=h'}) e c d (by decide) ⟨x,H,I1,ru,⟨rfl,λys hy=>by rw[I.Pu hy hq];exact hx⟩,st',λb hb=>(hf b hb).1⟩⟩
 done:=by
  intro X hP hw hK hc i pins s σ H E I hf st hg
  subst hP hw hK
  obtain⟨xs,hq,hx⟩:=hg
  obtain⟨its,rv,p,hz⟩:=I.tuple hq
  obtain⟨f0,f1,f2,f3,f4,f5⟩:=hf it (by simp)
  have hl:=rv.length
  exact wpAny_pyNext_tuple_end (I.ok.hd hc) st (show s.heap.IsTuple a its.toArray from p) (by simp;omega) λh' eb=>⟨rfl,I.turned (t':=s.toks) (λb o hb e=>eb b o hb e) f0 f1 f3 f4 f5⟩
 self:=λ_ _ _ _ _ st h=>wpAny_pyIter_tupleiter st h
theorem CK{P:Program}{w:World}{K:aD}{tg:Expr}(it:Addr)(lo:Int)(n:Nat):Turn P w K tg (Itr lo n) [it] it (λi h=>IsRangeIter h it (lo+(i:Nat)*1) ((n:Int)-(i:Nat)) 1) where
 mem:=by simp
 obj:=λi h st b hb=>by
  have e:b=it:=by simpa using hb
  subst e
  exact⟨_,st,λv z=>by
   have z':Data.fields _=Data.cell v:=z
   cases z'⟩
 keep:=λi h h' st k=>k it (by simp) _ st
 item:=by
  intro X hP hw hK hc i pins s σ H E I hf st hg
  subst hP hw hK
  obtain⟨f0,f1,f2,f3,f4,f5⟩:=hf it (by simp)
  have W:=Walks.range (prog:=X.prog) (w:=X.w) (I.ok.hd hc) it lo 1 n
  refine W.item i s _ _ hg st λv h' tk hv st' kk=>?_
  obtain⟨t,rfl⟩:=hv
  have I1:Inv X pins σ H {s with heap:=h',toks:=tk}:=I.turned (λb o hb e=>kk b o (by simpa using hb) e) f0 f1 f3 f4 f5
  refine⟨_,rfl,bf (s:={s with heap:=h',toks:=tk}) (n := "range_iterator") st' rfl rfl (by decide) ⟨.int (lo+i),H,I1,⟨t,?_⟩,⟨rfl,rfl⟩,st',λb hb=>(hf b hb).1⟩⟩
  rw[Int.mul_one]
 done:=by
  intro X hP hw hK hc i pins s σ H E I hf st hg
  subst hP hw hK
  obtain⟨f0,f1,f2,f3,f4,f5⟩:=hf it (by simp)
  exact wpAny_pyNext_range_end (I.ok.hd hc) st (by have:n≤i:=hg;omega) λh' eb=>⟨rfl,I.turned (t':=s.toks) (λb o hb e=>eb b o hb e) f0 f1 f3 f4 f5⟩
 self:=λ_ _ _ _ _ st h=>wpAny_pyIter_rangeiter st h
end L2
namespace L2
open PySem PySem.Spec PyProof.Rows
section
variable{X:Cx}{tg:Expr}
def aB9(K:aD)(tl:TE):TI:=λσ H R=>tl σ H λx H1=>∃a,x=.ref a∧(∃xs,pY K H1 a xs)∧R (Itl K a) H1
def aFn(K:aD)(tl:TE):TI:=λσ H R=>tl σ H λx H1=>∃a,x=.ref a∧(∃xs,vU K H1 a xs)∧R (Itt K a) H1
theorem KN{l:Expr}{tl:TE}(hl:PE X l tl):PI X tg l (aB9 X.K tl):=by
 intro pins s σ H R I h
 refine gQ (hl pins s σ H _ I h) λv s1 ⟨x,H1,I1,r1,q1⟩=>?_
 obtain⟨a,e,⟨xs,hq⟩,q⟩:=q1
 subst e
 cases r1
 obtain⟨its,rv,p,hz⟩:=I1.list hq
 refine wpAny_pyIter_list p.isList ?_
 refine⟨s1.heap.objs.size,[s1.heap.objs.size],_,_,H1,rfl,I1.kept (t':=s1.toks) λb o e=>Heap.get?_push_of_some _ e,SX a _,⟨_,Heap.get?_push_size _ rfl,rfl,rfl⟩,λb hb=>?_,q⟩
 have e:b=s1.heap.objs.size:=by simpa using hb
 subst e
 exact I1.aCZ (C8 _) (I1.hok.fresh (C8 _))
theorem bh{l:Expr}{tl:TE}(hl:PE X l tl):PI X tg l (aFn X.K tl):=by
 intro pins s σ H R I h
 refine gQ (hl pins s σ H _ I h) λv s1 ⟨x,H1,I1,r1,q1⟩=>?_
 obtain⟨a,e,⟨xs,hq⟩,q⟩:=q1
 subst e
 cases r1
 obtain⟨its,rv,p,hz⟩:=I1.tuple hq
 refine wpAny_pyIter_tuple (show s1.heap.IsTuple a its.toArray from p) ?_
 refine⟨s1.heap.objs.size,[s1.heap.objs.size],_,_,H1,rfl,I1.kept (t':=s1.toks) λb o e=>Heap.get?_push_of_some _ e,CJ a _,⟨_,Heap.get?_push_size _ rfl,rfl,rfl⟩,λb hb=>?_,q⟩
 have e:b=s1.heap.objs.size:=by simpa using hb
 subst e
 exact I1.aCZ (C8 _) (I1.hok.fresh (C8 _))
theorem Wq{pins:List (Addr×Obj)}{σ:St}{H:Hp}{s:Shared}{R:It→Hp→Prop}{E:Value→Shared→Prop}{lo hi:Int}{t u v:Tok}{tk:Nat}(I:Inv X pins σ H s)(h1:-(2 ^ 62)≤lo)(h2:lo<2 ^ 62)(h3:-(2 ^ 62)≤hi)(h4:hi<2 ^ 62)
  (q:R (Itr lo (hi-lo).toNat) H):wpAny (model X.prog X.w) X.A (pyIter (.ref s.heap.objs.size)) (PIE X pins σ tg R) E {s with heap:=s.heap.push {cls:=.type "range", data:=.fields #[.int lo t,.int hi u,.int 1 v]},toks:=tk}:=by
 refine wpAny_pyIter_range (IsRange.new ..) (small_one h1 h2 h3 h4) ?_
 have I1:Inv X pins σ H {s with heap:=s.heap.push {cls:=.type "range", data:=.fields #[.int lo t,.int hi u,.int 1 v]},toks:=tk}:=I.kept λb o e=>Heap.get?_push_of_some _ e
 refine⟨(s.heap.push {cls:=.type "range", data:=.fields #[.int lo t,.int hi u,.int 1 v]}).objs.size,[(s.heap.push {cls:=.type "range", data:=.fields #[.int lo t,.int hi u,.int 1 v]}).objs.size],_,_,H,rfl,
  I1.kept (t':=tk) λb o e=>Heap.get?_push_of_some _ e,CK _ lo (hi-lo).toNat,?_,λb hb=>?_,q⟩
 ·have e1:lo+((0:Nat):Int)*1=lo:=by simp
  have e2:(((hi-lo).toNat:Nat):Int)-((0:Nat):Int)=Builtin.Range.rangeSize lo hi 1:=by rw[rangeSize_one];split<;>omega
  show IsRangeIter _ _ (lo+((0:Nat):Int)*1) ((((hi-lo).toNat:Nat):Int)-((0:Nat):Int)) 1
  rw[e1,e2]
  exact Heap.get?_push_size _ rfl
 ·have e:b=(s.heap.push {cls:=.type "range", data:=.fields #[.int lo t,.int hi u,.int 1 v]}).objs.size:=by simpa using hb
  subst e
  exact I1.aCZ (C8 _) (I1.hok.fresh (C8 _))
def bj(ta:TA):TI:=λσ H R=>ta σ H λvs H1=>∃j:Int,vs=[.int j]∧-(2 ^ 62)≤j∧j<2 ^ 62∧R (Itr 0 j.toNat) H1
def bu(ta:TA):TI:=λσ H R=>ta σ H λvs H1=>∃i j:Int,vs=[.int i,.int j]∧(-(2 ^ 62)≤i∧i<2 ^ 62∧-(2 ^ 62)≤j∧j<2 ^ 62)∧R (Itr i (j-i).toNat) H1
theorem Py{a:Expr}{ta:TA}{p pos:Pos}(hg:Gl X "range") (hm:X.mg "range" = none) (ha:PA X [a] ta) (hs:starEach [a] X.env=[(false,eval a X.env)]:=by rfl):PI X tg (.Call (.Name "range" p) [a] [] pos) (bj ta):=by
 intro pins s σ H R I h
 refine Call_ (uF I hg hm boot_range (K8 (gQ (ha pos pins s σ H _ I h) λus s1 ⟨vs,H1,I1,r1,q1⟩=>?_) hs rfl))
 obtain⟨j,e,q1,q2,q⟩:=q1
 subst e
 cases r1 with
 | cons r rr=>
  cases rr
  obtain⟨t,rfl⟩:=r
  exact call_range_1 (Wq I1 (by omega) (by omega) q1 q2 (by simpa using q))
theorem TF{a b:Expr}{ta:TA}{p pos:Pos}(hg:Gl X "range") (hm:X.mg "range" = none) (ha:PA X [a,b] ta) (hs:starEach [a,b] X.env=[(false,eval a X.env),(false,eval b X.env)]:=by rfl) (hs2:starEach [b] X.env=[(false,eval b X.env)]:=by rfl) :
  PI X tg (.Call (.Name "range" p) [a,b] [] pos) (bu ta):=by
 intro pins s σ H R I h
 refine Call_ (uF I hg hm boot_range (K8 (gQ (ha pos pins s σ H _ I h) λus s1 ⟨vs,H1,I1,r1,q1⟩=>?_) (by rw[hs,hs2]) (by rw[hs2];rfl)))
 obtain⟨i,j,e,⟨q1,q2,q3,q4⟩,q⟩:=q1
 subst e
 cases r1 with
 | cons r rr=>
  cases rr with
  | cons r' rr=>
   cases rr
   obtain⟨t,rfl⟩:=r
   obtain⟨t',rfl⟩:=r'
   exact call_range_2 (Wq I1 q1 q2 q3 q4 q)
def CN(wi:TI)(g:TG)(tb:TS):TS:=λD σ H=>wi σ H λJ H1=>∃W:Nat→Nat→St→Hp→Prop,(∃m,W 0 m σ H1)∧∀i m σ H,W i m σ H →
 (J.stop i H∧D.nx σ H)∨(J.go i H∧∃N:St→Hp→Prop,(∀σ' H',N σ' H'→∃m',m'<m∧W (i+1) m' σ' H')∧∀x H',J.yld i H x H'→g x σ H' λσ2 H2=>tb {D with nx:=N,ct:=N,bk:=D.nx} σ2 H2)
def Jg(fp:List Addr)(h:Heap):List (Addr×Obj):=fp.filterMap λb=>(h.get? b).map λo=>(b,o)
theorem uG{fp:List Addr}{h:Heap}{b:Addr}{o:Obj}(hb:b∈fp)(e:h.get? b=some o):(b,o)∈Jg fp h:=b5.mpr ⟨b,hb,by rw[e];rfl⟩
theorem TJ{fp:List Addr}{h:Heap}{p:Addr×Obj}(hp:p∈Jg fp h):p.1∈fp∧h.get? p.1=some p.2:=by
 obtain⟨b,hb,e⟩:=b5.mp hp
 cases q:h.get? b with
 | none=>rw[q]at e;cases e
 | some o=>
  rw[q]at e
  have e':(b,o)=p:=F0 e
  subst e'
  exact⟨hb,q⟩
theorem Inv.pinned{pins:List (Addr×Obj)}{σ:St}{H:Hp}{s:Shared}{fp:List Addr}(I:Inv X pins σ H s)(hf:∀b∈fp,Ti X pins H b)(ho:∀b∈fp,∃o,s.heap.get? b=some o∧∀v,o.data≠.cell v):Inv X (pins++Jg fp s.heap) σ H s:=
 I.Hr λp hp=>(K6.mp hp).elim (λz=>I.pin p (F2 _ z)) λz=>by
  obtain⟨hb,e⟩:=TJ z
  obtain⟨f0,f1,f2,_⟩:=hf p.1 hb
  obtain⟨o,e',d⟩:=ho p.1 hb
  rw[e]at e';cases e'
  exact⟨e,f0,f1,f2,d⟩
theorem Inv.Bg{pins pl:List (Addr×Obj)}{σ:St}{H:Hp}{s:Shared}(I:Inv X (pins++pl) σ H s):Inv X pins σ H s:=I.Hr λp hp=>I.pin p (F2 _ (M4 _ hp))
theorem CP{iter:Expr}{body:List Stmt}{wi:TI}{g:TG}{tb:TS}{pos:Pos}(hp:PassesOwn (model X.prog X.w) X.A X.env X.xe)(hc:X.calm=true)(hi:PI X tg iter wi)(hg:PG X tg g)(hb:Wf X body tb)
  (hs:∀x,foldedSetIterable iter X.env x=pure x:=by intro _;rfl):PS X (.For tg iter body [] pos) (CN wi g tb):=by
 intro pins s σ H D I h
 refine wpAny_For (gQ (hi pins s σ H _ I h) λv s1 h1=>gQ h1 λitv s2 h2=>?_) hs
 obtain⟨it,fp,tn,J,H2,e,I2,T,st2,f2,W,⟨m0,w0⟩,turn⟩:=h2
 subst e
 have stat:∀{H':Hp},(∀b∈fp,H' b=none)→∀b∈fp,Ti X pins H' b:=λhn b hb=>⟨hn b hb,(f2 b hb).2⟩
 refine codeAny_forLoop_any (λn s'=>∃i σ' H',Inv X pins σ' H' s'∧tn i s'.heap∧(∀b∈fp,H' b=none)∧W i n σ' H') ?_ m0 ⟨0,σ,H2,I2,st2,λb hb=>(f2 b hb).1,w0⟩
 rintro n s3 ⟨i,σ3,H3,I3,st3,fr3,w3⟩
 rcases turn i n σ3 H3 w3 with ⟨stop,qn⟩ | ⟨go,N,hN,step⟩
 ·refine wpAny_passesOwn hp (gQ (T.done X rfl rfl rfl hc i pins s3 σ3 H3 X.xe I3 (stat fr3) st3 stop) λr s4 ⟨hr,I4⟩=>?_)
  subst hr
  exact wpAny_execs_nil ⟨σ3,H3,I4,qn⟩
 ·refine wpAny_passesOwn hp (gQ (T.item X rfl rfl rfl hc i pins s3 σ3 H3 X.xe I3 (stat fr3) st3 go) λr s4 ⟨u,hr,h4⟩=>?_)
  subst hr
  refine wpAny_passesOwn hp (gQ h4 λ_ s5 ⟨x,H5,I5,r5,y5,st5,fr5⟩=>?_)
  have I5':=I5.pinned (stat fr5) (T.obj _ _ st5)
  refine wpAny_passesOwn hp (gQ (hg _ s5 σ3 H5 x u _ I5' r5 (step x H5 y5)) λ_ s6 ⟨σ6,H6,I6,q6⟩=>?_)
  refine wpAny_passesOwn hp (gQ (hb _ s6 σ6 H6 _ I6 q6) λf s7 q7=>?_)
  have again:∀{σ7:St} {H7:Hp},Inv X (pins++Jg fp s5.heap) σ7 H7 s7→N σ7 H7→∃m,m<n∧∃i σ' H',Inv X pins σ' H' s7∧tn i s7.heap∧(∀b∈fp,H' b=none)∧W i m σ' H':=λ{σ7 H7} I7 n7=>by
   obtain⟨m',hm,w7⟩:=hN σ7 H7 n7
   refine⟨m',hm,i+1,σ7,H7,I7.Bg,T.keep _ _ _ st5 λb hb o e=>(I7.pin (b,o) (F2 _ (F2 _ (uG hb e)))).1,λb hb=>?_,w7⟩
   obtain⟨o,e,d⟩:=T.obj _ _ st5 b hb
   exact(I7.pin (b,o) (F2 _ (F2 _ (uG hb e)))).2.1
  cases f with
  | next=>obtain⟨σ7,H7,I7,n7⟩:=q7;exact again I7 n7
  | cont=>obtain⟨σ7,H7,I7,n7⟩:=q7;exact again I7 n7
  | brk=>obtain⟨σ7,H7,I7,q7⟩:=q7;exact⟨σ7,H7,I7.Bg,q7⟩
  | ret v=>obtain⟨x7,σ7,H7,I7,r7,q7⟩:=q7;exact⟨x7,σ7,H7,I7.Bg,r7,q7⟩
end
end L2
namespace L2
open PySem PySem.Spec PyProof.Rows
abbrev R2:=V→V→Hp→VK→Prop
def sY(X:Cx)(f:Value→Value→Sem Value)(r:R2):Prop:=
 ∀(pins:List (Addr×Obj))(s:Shared)(σ:St)(H:Hp)(x y:V)(v u:Value)(Q:VK),Inv X pins σ H s→RelV x v→RelV y u→r x y H Q →
  wpAny (model X.prog X.w) X.A (f v u) (EP X pins σ Q) X.xe s
def UnR(X:Cx)(f:Value→Sem Value)(r:V→Hp→VK→Prop):Prop:=
 ∀(pins:List (Addr×Obj))(s:Shared)(σ:St)(H:Hp)(x:V)(v:Value)(Q:VK),Inv X pins σ H s→RelV x v→r x H Q →
  wpAny (model X.prog X.w) X.A (f v) (EP X pins σ Q) X.xe s
def lV(X:Cx)(f:Value)(r:List V→Hp→VK→Prop):Prop:=
 ∀(pins:List (Addr×Obj))(s:Shared)(σ:St)(H:Hp)(xs:List V)(us:List Value)(Q:VK),Inv X pins σ H s→Vals xs us→r xs H Q →
  wpAny (model X.prog X.w) X.A (call f us) (EP X pins σ Q) X.xe s
def Pz(r:R2)(ta tb:TE):TE:=λσ H Q=>ta σ H λx H1=>tb σ H1 λy H2=>r x y H2 Q
def tUn(r:V→Hp→VK→Prop)(ta:TE):TE:=λσ H Q=>ta σ H λx H1=>r x H1 Q
def rI(C:Int→Int→Prop)(g:Int→Int→V):R2:=λx y H Q=>∃i j,x=.int i∧y=.int j∧C i j∧Q (g i j) H
def ZQ(g:Int→Int→V):R2:=λx y H Q=>∃i j,x=.int i∧y=.int j∧Q (g i j) H
def rU(g:Int→V):V→Hp→VK→Prop:=λx H Q=>∃i,x=.int i∧Q (g i) H
section
variable{X:Cx}{a b c:Expr}{ta tb tc:TE}{pos:Pos}
theorem aC0(ha:PE X a ta)(hb:PE X b tb){pins:List (Addr×Obj)}{s:Shared}{σ:St}{H:Hp}{R:V→V→Hp→Prop}(I:Inv X pins σ H s)
  (h:ta σ H λx H1=>tb σ H1 λy H2=>R x y H2) {Q:Value→Shared→Prop} {f:Value→Value→Sem Value}
  (hf:∀v u s2 x y H2,Inv X pins σ H2 s2→RelV x v→RelV y u→R x y H2→wpAny (model X.prog X.w) X.A (f v u) Q X.xe s2) :
  wpAny (model X.prog X.w) X.A (eval a X.env) (λv s₁=>wpAny (model X.prog X.w) X.A (eval b X.env) (λu s₂=>wpAny (model X.prog X.w) X.A (f v u) Q X.xe s₂) X.xe s₁) X.xe s:=by
 refine gQ (ha pins s σ H _ I h) λv s1 ⟨x,H1,I1,r1,q1⟩=>?_
 refine gQ (hb pins s1 σ H1 _ I1 q1) λu s2 ⟨y,H2,I2,r2,q2⟩=>?_
 exact hf v u s2 x y H2 I2 r1 r2 q2
theorem aFp{op:Operator}{r:R2}(ho:sY X (binaryOp op) r)(ha:PE X a ta)(hb:PE X b tb):PE X (.BinOp a op b pos) (Pz r ta tb):=by
 intro pins s σ H Q I h
 exact wpAny_BinOp (aC0 ha hb I h λv u s2 x y H2 I2 rx ry q=>ho pins s2 σ H2 x y v u Q I2 rx ry q)
theorem aFq{op:UnaryOp}{r:V→Hp→VK→Prop}(ho:UnR X (unaryOp op) r)(ha:PE X a ta):PE X (.UnaryOp op a pos) (tUn r ta):=by
 intro pins s σ H Q I h
 exact UnaryOp_ (gQ (ha pins s σ H _ I h) λv s1 ⟨x,H1,I1,r1,q1⟩=>ho pins s1 σ H1 x v Q I1 r1 q1)
theorem opI{f:Value→Value→Sem Value}{C:Int→Int→Prop}{g:Int→Int→Int}
  (rule:∀(i j:Int)(t u:Tok)(s:Shared)(Q:Value→Shared→Prop)(E:Value→Shared→Prop),C i j→Q (.int (g i j) s.toks) {s with toks:=s.toks+1}→wpAny (model X.prog X.w) X.A (f (.int i t) (.int j u)) Q E s) :
  sY X f (rI C λi j=>.int (g i j)):=by
 intro pins s σ H x y v u Q I rx ry h
 obtain⟨i,j,rfl,rfl,hc,q⟩:=h
 obtain⟨t,rfl⟩:=rx
 obtain⟨t',rfl⟩:=ry
 exact rule i j t t' s _ _ hc ⟨.int (g i j),H,I.tok _,⟨_,rfl⟩,q⟩
theorem aFr{f:Value→Value→Sem Value}{g:Int→Int→Int}
  (rule:∀(i j:Int)(t u:Tok)(s:Shared)(Q:Value→Shared→Prop)(E:Value→Shared→Prop),Q (.int (g i j) s.toks) {s with toks:=s.toks+1}→wpAny (model X.prog X.w) X.A (f (.int i t) (.int j u)) Q E s) :
  sY X f (ZQ λi j=>.int (g i j)):=by
 intro pins s σ H x y v u Q I rx ry h
 obtain⟨i,j,rfl,rfl,q⟩:=h
 obtain⟨t,rfl⟩:=rx
 obtain⟨t',rfl⟩:=ry
 exact rule i j t t' s _ _ ⟨.int (g i j),H,I.tok _,⟨_,rfl⟩,q⟩
theorem aC1{f:Value→Value→Sem Value}{g:Int→Int→Bool}
  (rule:∀(i j:Int)(t u:Tok)(s:Shared)(Q:Value→Shared→Prop)(E:Value→Shared→Prop),Q (.bool (g i j)) s→wpAny (model X.prog X.w) X.A (f (.int i t) (.int j u)) Q E s) :
  sY X f (ZQ λi j=>.bl (g i j)):=by
 intro pins s σ H x y v u Q I rx ry h
 obtain⟨i,j,rfl,rfl,q⟩:=h
 obtain⟨t,rfl⟩:=rx
 obtain⟨t',rfl⟩:=ry
 exact rule i j t t' s _ _ ⟨.bl (g i j),H,I,rfl,q⟩
def TQ(i j:Int):Prop:=0<j∧j<1073741824
def TV(i j:Int):Prop:=0≤j∧j≤1000000∧i.natAbs<2 ^ 64
def Tj(i j:Int):Prop:=(-(2 ^ 64)<i∧i<2 ^ 64)∨(-(2 ^ 64)<j∧j<2 ^ 64)
theorem Tj.ok{i j:Int}(h:Tj i j):IntMulOk i j:=by
 rcases h with ⟨h1,h2⟩ | ⟨h1,h2⟩
 ·exact .of_left (intBits_le_64 h1 h2)
 ·exact .of_right (intBits_le_64 h1 h2)
theorem aC2:sY X (binaryOp .Add) (ZQ λi j=>.int (i+j)):=aFr λ_ _ _ _ _ _ _ q=>add_int q
theorem aC3:sY X (binaryOp .Sub) (ZQ λi j=>.int (i-j)):=aFr λ_ _ _ _ _ _ _ q=>sub_int q
theorem aC4:sY X (binaryOp .Mult) (rI Tj λi j=>.int (i*j)):=opI λ_ _ _ _ _ _ _ hc q=>mul_int q hc.ok
theorem aAw:sY X (binaryOp .FloorDiv) (rI TQ λi j=>.int (i/j)):=opI λi j _ _ _ _ _ hc q=>by
 have h1:(0:Int)<j:=hc.1
 have h2:j<1073741824:=hc.2
 exact floordiv_int (by omega) (by rw[Int.fdiv_eq_ediv_of_nonneg i (by omega)];exact q) (.inl (PyProof.noPylong_small (by omega)))
theorem aC5:sY X (binaryOp .Mod) (rI (λ_ j=>0<j) λi j=>.int (i%j)):=opI λi j _ _ _ _ _ hc q=>by
 have h1:(0:Int)<j:=hc
 exact mod_int' (by omega) (by rw[Int.fmod_eq_emod_of_nonneg i (by omega)];exact q)
theorem aC6:sY X (binaryOp .Pow) (rI TV λi j=>.int (i ^ j.toNat)):=opI λ_ _ _ _ _ _ _ hc q=>pow_int_small hc.1 hc.2.1 hc.2.2 q
theorem unI{f:Value→Sem Value}{g:Int→Int}
  (rule:∀(i:Int)(t:Tok)(s:Shared)(Q:Value→Shared→Prop)(E:Value→Shared→Prop),Q (.int (g i) s.toks) {s with toks:=s.toks+1}→wpAny (model X.prog X.w) X.A (f (.int i t)) Q E s) :
  UnR X f (rU λi=>.int (g i)):=by
 intro pins s σ H x v Q I rx h
 obtain⟨i,rfl,q⟩:=h
 obtain⟨t,rfl⟩:=rx
 exact rule i t s _ _ ⟨.int (g i),H,I.tok _,⟨_,rfl⟩,q⟩
theorem aC7:UnR X (unaryOp .USub) (rU λi=>.int (-i)):=unI λ_ _ _ _ _ q=>neg_int q
end
def Wr:V→V→Bool
  | .non,.non=>true | .non,.int _=>true | .int _,.non=>true | .non,.bl _=>true | .bl _,.non=>true | .non,.str _=>true | .str _,.non=>true
  | .int _,.int _=>true | .bl _,.bl _=>true | .str _,.str _=>true | .byt _,.byt _=>true
  | .int _,.str _=>true | .str _,.int _=>true | .bl _,.str _=>true | .str _,.bl _=>true
  | _,_=>false
def rEq:R2:=λx y H Q=>Wr x y=true∧Q (.bl (decide (x=y))) H
def rNe:R2:=λx y H Q=>Wr x y=true∧Q (.bl (!decide (x=y))) H
theorem KQ{i j:Int}:decide (V.int i=V.int j)=(i==j):=by
 rw[N8]
 simp
theorem bw{i j:Bool}:decide (V.bl i=V.bl j)=(i==j):=by
 rw[N8]
 simp
theorem Hs{i j:Str}:decide (V.str i=V.str j)=(i==j):=by
 rw[N8]
 simp
theorem KR{i j:Array UInt8}:decide (V.byt i=V.byt j)=(i.toList==j.toList):=by
 rw[N8]
 cases i
 cases j
 simp
section
variable{X:Cx}{a b c:Expr}{ta tb tc:TE}{pos:Pos}
theorem cG{pins:List (Addr×Obj)}{σ:St}{H:Hp}{s:Shared}{Q:VK}{k k':Bool}(I:Inv X pins σ H s)(q:Q (.bl k) H)(e:k=k'):EP X pins σ Q (.bool k') s:=by
 subst e
 exact⟨.bl k,H,I,rfl,q⟩
theorem aFs:sY X (compareOp .Eq) rEq:=by
 intro pins s σ H x y v u Q I rx ry h
 obtain⟨hs,q⟩:=h
 cases x with
 | non=>
  cases rx
  cases y with
  | non=>cases ry;exact PySem.EqNone.eq_none_none (cG I q (by simp))
  | bl j=>cases ry;exact PySem.EqNone.eq_none_bool (cG I q (by simp))
  | int j=>obtain⟨t',rfl⟩:=ry;exact PySem.EqNone.eq_none_int (cG I q (by simp))
  | str j=>obtain⟨t',rfl⟩:=ry;exact PySem.EqNone.eq_none_str (cG I q (by simp))
  | _=>exact absurd (show false=true from hs) D7
 | bl i=>
  cases rx
  cases y with
  | non=>cases ry;exact PySem.EqNone.eq_bool_none (cG I q (by simp))
  | bl j=>cases ry;exact eq_bool (cG I q bw)
  | str j=>obtain⟨t',rfl⟩:=ry;exact PySem.EqMixed.eq_bool_str (cG I q (by simp))
  | _=>exact absurd (show false=true from hs) D7
 | int i=>
  obtain⟨t,rfl⟩:=rx
  cases y with
  | non=>cases ry;exact PySem.EqNone.eq_int_none (cG I q (by simp))
  | int j=>obtain⟨t',rfl⟩:=ry;exact eq_int (cG I q KQ)
  | str j=>obtain⟨t',rfl⟩:=ry;exact PySem.EqMixed.eq_int_str (cG I q (by simp))
  | _=>exact absurd (show false=true from hs) D7
 | str i=>
  obtain⟨t,rfl⟩:=rx
  cases y with
  | non=>cases ry;exact PySem.EqNone.eq_str_none (cG I q (by simp))
  | bl j=>cases ry;exact PySem.EqMixed.eq_str_bool (cG I q (by simp))
  | int j=>obtain⟨t',rfl⟩:=ry;exact PySem.EqMixed.eq_str_int (cG I q (by simp))
  | str j=>obtain⟨t',rfl⟩:=ry;exact eq_str (cG I q Hs)
  | _=>exact absurd (show false=true from hs) D7
 | byt i=>
  obtain⟨t,rfl⟩:=rx
  cases y with
  | byt j=>obtain⟨t',rfl⟩:=ry;exact PySem.W.eq_bytes (cG I q KR)
  | _=>exact absurd (show false=true from hs) D7
 | _=>cases y<;>exact absurd (show false=true from hs) D7
theorem aFt:sY X (compareOp .NotEq) rNe:=by
 intro pins s σ H x y v u Q I rx ry h
 obtain⟨hs,q⟩:=h
 cases x with
 | non=>
  cases rx
  cases y with
  | non=>cases ry;exact PySem.EqNone.ne_none_none (cG I q (by simp))
  | bl j=>cases ry;exact PySem.EqNone.ne_none_bool (cG I q (by simp))
  | int j=>obtain⟨t',rfl⟩:=ry;exact PySem.EqNone.ne_none_int (cG I q (by simp))
  | str j=>obtain⟨t',rfl⟩:=ry;exact PySem.EqNone.ne_none_str (cG I q (by simp))
  | _=>exact absurd (show false=true from hs) D7
 | bl i=>
  cases rx
  cases y with
  | non=>cases ry;exact PySem.EqNone.ne_bool_none (cG I q (by simp))
  | bl j=>cases ry;exact ne_bool (cG I q (congrArg not bw))
  | str j=>obtain⟨t',rfl⟩:=ry;exact PySem.EqMixed.ne_bool_str (cG I q (by simp))
  | _=>exact absurd (show false=true from hs) D7
 | int i=>
  obtain⟨t,rfl⟩:=rx
  cases y with
  | non=>cases ry;exact PySem.EqNone.ne_int_none (cG I q (by simp))
  | int j=>obtain⟨t',rfl⟩:=ry;exact ne_int (cG I q (congrArg not KQ))
  | str j=>obtain⟨t',rfl⟩:=ry;exact PySem.EqMixed.ne_int_str (cG I q (by simp))
  | _=>exact absurd (show false=true from hs) D7
 | str i=>
  obtain⟨t,rfl⟩:=rx
  cases y with
  | non=>cases ry;exact PySem.EqNone.ne_str_none (cG I q (by simp))
  | bl j=>cases ry;exact PySem.EqMixed.ne_str_bool (cG I q (by simp))
  | int j=>obtain⟨t',rfl⟩:=ry;exact PySem.EqMixed.ne_str_int (cG I q (by simp))
  | str j=>obtain⟨t',rfl⟩:=ry;exact ne_str (cG I q (congrArg not Hs))
  | _=>exact absurd (show false=true from hs) D7
 | byt i=>
  obtain⟨t,rfl⟩:=rx
  cases y with
  | byt j=>obtain⟨t',rfl⟩:=ry;exact PySem.W.ne_bytes (cG I q (congrArg not KR))
  | _=>exact absurd (show false=true from hs) D7
 | _=>cases y<;>exact absurd (show false=true from hs) D7
theorem Ws:sY X (compareOp .Lt) (ZQ λi j=>.bl (decide (i<j))):=aC1 λ_ _ _ _ _ _ _ q=>lt_int q
theorem bx:sY X (compareOp .LtE) (ZQ λi j=>.bl (decide (i≤j))):=aC1 λ_ _ _ _ _ _ _ q=>le_int q
theorem aFu:sY X (compareOp .Gt) (ZQ λi j=>.bl (decide (j<i))):=aC1 λ_ _ _ _ _ _ _ q=>gt_int q
theorem cg:sY X (compareOp .Is) (λx y H Q=>y=.non∧Q (.bl (decide (x=.non))) H):=by
 intro pins s σ H x y v u Q I rx ry h
 obtain⟨rfl,q⟩:=h
 cases ry
 refine is_none_gen (cG I q ?_)
 cases x<;>first
  | (cases rx;rfl)
  | (obtain⟨t,rfl⟩:=rx;rfl)
theorem KY:sY X (compareOp .IsNot) (λx y H Q=>y=.non∧Q (.bl (!decide (x=.non))) H):=by
 intro pins s σ H x y v u Q I rx ry h
 obtain⟨rfl,q⟩:=h
 cases ry
 refine isnot_none_gen (cG I q ?_)
 cases x<;>first
  | (cases rx;rfl)
  | (obtain⟨t,rfl⟩:=rx;rfl)
theorem sY.or{f:Value→Value→Sem Value}{r r':R2}(h:sY X f r)(h':sY X f r'):sY X f (λx y H Q=>r x y H Q∨r' x y H Q):=by
 intro pins s σ H x y v u Q I rx ry q
 rcases q with q | q
 ·exact h pins s σ H x y v u Q I rx ry q
 ·exact h' pins s σ H x y v u Q I rx ry q
theorem eX(b:Expr){op:CmpOp}(h:op≠.In:=by decide)(h2:op≠.NotIn:=by decide):behindInMarks op b=false:=by
 have e1:(op==CmpOp.In)=false:=by cases op<;>first | rfl | exact absurd rfl h
 have e2:(op==CmpOp.NotIn)=false:=by cases op<;>first | rfl | exact absurd rfl h2
 cases b<;>simp[behindInMarks,e1,e2]
theorem aAx{op:CmpOp}{r:R2}(ho:sY X (compareOp op) r)(ha:PE X a ta)(hb:PE X b tb)(hm:behindInMarks op b=false):PE X (.Compare a [op] [b] pos) (Pz r ta tb):=by
 intro pins s σ H Q I h
 exact wpAny_Compare1 (aC0 ha hb I h λv u s2 x y H2 I2 rx ry q=>ho pins s2 σ H2 x y v u Q I2 rx ry q) hm
def Qa(t:TE):TT:=λσ H Q=>t σ H λx H'=>∃k,x=.bl k∧Q k H'
theorem KZ{op:CmpOp}{r:R2}(ho:sY X (compareOp op) r)(ha:PE X a ta)(hb:PE X b tb)(hm:behindInMarks op b=false):PT X (.Compare a [op] [b] pos) (Qa (Pz r ta tb)):=by
 intro pins s σ H Q I h
 refine wpAny_isTrue_Compare1 (gQ (ha pins s σ H _ I h) λv s1 ⟨x,H1,I1,r1,q1⟩=>gQ (hb pins s1 σ H1 _ I1 q1) λu s2 ⟨y,H2,I2,r2,q2⟩=>
  gQ (ho pins s2 σ H2 x y v u _ I2 r1 r2 q2) λc s3 ⟨z,H3,I3,r3,k,e,q3⟩=>?_) hm
 subst e
 cases r3
 exact wpAny_truthy_bool ⟨H3,I3,q3⟩
def cj(r r':R2)(ta tb tc:TE):TE:=λσ H Q=>ta σ H λx H1=>tb σ H1 λy H2=>r x y H2 λz H3=>∃k,z=.bl k ∧
 (if k=true then tc σ H3 λw' H4=>r' y w' H4 Q else Q (.bl false) H3)
theorem cu{op op':CmpOp}{r r':R2}(ho:sY X (compareOp op) r)(ho':sY X (compareOp op') r')(ha:PE X a ta)(hb:PE X b tb)(hc:PE X c tc)
  (hm:lastMarks [op,op'] [b,c]=false:=by with_unfolding_all rfl):PT X (.Compare a [op,op'] [b,c] pos) (Qa (cj r r' ta tb tc)):=by
 intro pins s σ H Q I h
 refine isTrue_chain (gQ (ha pins s σ H _ I h) λv s1 ⟨x,H1,I1,r1,q1⟩=>test_link (gQ (hb pins s1 σ H1 _ I1 q1) λu s2 ⟨y,H2,I2,r2,q2⟩=>
  gQ (ho pins s2 σ H2 x y v u _ I2 r1 r2 q2) λd s3 ⟨z,H3,I3,r3,k,e,q3⟩=>?_)) hm
 subst e
 cases r3
 refine wpAny_truthy_bool ?_
 cases k with
 | false=>
  obtain⟨k',e',q'⟩:=q3
  cases e'
  exact ite_ff ⟨H3,I3,q'⟩
 | true=>
  refine ite_tt (test_last (gQ (hc pins s3 σ H3 _ I3 q3) λw' s4 ⟨z',H4,I4,r4,q4⟩=>gQ (ho' pins s4 σ H4 y z' u w' _ I4 r2 r4 q4) λd' s5 ⟨z2,H5,I5,r5,k2,e2,q5⟩=>?_))
  subst e2
  cases r5
  exact wpAny_truthy_bool ⟨H5,I5,q5⟩
theorem Jh:(sizeLine:Nat)<2 ^ 63:=by rw[sizeLine_eq];decide
theorem vals1{x:V}{us:List Value}(r:Vals [x] us):∃u,us=[u]∧RelV x u:=by
 cases r with
 | cons r1 r2=>cases r2;exact⟨_,rfl,r1⟩
theorem vals2{x y:V}{us:List Value}(r:Vals [x,y] us):∃u w',us=[u,w']∧RelV x u∧RelV y w':=by
 cases r with
 | cons r1 r2=>
  cases r2 with
  | cons r3 r4=>cases r4;exact⟨_,_,rfl,r1,r3⟩
end
end L2
namespace L2
open PySem PySem.Spec PyProof.Rows
structure CQ(h:Heap)(x dx C:Addr)(mA:Str→Option Value):Prop where
 obj:h.get? x=some (N6 C dx)
 ns:h.Ns1 dx mA
 ne:dx≠x
theorem TX{h:Heap}{dx:Addr}{mA:Str→Option Value}(n:h.Ns1 dx mA):∃od,h.get? dx=some od∧∀name,U5 name od=some (mA name):=by
 obtain⟨o,es,ep,ho,hd,hk,_,hm⟩:=n
 refine⟨o,ho,λname=>?_⟩
 have e:=hm name
 unfold nsFind findBy at e
 rw[←Array.find?_toList]at e
 unfold U5
 rw[hd]
 dsimp only
 split
 ·rename_i y q
  rw[q]at e
  exact congrArg some e
 ·rename_i q
  rw[q]at e
  have a:es.toList.any (·.refKey)=false:=by
   rw[List.any_eq_false]
   intro y hy
   obtain⟨z,t,hkey⟩:=hk y (Array.mem_toList_iff.mp hy)
   simp[DictEntry.refKey,hkey]
  have a':¬es.toList.any (·.refKey)=true:=by rw[a];exact D7
  rw[if_neg a']
  exact congrArg some e
theorem CQ.look{h:Heap}{x dx C:Addr}{mA:Str→Option Value}(I:CQ h x dx C mA):∃od,PySem.W.InstAt h x (N6 C dx) C (some od)∧∀name,U5 name od=some (mA name):=
 let ⟨od,ho,hl⟩:=TX I.ns
 ⟨od,⟨I.obj,rfl,rfl,ho⟩,hl⟩
section
variable{prog:Program}{w:World}{A:Around}{E:Value→Shared→Prop}{s:Shared}{K:aD}{x dx C f:Addr}{mA:Str→Option Value}{name:Str}{v:Value}
theorem get_map{expr:Bool}{Q:Value→Shared→Prop}(X:K.In s.heap)(I:CQ s.heap x dx C mA)(hg:Q5 K C name=true)(hh:R9 K C=true)
  (ha:F4 K (.ref C) name=some none) (hv:mA name=some v) (hv':f7 v=true) (h:Q v {s with toks:=s.toks+1}) :
  wpAny (model prog w) A (getAttr (.ref x) name expr) Q E s:=by
 obtain⟨od,J,hl⟩:=I.look
 exact PySem.W.get_value X J (U2 hg).1 (PySem.W.findObj_own hh ha rfl (by rw[hl,hv])) hv' h
theorem cz{pl:Sem Bool}{Q:Value×List Value→Shared→Prop}(X:K.In s.heap)(I:CQ s.heap x dx C mA)(hg:Q5 K C name=true)
  (hf:F4 K (.ref C) name=some (some (.ref f))) (ht:P4 K (.ref f)=true) (hv:mA name=none) (h:Q (.ref f,[.ref x]) s) :
  wpAny (model prog w) A (getMethod (.ref x) name pl) Q E s:=by
 obtain⟨od,J,hl⟩:=I.look
 exact PySem.W.method_fn X J (U2 hg).1 (U2 hg).2 hf (beq_iff_eq.mp ht) (by show (U5 name od).map (·.isSome)=some false;rw[hl,hv];rfl) h
theorem aAy{ns:List Str}{Q:Unit→Shared→Prop}(X:K.In s.heap)(I:CQ s.heap x dx C mA)
  (hs:F4 K (.ref C) "__setattr__" = some (some (.builtin "object.__setattr__"))) (hp:V2 K C=true) (ht:X3 K C name=some none) (hh:R9 K C=true)
  (hw:a9 mA ns) (hsz:ns.length≤sizeLine)
  (h:∀h',CQ h' x dx C (λy=>if y=name then some v else mA y)→Heap.SameBut dx s.heap h'→Q () {s with heap:=h',toks:=s.toks+2}) :
  wpAny (model prog w) A (setAttr (.ref x) name v) Q E s:=by
 obtain⟨od,J,hl⟩:=I.look
 refine PySem.W.set_plain X J hs (PySem.W.osa_open (s:={s with toks:=s.toks+1}) (r:=none) X J hp ht λb=>?_)
 obtain⟨cd,hc,hd'⟩:=PySem.W.any_some hh
 have hx:s.heap.get? x=some ⟨.ref C,some dx,.plain,#[]⟩:=I.obj
 refine wpAny_bind (wpAny_pure (wpAny_bind (wpAny_bind (wpAny_loadPart hx (wpAny_bind (PySem.W.Looks.here (s:={s with toks:=s.toks+1}) (PySem.W.looks_clsIn X hc) ?_))))))
 rw[hd']
 refine wpAny_pure (a:=some dx) (wpAny_bind (wpAny_pure (wpAny_bind ?_)))
 refine wpAny_nsSet1 (s:={s with toks:=s.toks+1}) I.ns λh' hn2 hs2=>?_
 obtain⟨oD,esD,epD,hoD,hdD,hcD⟩:=hn2.count (PySem.Within.cons name v hw)
 refine wpAny_bind (wpAny_lookBehind hoD (by rw[hdD];exact pastItsLine_dict (F5 hcD (by rw[E9];omega))) ?_)
 exact wpAny_pure (h _ ⟨(hs2.2 _ (Ne.symm I.ne)).trans I.obj,hn2,I.ne⟩ hs2)
theorem dg{R:Result→Shared→Prop}{vs:List Value}{kw:List (Str×Value)}(X:K.In s.heap)(hm:T3 K C=true)
  (hi:F4 K (.ref C) "__init__" = some (some (.ref f))) (hf:j4 K (.ref f)=some (.type "function"))
  (h:codeAny (model prog w) (A.under (.builtin "type.__call__" ⟨.ref C::vs,kw⟩)) (.call (.ref f) ⟨.ref (s.heap.objs.size+1)::vs,kw⟩) (PySem.W.InitBack (s.heap.objs.size+1) R)
   {s with heap:=(s.heap.push K9).push (N6 C s.heap.objs.size)}) :
  codeAny (model prog w) A (.call (.ref C) ⟨vs,kw⟩) R s:=by
 obtain⟨hh,g,d,t,os⟩:=s
 exact PySem.W.make_core (PySem.W.makes_of X hm) (PySem.W.looks_findIn X hi) (λself=>PySem.W.bind_fn X self hf) (.inl rfl) h
end
def vM(f:Str)(v:V):List (Str×V)→List (Str×V)
 | []=>[(f,v)]
 | (g,x)::r=>if g=f then(g,v)::r else(g,x)::vM f v r
theorem Gf(f g:Str)(v:V):∀fs:List (Str×V),(vM f v fs).lookup g=if g=f then some v else fs.lookup g
 | []=>by
  show Q9 g [(f,v)]=_
  by_cases h:g=f
  ·have hb:(g==f)=true:=beq_iff_eq.mpr h
   simp only[Q9,hb,if_pos h]
  ·have hb:(g==f)=false:=beq_eq_false_iff_ne.mpr h
   simp only[Q9,hb,if_neg h]
 | (k,x)::r=>by
  have ih:=Gf f g v r
  rw[show vM f v ((k,x)::r)=(if k=f then(k,v)::r else(k,x)::vM f v r)from rfl]
  by_cases hk:k=f
  ·rw[if_pos hk]
   by_cases h:g=k
   ·have hb:(g==k)=true:=beq_iff_eq.mpr h
    simp only[Q9,hb,if_pos (h.trans hk)]
   ·have hb:(g==k)=false:=beq_eq_false_iff_ne.mpr h
    simp only[Q9,hb,if_neg (λe:g=f=>h (e.trans hk.symm))]
  ·rw[if_neg hk]
   by_cases h:g=k
   ·have hb:(g==k)=true:=beq_iff_eq.mpr h
    simp only[Q9,hb,if_neg (λe:g=f=>hk (h.symm.trans e))]
   ·have hb:(g==k)=false:=beq_eq_false_iff_ne.mpr h
    simp only[Q9,hb]
    exact ih
theorem Eb(f:Str)(v:V):∀fs:List (Str×V),f∈(vM f v fs).map (·.1)∧∀g,g∈fs.map (·.1)→g∈(vM f v fs).map (·.1)
 | []=>⟨by simp[vM],λg h=>by simp at h⟩
 | (k,x)::r=>by
  obtain⟨i1,i2⟩:=Eb f v r
  rw[show vM f v ((k,x)::r)=(if k=f then(k,v)::r else(k,x)::vM f v r)from rfl]
  by_cases hk:k=f
  ·rw[if_pos hk]
   subst hk
   exact⟨by simp,λg h=>by simpa using h⟩
  ·rw[if_neg hk]
   refine⟨?_,λg h=>?_⟩
   ·rw[D2]
    exact C7 _ i1
   ·rw[D2]at h ⊢
    rcases C6.mp h with e | e
    ·exact C6.mpr (.inl e)
    ·exact C7 _ (i2 g e)
theorem Gg(f:Str)(v:V):∀fs:List (Str×V),(vM f v fs).length≤fs.length+1
 | []=>by simp[vM]
 | (k,x)::r=>by
  have ih:=Gg f v r
  rw[show vM f v ((k,x)::r)=(if k=f then(k,v)::r else(k,x)::vM f v r)from rfl]
  by_cases hk:k=f
  ·rw[if_pos hk,E9,E9];omega
  ·rw[if_neg hk,E9,E9];omega
theorem vK.some_of{v:V}{o:Option Value}(r:vK (some v) o):∃u,o=some u∧RelV v u:=by
 cases o with
 | none=>exact(show False from r).elim
 | some u=>exact⟨u,rfl,r⟩
theorem vK.none_of{o:Option Value}(r:vK none o):o=none:=by
 cases o with
 | none=>rfl
 | some u=>exact(show False from r).elim
theorem TY{v:V}{u:Value}(r:RelV v u):f7 u=true:=by
 cases v with
 | non=>cases(show u=Value.none from r);rfl
 | bl b=>cases(show u=Value.bool b from r);rfl
 | int i=>obtain⟨t,e⟩:=(show ∃t,u=Value.int i t from r);cases e;rfl
 | str x=>obtain⟨t,e⟩:=(show ∃t,u=Value.str x t from r);cases e;rfl
 | byt b=>obtain⟨t,e⟩:=(show ∃t,u=Value.bytes b t from r);cases e;rfl
 | flt b=>obtain⟨t,e⟩:=(show ∃t,u=Value.float b t from r);cases e;rfl
 | ref a=>cases(show u=Value.ref a from r);rfl
 | ty n=>cases(show u=Value.type n from r);rfl
section
variable{P:Program}{w:World}{H H':Hp}{h h':Heap}{a C dx:Addr}{fs fs':List (Str×V)}
theorem Tn(hok:vL P w H h)(e:H a=some (.ins C dx fs)):∃mA,CQ h a dx C mA∧(∀f,vK (fs.lookup f) (mA f))∧a9 mA (fs.map (·.1))∧fs.length≤1000∧H dx=some (.own a):=by
 obtain⟨d,z,ne,ob,mA,n,r,q⟩:=(show iM P w H h a (.ins C dx fs)from hok a _ e)
 exact⟨mA,⟨ob,n,ne⟩,r,q,z,d⟩
end
structure ZR(K:aD)(C:Addr):Prop where
 pg:Q5 K C Str.empty=true
 hd:R9 K C=true
 po:V2 K C=true
 sa:F4 K (.ref C) "__setattr__" = some (some (.builtin "object.__setattr__"))
theorem ZR.get{K:aD}{C:Addr}(c:ZR K C)(f:Str):Q5 K C f=true:=c.pg
def zU(K:aD)(C:Addr)(f:Str):Prop:=F4 K (.ref C) f=some none
theorem zU.taker{K:aD}{C:Addr}{f:Str}(n:zU K C f):X3 K C f=some none:=by
 unfold X3
 rw[show F4 K (.ref C) f=some none from n]
 rfl
structure Con(K:aD)(C:Addr)(f:Str)(v:V)(u:Value):Prop where
 at_:F4 K (.ref C) f=some (some u)
 rel:RelV v u
 get:c9 K u "__get__" = some none
 cp:PySem.W.copiedNames.contains f=false
structure Meth(K:aD)(C:Addr)(m:Str)(f:Addr):Prop where
 at_:F4 K (.ref C) m=some (some (.ref f))
 fn:P4 K (.ref f)=true
 kp:J6 K (.ref f)=true
section
variable{X:Cx}{pins:List (Addr×Obj)}{σ:St}{H:Hp}{s:Shared}{a C dx:Addr}{fs:List (Str×V)}{f:Str}{v:V}{A:Around}{E:Value→Shared→Prop}
theorem CT{b:Bool}{Q:Value→Shared→Prop}(I:Inv X pins σ H s)(e:H a=some (.ins C dx fs))(c:ZR X.K C)(n:zU X.K C f)(l:fs.lookup f=some v)
  (h:∀u s',Inv X pins σ H s'→RelV v u→Q u s'):wpAny (model X.prog X.w) A (getAttr (.ref a) f b) Q E s:=by
 obtain⟨mA,O,r,_,_,_⟩:=Tn I.hok e
 obtain⟨u,hu,ru⟩:=vK.some_of (v:=v) (o:=mA f) (by rw[←l];exact r f)
 exact get_map I.Nz O (c.get f) c.hd n hu (TY ru) (h u _ (I.tok _) ru)
theorem zV{m:Str}{g:Addr}{pl:Sem Bool}{Q:Value×List Value→Shared→Prop}(I:Inv X pins σ H s)(e:H a=some (.ins C dx fs))(c:ZR X.K C)(k:Meth X.K C m g)(l:fs.lookup m=none)
  (h:Q (.ref g,[.ref a]) s):wpAny (model X.prog X.w) A (getMethod (.ref a) m pl) Q E s:=by
 obtain⟨mA,O,r,_,_,_⟩:=Tn I.hok e
 have hn:mA m=none:=vK.none_of (by rw[←l];exact r m)
 exact cz I.Nz O (c.get m) k.at_ k.fn hn h
theorem CV{y:V}{u:Value}{Q:Unit→Shared→Prop}(I:Inv X pins σ H s)(e:H a=some (.ins C dx fs))(c:ZR X.K C)(n:zU X.K C f)(hl:fs.length<1000)(ry:RelV y u)
  (h:∀s',Inv X pins σ (upd H a (.ins C dx (vM f y fs))) s'→Q () s'):wpAny (model X.prog X.w) A (setAttr (.ref a) f u) Q E s:=by
 obtain⟨mA,O,r,wi,_,ho⟩:=Tn I.hok e
 have hz:(fs.map (·.1)).length≤sizeLine:=by rw[B8,sizeLine_eq];omega
 refine aAy I.Nz O c.sa c.po n.taker c.hd wi hz λh' O' sb=>h _ ?_
 have hd:∃o,h'.get? dx=some o:=let ⟨o,_,_,e',_⟩:=O'.ns;⟨o,e'⟩
 refine I.write (x:=a) (e:=dx) (by rw[e];exact True.intro) (.inr ho) (λb q hb z=>(sb.2 b hb).trans z) hd ?_
 refine⟨by rw[bL O.ne];exact ho,?_,O.ne,O'.obj,_,O'.ns,λg=>?_,λg hg=>?_⟩
 ·have:=Gg f y fs;omega
 ·show vK ((vM f y fs).lookup g) (if g=f then some u else mA g)
  rw[Gf]
  by_cases q:g=f
  ·rw[if_pos q,if_pos q];exact ry
  ·rw[if_neg q,if_neg q];exact r g
 ·by_cases q:g=f
  ·rw[q];exact(Eb f y fs).1
  ·refine(Eb f y fs).2 g (wi g λz=>hg ?_)
   show (if g=f then some u else mA g)=none
   rw[if_neg q];exact z
theorem Inv.made(I:Inv X pins σ H s):Inv X pins σ (upd (upd H s.heap.objs.size (.own (s.heap.objs.size+1))) (s.heap.objs.size+1) (.ins C s.heap.objs.size []))
  {s with heap:=(s.heap.push K9).push (N6 C s.heap.objs.size)}:=by
 have e1:(s.heap.push K9).get? s.heap.objs.size=some K9:=Heap.get?_push_size s.heap rfl
 have e2:((s.heap.push K9).push (N6 C s.heap.objs.size)).get? (s.heap.objs.size+1)=some (N6 C s.heap.objs.size):=by
  have:=Heap.get?_push_size (s.heap.push K9) (o:=N6 C s.heap.objs.size) rfl
  rwa [Heap.size_push]at this
 have e3:(s.heap.push K9).Ns s.heap.objs.size (λ_=>none):=⟨K9,#[],_,e1,rfl,(λe he=>absurd he (by simp)),λ_=>rfl⟩
 have I1:=I.laid (a:=s.heap.objs.size) (o:=.own (s.heap.objs.size+1)) (h':=s.heap.push K9) (t':=s.toks) (λb u q=>Heap.get?_push_of_some _ q) (C8 _) ⟨_,e1⟩
 refine I1.laid (a:=s.heap.objs.size+1) (o:=.ins C s.heap.objs.size []) (t':=s.toks) (λb u q=>Heap.get?_push_of_some _ q) (b6 (Heap.size_push _ _)) ?_
 have ne:s.heap.objs.size≠s.heap.objs.size+1:=D8 (N3 _)
 refine⟨by rw[bL ne,bW],M3 _,ne,e2,λ_=>none,(Heap.Ns1.of_empty e3).at λo q=>Heap.get?_push_of_some _ q,λ_=>True.intro,λy hy=>absurd rfl hy⟩
theorem aAz{prog:Program}{w:World}{env:Env}{e:Expr}{f:Str}{pos:Pos}{s:Shared}{Q:Value→Shared→Prop}(hb:attributeBase e f env (eval e env)=eval e env)
  (h:wpAny (model prog w) A (eval e env) (λo s₁=>wpAny (model prog w) A (getAttr o f true) Q E s₁) E s):wpAny (model prog w) A (eval (.Attribute e f pos) env) Q E s:=
 Attribute_any_ h (by rw[arm_eval_Attribute,hb])
end
def aC8(K:aD)(ta:TE)(f:Str):TE:=λσ H Q=>ta σ H λx H1=>∃a C dx fs v,x=.ref a∧H1 a=some (.ins C dx fs)∧ZR K C∧zU K C f∧fs.lookup f=some v∧Q v H1
def aC9(K:aD)(ta tv:TE)(f:Str):TS:=λD σ H=>tv σ H λy H1=>ta σ H1 λx H2=>∃a C dx fs,x=.ref a∧H2 a=some (.ins C dx fs)∧ZR K C∧zU K C f∧fs.length<1000 ∧
 D.nx σ (upd H2 a (.ins C dx (vM f y fs)))
section
variable{X:Cx}{o e value:Expr}{f:Str}{pos pos' tpos:Pos}{ta tv:TE}
theorem dh(he:PE X e ta)(hb:attributeBase e f X.env (eval e X.env)=eval e X.env):PE X (.Attribute e f pos) (aC8 X.K ta f):=by
 intro pins s σ H Q I h
 refine aAz hb (gQ (he pins s σ H _ I h) λu s1 ⟨x,H1,I1,rx,a,C,dx,fs,v,ex,ea,c,n,l,q⟩=>?_)
 subst ex
 obtain rfl:u=Value.ref a:=rx
 exact CT I1 ea c n l λu' s2 I2 ru=>⟨v,H1,I2,ru,q⟩
theorem aDa(ha:PE X o ta)(hv:PE X value tv)(hs:swapsWith value (some (.Attribute o f pos')) pos.line X.env=pure false):PS X (.Assign [.Attribute o f pos'] value pos) (aC9 X.K ta tv f):=by
 intro pins s σ H D I h
 refine plainObj_wpAny_Assign_Attribute (gQ (hv pins s σ H _ I h) λu s1 ⟨y,H1,I1,ry,q⟩=>gQ (ha pins s1 σ H1 _ I1 q) λov s2 ⟨x,H2,I2,rx,a,C,dx,fs,ex,ea,c,n,l,q2⟩=>?_) hs
 subst ex
 obtain rfl:ov=Value.ref a:=rx
 exact CV I2 ea c n l ry λs3 I3=>⟨σ,_,I3,q2⟩
end
section
variable{X:Cx}{pins:List (Addr×Obj)}{σ:St}{H:Hp}{s:Shared}{A:Around}{E:Value→Shared→Prop}{Q:Value→Shared→Prop}{c:Value}{b:Bool}
inductive Ji(K:aD)(H:Hp):V→Value→Prop where
 | non:Ji K H .non (.type "NoneType")
 | bl (x:Bool):Ji K H (.bl x) (.type "bool")
 | int (i:Int):Ji K H (.int i) (.type "int")
 | str (x:Str):Ji K H (.str x) (.type "str")
 | flt (x:UInt64):Ji K H (.flt x) (.type "float")
 | lst {a:Addr} {xs:List V} (e:H a=some (.lst xs)):Ji K H (.ref a) (.type "list")
 | Bf {a:Addr} {o:Obj} {xs:List V} (e:H a=some (.Bf o (.lst xs))):Ji K H (.ref a) (.type "list")
 | tup {a:Addr} {xs:List V} (e:H a=some (.tup xs)):Ji K H (.ref a) (.type "tuple")
 | dK {a:Addr} {kvs:List (Key×V)} (e:H a=some (.dK kvs)):Ji K H (.ref a) (.type "dict")
 | dT {a:Addr} {kvs:List (List Key×V)} (e:H a=some (.dT kvs)):Ji K H (.ref a) (.type "dict")
 | ins {a C dx:Addr} {fs:List (Str×V)} (e:H a=some (.ins C dx fs)) (cl:ZR K C) (ha:F4 K (.ref C) "__class__" = some (some (.builtin "object.__class__")))
   (hn:c9 K (.builtin "object.__class__") "__get__" = some (some (.builtin "getset_descriptor.__get__"))) (htk:PySem.W.takesIn K (.builtin "object.__class__")=some true)
   (hm:PySem.W.mroIn K C (.type "object")=some true):Ji K H (.ref a) (.ref C)
end
end L2
namespace L2
open PySem PySem.Spec PyProof.Rows
structure gD(k:Nat)(A:Around):Prop where
 hd:A.handled=none
 dp:A.depth+3*k+5<recursionLimit
 un:A.units+16*k+200<cLine
theorem gD.mono{j k:Nat}{A:Around}(r:gD k A)(h:j≤k):gD j A:=⟨r.hd,by have:=r.dp;omega,by have:=r.un;omega⟩
theorem gD.deeper{k:Nat}{A:Around}(r:gD (k+1) A)(env:Env):gD k (A.deeper env):=
 ⟨r.hd,by have:=r.dp;show A.depth+1+3*k+5<_;omega,by have:=r.un;show A.units+3+16*k+200<_;omega⟩
theorem CW{A:Around}{C:Addr}{us:List Value}{kw:List (Str×Value)}:(A.under (.builtin "type.__call__" ⟨.ref C::us,kw⟩)).depth=A.depth+1:=by
  first | rfl | simp[Around.under,Code.weight,Code.isCreation,Code.isGuard,Code.isCaller,Code.frames,Code.isFrame,guardIds]
theorem CZ{A:Around}{C:Addr}{us:List Value}{kw:List (Str×Value)}:(A.under (.builtin "type.__call__" ⟨.ref C::us,kw⟩)).units=A.units+1:=by
  first | rfl | simp[Around.under,Code.cUnits,Code.frames,Code.isFrame]
theorem gD.make{k:Nat}{A:Around}(r:gD (k+1) A)(C:Addr)(us:List Value)(kw:List (Str×Value)):gD k (A.under (.builtin "type.__call__" ⟨.ref C::us,kw⟩)):=
 ⟨r.hd,by have:=r.dp;rw[CW];omega,by have:=r.un;rw[CZ];omega⟩
theorem gD.depth{k:Nat}{A:Around}(r:gD k A):A.depth<recursionLimit:=by have:=r.dp;omega
theorem gD.units{k:Nat}{A:Around}(r:gD k A):A.units+64<cLine:=by have:=r.un;omega
def mJ:TA:=λ_ H Q=>Q [] H
def fJ(ta:TE)(tr:TA):TA:=λσ H Q=>ta σ H λx H1=>tr σ H1 λxs H2=>Q (x::xs) H2
section
variable{X:Cx}{e:Expr}{es:List Expr}{te:TE}{t:TA}{pos:Pos}
theorem kO:PA X [] mJ:=λ_ _ _ _ H Q I h=>Calls.spliced_nil ⟨[],H,I,.nil,h⟩
theorem eO(ha:PE X e te)(hr:PA X es t)(hs:starEach (e::es) X.env=(false,eval e X.env)::starEach es X.env:=by rfl):PA X (e::es) (fJ te t):=by
 intro pos pins s σ H Q I h
 rw[hs]
 show wpAny _ _ (spliced ((false,eval e X.env)::backTo pos (starEach es X.env))) _ _ s
 refine Calls.spliced_cons (gQ (ha pins s σ H _ I h) λu s1 ⟨x,H1,I1,r1,q1⟩=>?_)
 exact gQ (hr pos pins s1 σ H1 _ I1 q1) λus s2 ⟨xs,H2,I2,r2,q2⟩=>⟨x::xs,H2,I2,.cons r1 r2,q2⟩
def aAA(t:TA):TE:=λσ H Q=>t σ H λxs H1=>xs.length≤sizeLine∧∀p,H1 p=none→Q (.ref p) (upd H1 p (.tup xs))
def di(t:TA):TE:=λσ H Q=>t σ H λxs H1=>xs.length≤sizeLine∧∀p,H1 p=none→Q (.ref p) (upd H1 p (.lst xs))
theorem dm{x1}(h:PA X es t):PE X (.Tuple es x1 pos) (aAA t):=by
 intro pins s σ H Q I hq
 refine wpAny_Tuple_spliced (gQ (h pos pins s σ H _ I hq) λus s1 ⟨xs,H1,I1,r,z,q⟩=>⟨by rw[←r.length];exact z,?_⟩)
 have hf:H1 s1.heap.objs.size=none:=I1.hok.fresh (C8 _)
 refine⟨.ref s1.heap.objs.size,upd H1 s1.heap.objs.size (.tup xs),I1.laid (t':=s1.toks) (λb u e=>Heap.get?_push_of_some _ e) (C8 _) ?_,rfl,q _ hf⟩
 exact⟨z,us,r,⟨_,Heap.get?_push_size _ rfl,rfl,_,rfl⟩⟩
theorem dq(h:PA X es t):PE X (.List es pos) (di t):=by
 intro pins s σ H Q I hq
 refine wpAny_List_spliced (gQ (h pos pins s σ H _ I hq) λus s1 ⟨xs,H1,I1,r,z,q⟩=>⟨by rw[←r.length];exact z,?_⟩)
 have hf:H1 s1.heap.objs.size=none:=I1.hok.fresh (C8 _)
 refine⟨.ref s1.heap.objs.size,upd H1 s1.heap.objs.size (.lst xs),I1.laid (t':=s1.toks) (λb u e=>Heap.get?_push_of_some _ e) (C8 _) ?_,rfl,q _ hf⟩
 exact⟨z,us,0,r,Heap.get?_push_size _ rfl⟩
end
abbrev Sp:=List V→Hp→VK→XK→Prop
abbrev BR:=List Env→Hp→Shared→XK→Value→Shared→Prop
structure DG(P:Program)(w:World)(K:aD)(mg:Str→Option Value)(base:Heap)(A:Around)(outer:List Env)(s:Shared)(H:Hp):Prop where
 frames:A.frames=some outer
 mod:Mod K mg base
 bs:∀b o,base.get? b=some o→s.heap.get? b=some o∧H b=none
 SN:base.objs.size≤s.heap.objs.size
 vW:s.heap.FunFrames base outer
 ZZ:∀b∈frs outer,H b=none
 hok:vL P w H s.heap
 bare:AllBare s.gens
def CE(outer:List Env)(P:Program)(w:World)(H:Hp)(s:Shared)(Q:VK)(u:Value)(s':Shared):Prop:=
 ∃v H',s'.os=s.os∧AllBare s'.gens∧Un (frs outer) [] H H' s.heap s'.heap∧vL P w H' s'.heap∧RelV v u∧Q v H'
def CR(CX:BR)(outer:List Env)(P:Program)(w:World)(H:Hp)(s:Shared)(Q:VK)(E:XK)(r:Result)(s':Shared):Prop:=
 match r with
 | .ok (.ret u)=>CE outer P w H s Q u s'
 | .ok _=>False
 | .error e=>CX outer H s E e s'
structure sZ(P:Program)(w:World)(K:aD)(mg:Str→Option Value)(base:Heap)(CX:BR)(k:Nat)(f:Addr)(fd:FuncData)(ps:List Str)(sp:Sp):Prop where
 len:∀vs H Q E,sp vs H Q E→vs.length=ps.length
 run:∀(A:Around)(outer:List Env)(s:Shared)(H:Hp)(args:Args)(us:List Value)(vs:List V)(Q:VK)(E:XK),gD k A→DG P w K mg base A outer s H→BindsTo s fd args (ps.zip us)→Vals vs us→sp vs H Q E →
  codeAny (model P w) A (.call (.ref f) args) (CR CX outer P w H s Q E) s
theorem DG.make{P:Program}{w:World}{K:aD}{mg:Str→Option Value}{base:Heap}{A:Around}{outer:List Env}{s:Shared}{H:Hp}(e:DG P w K mg base A outer s H)(C:Addr)(us:List Value)(kw:List (Str×Value)) :
  DG P w K mg base (A.under (.builtin "type.__call__" ⟨.ref C::us,kw⟩)) outer s H:=⟨by first | exact e.frames | (simpa[Around.under,Code.envs,Code.isFrame,pushEnvs]using e.frames),e.mod,e.bs,e.SN,e.vW,e.ZZ,e.hok,e.bare⟩
section
variable{X:Cx}{pins:List (Addr×Obj)}{σ:St}{H:Hp}{s s':Shared}
theorem Inv.env0(I:Inv X pins σ H s):DG X.prog X.w X.K X.mg X.base X.A X.stack s H:=
 ⟨I.ok.frames,I.ok.mod,I.bs,F5 I.ok.SN I.sz,I.stack,I.Th,I.hok,I.bare⟩
theorem Inv.after{Q:VK}{u:Value}(I:Inv X pins σ H s)(h:CE X.stack X.prog X.w H s Q u s'):EP X pins σ Q u s':=by
 obtain⟨v,H',os,bare,un,hok,r,q⟩:=h
 obtain⟨hh,g,d,t,os'⟩:=s'
 obtain rfl:os'=s.os:=os
 exact⟨v,H',I.call (h':=hh) (g':=g) (d':=d) (t':=t) (ch:=[]) un hok bare (λb z=>absurd z (by simp)),r,q⟩
end
def Qc(sp:Sp)(vV:List V)(E:XK)(t:TA):TE:=λσ H Q=>t σ H λvs H1=>sp (vs++vV) H1 Q E
def vY(C:Addr)(m:Str)(sp:Sp)(vV:List V)(E:XK)(ta:TE)(t:TA):TE:=λσ H Q=>ta σ H λx H1=>∃a dx fs,x=.ref a∧H1 a=some (.ins C dx fs)∧fs.lookup m=none ∧
 t σ H1 λvs H2=>sp (x::(vs++vV)) H2 Q E
def aCa(C:Addr)(sp:Sp)(vV:List V)(E:XK)(t:TA):TE:=λσ H Q=>t σ H λvs H1=>∀x dx,H1 x=none→H1 dx=none→dx≠x →
 sp (.ref x::(vs++vV)) (upd (upd H1 dx (.own x)) x (.ins C dx [])) (λv H2=>v=.non∧Q (.ref x) H2) E
def Binds(K:aD)(fd:FuncData)(ps:List Str)(ds:List Value):Prop:=
 ∀(s:Shared)(us:List Value),K.In s.heap→(us++ds).length=ps.length→BindsTo s fd ⟨us,[]⟩ (ps.zip (us++ds))
theorem Binds.all{K:aD}{fd:FuncData}{ps:List Str}(h:∀us:List Value,us.length=ps.length→bindArgs fd ⟨us,[]⟩=pure (ps.zip us)):Binds K fd ps []:=λs us _ hl=>by
 rw[G0]at hl ⊢
 exact .of_eq (h us hl)
def Passes(CX:BR)(X:Cx)(E:XK):Prop:=∀(pins:List (Addr×Obj))(σ:St)(H:Hp)(s:Shared)(e:Value)(s':Shared),Inv X pins σ H s→CX X.stack H s E e s'→X.xe e s'
section
variable{X:Cx}{CX:BR}{k:Nat}{f C:Addr}{fd:FuncData}{ps:List Str}{sp:Sp}{vV:List V}{ds:List Value}{E:XK}{x m:Str}{p pos apos:Pos}{e o:Expr}{es:List Expr}{ta:TE}{t:TA}
theorem DK{pins:List (Addr×Obj)}{σ:St}{H:Hp}{s:Shared}{Q:VK}{us:List Value}{vs:List V}(F:sZ X.prog X.w X.K X.mg X.base CX k f fd ps sp)(hr:gD k X.A)(hb:Binds X.K fd ps ds)(hd:Vals vV ds)(hx:Passes CX X E)
  (I:Inv X pins σ H s) (r:Vals vs us) (h:sp (vs++vV) H Q E):wpAny (model X.prog X.w) X.A (call (.ref f) us) (EP X pins σ Q) X.xe s:=by
 have r2:Vals (vs++vV) (us++ds):=r.append hd
 have hl:(us++ds).length=ps.length:=by rw[←r2.length];exact F.len _ _ _ _ h
 refine wpAny_call (codeAny_mono (F.run X.A X.stack s H ⟨us,[]⟩ (us++ds) (vs++vV) Q E hr I.env0 (hb s us I.Nz hl) r2 h) λr s' hq=>?_)
 cases r with
 | error e=>exact hx pins σ H s e s' I hq
 | ok fl=>
  cases fl with
  | ret u=>exact I.after hq
  | next=>exact False.elim hq
  | brk=>exact False.elim hq
  | cont=>exact False.elim hq
theorem aAB(F:sZ X.prog X.w X.K X.mg X.base CX k f fd ps sp)(hr:gD k X.A)(hg:Gl X x)(hm:X.mg x=some (.ref f))(hk:J6 X.K (.ref f)=true)(hb:Binds X.K fd ps ds)(hd:Vals vV ds)(hx:Passes CX X E)
  (ha:PA X (e::es) t) (hdb:(x==("__debug__" : Str))=false:=by decide) (he:starEach (e::es) X.env=(false,eval e X.env)::starEach es X.env:=by rfl) (hpl:(backTo pos (starEach es X.env)).any (·.1)=false:=by rfl) :
  PE X (.Call (.Name x p) (e::es) [] pos) (Qc sp vV E t):=by
 intro pins s σ H Q I h
 refine wpAny_Call_Name_kw (xX I hg hm ?_ hdb)
 refine R1 (h₀:=X.base) I.ok.mod.ZX hk (gQ (ha pos pins s σ H _ I h) λus s1 ⟨vs,H1,I1,r,q⟩=>⟨I1.Nz,?_⟩) he hpl
 exact DK F hr hb hd hx I1 r q
theorem Tp{pl:Sem Bool}(he:PE X o ta)(c:ZR X.K C)(hm:Meth X.K C m f)(F:sZ X.prog X.w X.K X.mg X.base CX k f fd ps sp)(hr:gD k X.A)(hb:Binds X.K fd ps ds)(hd:Vals vV ds)(hx:Passes CX X E)(ha:PA X (e::es) t)
  (hst:starEach (e::es) X.env=(false,eval e X.env)::starEach es X.env:=by rfl) (hpl:(backTo pos (starEach es X.env)).any (·.1)=false:=by rfl)
  (ht:eval (.Call (.Attribute o m apos) (e::es) [] pos) X.env=(do
   let ov ←eval o X.env
   standAt apos.atName
   let (f,first) ←holding [ov] (getMethod ov m pl)
   callWith pos f first (backTo pos (starEach (e::es) X.env)) (backToKw pos (keywordEach [] X.env))):=by rfl) :
  PE X (.Call (.Attribute o m apos) (e::es) [] pos) (vY C m sp vV E ta t):=by
 intro pins s σ H Q I h
 refine S7 (pl:=pl) (gQ (he pins s σ H _ I h) λu s1 ⟨x,H1,I1,rx,a,dx,fs,ex,ea,l,q⟩=>?_) ht
 subst ex
 obtain rfl:u=Value.ref a:=rx
 refine zV I1 ea c hm l ?_
 refine R1 (first:=[.ref a]) (h₀:=X.base) I.ok.mod.ZX hm.kp (gQ (ha pos pins s1 σ H1 _ I1 q) λus s2 ⟨vs,H2,I2,r,q2⟩=>⟨I2.Nz,?_⟩) hst hpl
 exact DK (us:=.ref a::us) (vs:=.ref a::vs) F hr hb hd hx I2 (.cons rfl r) q2
theorem du{pl:Sem Bool}(he:PE X o ta)(c:ZR X.K C)(hm:Meth X.K C m f)(F:sZ X.prog X.w X.K X.mg X.base CX k f fd ps sp)(hr:gD k X.A)(hb:Binds X.K fd ps ds)(hd:Vals vV ds)(hx:Passes CX X E)
  (ht:eval (.Call (.Attribute o m apos) [] [] pos) X.env=(do
   let ov ←eval o X.env
   standAt apos.atName
   let (f,first) ←holding [ov] (getMethod ov m pl)
   callWith pos f first (backTo pos (starEach [] X.env)) (backToKw pos (keywordEach [] X.env))):=by rfl) :
  PE X (.Call (.Attribute o m apos) [] [] pos) (vY C m sp vV E ta mJ):=by
 intro pins s σ H Q I h
 refine S7 (pl:=pl) (gQ (he pins s σ H _ I h) λu s1 ⟨x,H1,I1,rx,a,dx,fs,ex,ea,l,q⟩=>?_) ht
 subst ex
 obtain rfl:u=Value.ref a:=rx
 refine zV I1 ea c hm l ?_
 exact PySem.W.callWith_K0 (first:=[.ref a]) I1.Nz hm.kp (DK (us:=[.ref a]) (vs:=[.ref a]) F hr hb hd hx I1 (.cons rfl .nil) q)
structure Mk(K:aD)(C f:Addr):Prop where
 makes:T3 K C=true
 init:F4 K (.ref C) "__init__" = some (some (.ref f))
 fn:P4 K (.ref f)=true
 kp:J6 K (.ref C)=true
theorem dw{pins:List (Addr×Obj)}{σ:St}{H:Hp}{s:Shared}{Q:VK}{us:List Value}{vs:List V}(M:Mk X.K C f)(F:sZ X.prog X.w X.K X.mg X.base CX k f fd ps sp)(hr:gD (k+1) X.A)(hb:Binds X.K fd ps ds)(hd:Vals vV ds)
  (hx:Passes CX X E) (I:Inv X pins σ H s) (r:Vals vs us)
  (h:∀x dx,H x=none→H dx=none→dx≠x→sp (.ref x::(vs++vV)) (upd (upd H dx (.own x)) x (.ins C dx [])) (λv H2=>v=.non∧Q (.ref x) H2) E) :
  wpAny (model X.prog X.w) X.A (call (.ref C) us) (EP X pins σ Q) X.xe s:=by
 have hq:=h (s.heap.objs.size+1) s.heap.objs.size (I.hok.fresh (N0 _)) (I.hok.fresh (C8 _)) (D8 (N3 _))
 have I2:=Inv.made (C:=C) I
 have r2:Vals (V.ref (s.heap.objs.size+1)::(vs++vV)) (Value.ref (s.heap.objs.size+1)::(us++ds)):=.cons rfl (r.append hd)
 have hl:(Value.ref (s.heap.objs.size+1)::us++ds).length=ps.length:=by
  have e:=r2.length
  rw[F.len _ _ _ _ hq]at e
  exact e.symm
 refine wpAny_call (dg (f:=f) I.Nz M.makes M.init (beq_iff_eq.mp M.fn) (codeAny_mono (F.run _ X.stack _ _ ⟨Value.ref (s.heap.objs.size+1)::us,[]⟩ (Value.ref (s.heap.objs.size+1)::(us++ds)) _ _ E (hr.make C us [])
  (I2.env0.make C us []) (hb _ (Value.ref (s.heap.objs.size+1)::us) I2.Nz hl) r2 hq) λr s' hq'=>?_))
 cases r with
 | error e=>exact hx pins σ _ _ e s' I2 hq'
 | ok fl=>
  cases fl with
  | ret u=>
   obtain⟨v,H',I3,rv,ev,q3⟩:=I2.after hq'
   subst ev
   exact⟨rv,⟨V.ref (s.heap.objs.size+1),H',I3,rfl,q3⟩⟩
  | next=>exact False.elim hq'
  | brk=>exact False.elim hq'
  | cont=>exact False.elim hq'
theorem aAC(M:Mk X.K C f)(F:sZ X.prog X.w X.K X.mg X.base CX k f fd ps sp)(hr:gD (k+1) X.A)(hg:Gl X x)(hm:X.mg x=some (.ref C))(hb:Binds X.K fd ps ds)(hd:Vals vV ds)(hx:Passes CX X E)
  (ha:PA X (e::es) t) (hdb:(x==("__debug__" : Str))=false:=by decide) (he:starEach (e::es) X.env=(false,eval e X.env)::starEach es X.env:=by rfl) (hpl:(backTo pos (starEach es X.env)).any (·.1)=false:=by rfl) :
  PE X (.Call (.Name x p) (e::es) [] pos) (aCa C sp vV E t):=by
 intro pins s σ H Q I h
 refine wpAny_Call_Name_kw (xX I hg hm ?_ hdb)
 refine R1 (h₀:=X.base) I.ok.mod.ZX M.kp (gQ (ha pos pins s σ H _ I h) λus s1 ⟨vs,H1,I1,r,q⟩=>⟨I1.Nz,?_⟩) he hpl
 exact dw M F hr hb hd hx I1 r q
end
section
variable{X:Cx}{CX:BR}{k:Nat}{f C:Addr}{fd:FuncData}{ps ks:List Str}{sp:Sp}{E:XK}{x m:Str}{p pos apos kpos:Pos}{e o:Expr}{es:List Expr}{kws:List Keyword}{te ta:TE}{t tk:TA}{nm:Option Str}
structure aHa(K:aD)(fd:FuncData)(ps ks:List Str)(g:List Value→List Value→List Value)(gV:List V→List V→List V):Prop where
 to:∀(s:Shared)(us ws:List Value),K.In s.heap→(g us ws).length=ps.length→BindsTo s fd ⟨us,ks.zip ws⟩ (ps.zip (g us ws))
 rel:∀{vs:List V} {us:List Value} {zs:List V} {ws:List Value},Vals vs us→Vals zs ws→Vals (gV vs zs) (g us ws)
variable{g:List Value→List Value→List Value}{gV:List V→List V→List V}
end
structure aZ(N P:List Str)(sc:Scope):Prop where
 kind:sc.kind=.function
 co:sc.isCoroutine=false
 gen:sc.isGenerator=false
 nd:N.Nodup
 pre:N.take P.length=P
 par:∀x∈P,sc.names.lookup x=some .local∨sc.names.lookup x=some .cell
 aDb:∀y∈sc.names,y.2≠.free
theorem Qd{kindOf:Str→Option NameKind}{x:Str}:∀{binds:List (Str×Value)} {m:Str→Option Value},(∀v,(x,v)∉binds)→bindL kindOf binds m x=m x
 | [],_,_=>rfl
 | (n,v)::r,m,h=>by
  unfold bindL
  rw[Qd λw hw=>h w (C7 _ hw)]
  split
  ·have:x≠n:=by rintro rfl;exact h v D1
   simp[this]
  ·rfl
theorem Qe{kindOf:Str→Option NameKind}{x:Str}:∀{binds:List (Str×Value)} {m:Str→Option Value},(∀v,(x,v)∉binds)→bindC kindOf binds m x=m x
 | [],_,_=>rfl
 | (n,v)::r,m,h=>by
  unfold bindC
  rw[Qe λw hw=>h w (C7 _ hw)]
  split
  ·rfl
  ·have:x≠n:=by rintro rfl;exact h v D1
   simp[this]
theorem Qf{kindOf:Str→Option NameKind}{x:Str}{v:Value}:∀{P:List Str} {vs:List Value} {i:Nat} {m:Str→Option Value},P.Nodup→P[i]?=some x→vs[i]?=some v→kindOf x=some .local →
  bindL kindOf (P.zip vs) m x=some v
 | [],_,_,_,_,h,_,_=>by simp at h
 | _::_,[],_,_,_,_,h,_=>by simp at h
 | p::P,w::vs,0,m,nd,h1,h2,hk=>by
  simp at h1 h2;subst h1;subst h2
  show bindL kindOf ((p,w)::P.zip vs) m p=_
  unfold bindL
  rw[Qd λv hv=>(M7.mp nd).1 (X4 hv).1,if_pos hk]
  simp
 | p::P,w::vs,i+1,m,nd,h1,h2,hk=>by
  show bindL kindOf ((p,w)::P.zip vs) m x=_
  unfold bindL
  exact Qf (i:=i) (M7.mp nd).2 (by simpa using h1) (by simpa using h2) hk
theorem Qg{kindOf:Str→Option NameKind}{x:Str}{v:Value}:∀{P:List Str} {vs:List Value} {i:Nat} {m:Str→Option Value},P.Nodup→P[i]?=some x→vs[i]?=some v→kindOf x≠some .local →
  bindC kindOf (P.zip vs) m x=some v
 | [],_,_,_,_,h,_,_=>by simp at h
 | _::_,[],_,_,_,_,h,_=>by simp at h
 | p::P,w::vs,0,m,nd,h1,h2,hk=>by
  simp at h1 h2;subst h1;subst h2
  show bindC kindOf ((p,w)::P.zip vs) m p=_
  unfold bindC
  rw[Qe λv hv=>(M7.mp nd).1 (X4 hv).1,if_neg hk]
  simp
 | p::P,w::vs,i+1,m,nd,h1,h2,hk=>by
  show bindC kindOf ((p,w)::P.zip vs) m x=_
  unfold bindC
  exact Qg (i:=i) (M7.mp nd).2 (by simpa using h1) (by simpa using h2) hk
def start(N:List Str)(vs:List V):St:=vs.map some++E7 (N.length-vs.length) none
def mD(CX:BR)(P:Program)(w:World)(K:aD)(mg:Str→Option Value)(base:Heap)(N:List Str)(qual:Str)(scope:Scope)(f:Addr)(cd:Value)(A:Around)(outer:List Env)(s:Shared)(H:Hp)(E:XK):Cx where
 prog:=P
 w:=w
 K:=K
 mg:=mg
 base:=base
 A:=A.deeper (envOfC qual scope s.heap.objs.size f cd)
 N:=N
 s₀:=s
 H₀:=H
 env:=envOfC qual scope s.heap.objs.size f cd
 outer:=outer
 stack:=envOfC qual scope s.heap.objs.size f cd::outer
 ex:=[]
 calm:=true
 fn:=λ_=>true
 pn:=[]
 xe:=λe s'=>wpAny (model P w) (A.deeper (envOfC qual scope s.heap.objs.size f cd)) (leaving (envOfC qual scope s.heap.objs.size f cd) e) (λ_ s''=>CX outer H s E e s'') (λe' s''=>CX outer H s E e' s'') s'
theorem Wt{sc:Scope}{n:Nat}{x:Str}(h:sc.names.lookup x=some .cell):∃c,(cellsFrom n sc.names []).lookup x=some c:=by
 have q:=Y0 sc.names n [] (.inl h)
 exact V7.mp q
theorem UG{CX:BR}{P:Program}{w:World}{K:aD}{mg:Str→Option Value}{base:Heap}{N ps:List Str}{qual:Str}{scope:Scope}{f:Addr}{cd:Value}{A:Around}{outer:List Env}{s s1:Shared}{H:Hp}{E:XK}{us:List Value}{vs:List V}
  (S:aZ N ps scope) (hd:A.handled=none) (e0:DG P w K mg base A outer s H) (hl:vs.length=ps.length) (r:Vals vs us)
  (x:InCallC s s.heap.objs.size (bindL (envOfC qual scope s.heap.objs.size f cd).kindOf (ps.zip us) λ_=>none) (cellsFrom (s.heap.objs.size+1) scope.names []) (bindC (envOfC qual scope s.heap.objs.size f cd).kindOf (ps.zip us) λ_=>none) s1) :
  Inv (mD CX P w K mg base N qual scope f cd A outer s H E) [] (start N vs) H s1:=by
 have hpl:ps.length≤N.length:=by have:=congrArg List.length S.pre;rw[O4]at this;omega
 obtain⟨h1,tk,rfl,hk⟩:=x.done
 have noA:∀b:Addr,b∉(mD CX P w K mg base N qual scope f cd A outer s H E).ex:=λb z=>absurd (show b∈([]:List Addr)from z) (by simp)
 refine⟨⟨e0.mod,S.kind,rfl,rfl,C8 _,λy z c h1 h2=>?_,λy hy=>?_,λy c _ h=>?_,λ_=>hd,Around.frames_deeper e0.frames,.inr ⟨rfl,rfl⟩,λb z=>absurd z (noA b),e0.bs,e0.SN,λb _ _=>noA b,λb z=>absurd z (noA b),e0.vW,e0.ZZ⟩,
  rfl,e0.bare,Un.kept hk,⟨_,x.toInCall.ns,λi y v h1 h2 h3=>?_⟩,λy c h=>⟨_,x.cell y c h⟩,e0.hok.fresh (C8 _),λy c h=>?_,λp hp=>absurd (show p∈([]:List (Addr×Obj))from hp) (by simp),e0.hok.kept hk,?_⟩
 ·exact name_of_addr x.apart (M9 h1) (M9 h2)
 ·have hy:scope.names.lookup y=some .cell∨scope.names.lookup y=some .free:=hy
  rcases hy with hy | hy
  ·exact Wt hy
  ·exact absurd rfl (S.aDb _ (M9 hy))
 ·exact N7 (x.above y c (M9 h))
 ·have hi:i<vs.length:=by
   unfold start at h2
   by_cases hi:i<vs.length
   ·exact hi
   ·rw[N2 (by simpa using hi)]at h2
    rw[P7]at h2
    split at h2<;>cases h2
  have ha:vs[i]?=some v:=by
   unfold start at h2
   rw[G3 (by simpa using hi),C5]at h2
   cases e:vs[i]? with
   | none=>rw[e]at h2;cases h2
   | some a=>rw[e]at h2;cases h2;rfl
  obtain⟨u,hu,rv⟩:=r.get ha
  have hp:ps[i]?=some y:=by
   rw[←S.pre,List.getElem?_take_of_lt (by omega)];exact h1
  have ndP:ps.Nodup:=by rw[←S.pre];exact S.nd.sublist (V3 _ _)
  refine⟨u,rv,?_⟩
  rcases S.par y (F6 hp)with k | k
  ·exact .inl ⟨k,Qf ndP hp hu k⟩
  ·obtain⟨c,e⟩:=Wt (n:=s.heap.objs.size+1) k
   refine .inr ⟨.inl k,c,e,?_⟩
   have q:=x.cell y c e
   rw[Qg ndP hp hu (by show scope.names.lookup y≠_;rw[k];decide)]at q
   exact q
 ·exact e0.hok.fresh (N7 (x.above y c (M9 h)))
 ·unfold start
  show _=N.length
  rw[D4,B8,S8]
  omega
theorem LC{CX:BR}{P:Program}{w:World}{K:aD}{mg:Str→Option Value}{base:Heap}{k:Nat}{f:Addr}{name qual:Str}{params:Arguments}{body:List Stmt}{scope:Scope}{dV kV doc pm cdv ct oc:Value}{an od:Option Addr}
  {osl:Array (Option Value)} {N ps:List Str} {sp:Sp} (lk:K.lookup f=some ⟨oc,od,.func (F3 name qual params body scope dV kV doc pm an cdv ct),osl⟩) (hcd:J9 K cdv qual=true) (S:aZ N ps scope)
  (len:∀vs H Q E,sp vs H Q E→vs.length=ps.length)
  (hbody:∀(A:Around)(outer:List Env)(s:Shared)(H:Hp)(vs:List V)(Q:VK)(E:XK),gD k (A.deeper (envOfC qual scope s.heap.objs.size f cdv))→sp vs H Q E →
   ∃t,Wf (mD CX P w K mg base N qual scope f cdv A outer s H E) body t∧t {nx:=λ_ H'=>Q .non H',rt:=Q} (start N vs) H) :
  sZ P w K mg base CX (k+1) f (F3 name qual params body scope dV kV doc pm an cdv ct) ps sp:=by
 refine⟨len,λA outer s H args us vs Q E hr e0 hb r hsp=>?_⟩
 have hl:=len _ _ _ _ hsp
 have KX:K.In s.heap:=e0.mod.ZX.keeps λb o e=>(e0.bs b o e).1
 have lim:s.heap.NoLimit:=e0.mod.nolimit.keeps λb o e=>(e0.bs b o e).1
 have hkind:∀y∈ps.zip us,scope.names.lookup y.1=some .local∨(scope.names.lookup y.1=some .cell∧((cellsFrom (s.heap.objs.size+1) scope.names []).lookup y.1).isSome=true):=λ⟨n,v⟩ hy=>by
  rcases S.par n (X4 hy).1 with q | q
  ·exact .inl q
  ·exact .inr ⟨q,Y0 _ _ _ (.inl q)⟩
 refine codeAny_call_function hr.depth (KX _ _ lk) rfl S.co S.gen rfl (PySem.W.codeRec_of KX hcd) (hb _ _ _ _ ?_)
 refine wpAny_newFunctionEnv_cells S.kind hkind λenv he s1 x=>?_
 subst he
 refine⟨lim.keeps x.toInCall.keep,codeAny_func ?_⟩
 obtain⟨t,ht,hq⟩:=hbody A outer s H vs Q E (hr.deeper _) hsp
 have I:Inv (mD CX P w K mg base N qual scope f cdv A outer s H E) [] (start N vs) H s1:=UG S hr.hd e0 hl r x
 refine wpAny_mono (ht [] s1 (start N vs) H _ I hq) (λfl s' hs=>?_) λe s' hs=>hs
 have fin:∀{σ':St} {H':Hp} {v:V} {u:Value},Inv (mD CX P w K mg base N qual scope f cdv A outer s H E) [] σ' H' s'→RelV v u→Q v H'→CE outer P w H s Q u s':=
  λ{σ' H' v u} J rv q=>⟨v,H',J.os,J.bare,J.base,J.hok,rv,q⟩
 cases fl with
 | ret u=>
  obtain⟨v,σ',H',J,rv,q⟩:=hs
  exact fin J rv q
 | next=>
  obtain⟨σ',H',J,q⟩:=hs
  exact fin (v:=V.non) (u:=Value.none) J rfl q
 | brk=>
  obtain⟨_,_,_,q⟩:=hs
  exact False.elim q
 | cont=>
  obtain⟨_,_,_,q⟩:=hs
  exact False.elim q
end L2
namespace L2
open PySem PySem.Spec PyProof.Rows
section
variable{X:Cx}{x:Str}{p pos:Pos}{e:Expr}{es:List Expr}{t:TA}{id T:String}{r:List V→Hp→VK→Prop}
def tCB(r:List V→Hp→VK→Prop)(t:TA):TE:=λσ H Q=>t σ H λvs H1=>r vs H1 Q
theorem Wu(hc:lV X (.builtin id) r)(hg:Gl X x)(hm:X.mg x=none)(hv:bootBuiltins x=some (.builtin id))(ha:PA X (e::es) t)(hn:x ≠ "__name__" := by decide) (hdb:(x==("__debug__" : Str))=false:=by decide)
  (he:starEach (e::es) X.env=(false,eval e X.env)::starEach es X.env:=by rfl) (hpl:(backTo pos (starEach es X.env)).any (·.1)=false:=by rfl):PE X (.Call (.Name x p) (e::es) [] pos) (tCB r t):=by
 intro pins s σ H Q I h
 refine wpAny_Call_Name_kw (uF I hg hm hv ?_ hn hdb)
 exact T4 (gQ (ha pos pins s σ H _ I h) λus s1 ⟨vs,H1,I1,r1,q1⟩=>hc pins s1 σ H1 vs us Q I1 r1 q1) he hpl
theorem Qh(hc:lV X (.type T) r)(hg:Gl X x)(hm:X.mg x=none)(hv:bootBuiltins x=some (.type T))(ha:PA X (e::es) t)(hn:x ≠ "__name__" := by decide) (hdb:(x==("__debug__" : Str))=false:=by decide)
  (he:starEach (e::es) X.env=(false,eval e X.env)::starEach es X.env:=by rfl) (hpl:(backTo pos (starEach es X.env)).any (·.1)=false:=by rfl):PE X (.Call (.Name x p) (e::es) [] pos) (tCB r t):=by
 intro pins s σ H Q I h
 refine wpAny_Call_Name_kw (uF I hg hm hv ?_ hn hdb)
 exact K8 (gQ (ha pos pins s σ H _ I h) λus s1 ⟨vs,H1,I1,r1,q1⟩=>hc pins s1 σ H1 vs us Q I1 r1 q1) he hpl
end
end L2
namespace HT
open PySem PyProof.Rows
theorem dz(A:Around)(s:Shared)(a:Int)(t:Tok)(c:Int)(u:Tok)(prog:Program)(w:World)(E:Value→Shared→Prop)(Q:Value→Shared→Prop)(h:Q (.bool (decide (a<c))) s) :
  wpAny (model prog w) A (richCompare .Lt (.int a t) (.int c u)) Q E s:=
 (PyProof.Rows.lt_int h:wpAny (model prog w) A (compareOp .Lt (.int a t) (.int c u)) Q E s)
section
open PySem.SeqAt
open PySem.AutoSeq1 (wpAny_loadPart')
open PySem.MeetsSeq PySem.MeetsSeq2 PySem.MeetsSeq3
end
section
variable{prog:Program}{w:World}{A:Around}{E:Value→Shared→Prop}{s:Shared}
end
end HT
namespace L2
open PySem PySem.Spec PyProof.Rows
abbrev TO:=St→Hp→(Option Int→Hp→Prop)→Prop
def PO(X:Cx)(e:Option Expr)(t:TO):Prop:=
 ∀(pins:List (Addr×Obj))(s:Shared)(σ:St)(H:Hp)(Q:Option Int→Hp→Prop),Inv X pins σ H s→t σ H Q →
  wpAny (model X.prog X.w) X.A (evalPart e X.env) (λu s'=>∃o H',Inv X pins σ H' s'∧IsPart u o∧Q o H') X.xe s
theorem intsAre_of{ns:List Int}:∀{us:List Value},Vals (ns.map V.int) us→IntsAre us ns:=by
 induction ns with
 | nil=>intro us r;rw[F8]at r;cases r;exact .nil
 | cons n ns ih=>
  intro us r
  rw[D2]at r
  cases r with
  | cons r1 r2=>
   obtain⟨t,e⟩:=r1
   subst e
   exact .cons n t (ih r2)
section
variable{X:Cx}{e:Expr}{te:TE}{lo hi:Option Expr}{tl th:TO}{pos p2:Pos}
def SlR(X:Cx)(r:V→Option Int→Option Int→Hp→VK→Prop):Prop:=
 ∀(pins:List (Addr×Obj))(s:Shared)(σ:St)(H:Hp)(x:V)(v vl vu:Value)(lo hi:Option Int)(sl:Addr)(Q:VK),Inv X pins σ H s→RelV x v→s.heap.IsSliceOf sl vl vu .none→IsPart vl lo→IsPart vu hi→r x lo hi H Q →
  ∃T id,typeLookup (.type T) "__getitem__" = pure (some (.builtin id))∧s.TypeIs v T∧wpAny (model X.prog X.w) X.A (getItem v (.ref sl)) (EP X pins σ Q) X.xe s
end
end L2
namespace L2
open PySem PySem.Spec PyProof.Rows
def UJ(n:Nat)(i:Int):Option Nat:=if 0≤i then(if i<n then some i.toNat else none)else if -(n:Int)≤i then some (i+n).toNat else none
def LK{α:Type}(xs:List α)(i:Int):Option α:=(UJ xs.length i).bind λj=>xs[j]?
theorem LQ{n:Nat}{i:Int}{j:Nat}(h:UJ n i=some j):seqIndex? i n=some j∧j<n∧-(n:Int)≤i∧i<n:=by
 unfold UJ at h
 by_cases h0:0≤i
 ·rw[if_pos h0]at h
  by_cases h1:i<n
  ·rw[if_pos h1]at h
   have e:i.toNat=j:=F0 h
   exact⟨by rw[seqIndex_of h0 h1,e],by omega,by omega,h1⟩
  ·rw[if_neg h1]at h;cases h
 ·rw[if_neg h0]at h
  by_cases h1:-(n:Int)≤i
  ·rw[if_pos h1]at h
   have e:(i+n).toNat=j:=F0 h
   exact⟨by rw[seqIndex_neg (by omega) h1,e],by omega,h1,by omega⟩
  ·rw[if_neg h1]at h;cases h
theorem Tq{α:Type}{xs:List α}{i:Int}{v:α}(h:LK xs i=some v):∃j,seqIndex? i xs.length=some j∧xs[j]?=some v∧j<xs.length∧-(xs.length:Int)≤i∧i<xs.length:=by
 unfold LK at h
 cases e:UJ xs.length i with
 | none=>rw[e]at h;cases h
 | some j=>
  rw[e]at h
  obtain⟨h1,h2,h3,h4⟩:=LQ e
  exact⟨j,h1,h,h2,h3,h4⟩
theorem aAE{α:Type}{xs:List α}{j:Nat}{v:α}(h:xs[j]?=some v):LK xs (j:Int)=some v:=by
 have hj:j<xs.length:=(D3.mp h).1
 have e:UJ xs.length (j:Int)=some j:=by
  unfold UJ
  rw[if_pos (by omega),if_pos (by omega)];simp
 unfold LK;rw[e];exact h
def Ht(b:Expr):Prop:=∀o i,subscripted b false o i=operate [o,i] (getItem o i)
def fj(X:Cx)(r:R2):Prop:=
 ∀(value slice:Expr)(pins:List (Addr×Obj))(s:Shared)(σ:St)(H:Hp)(x y:V)(v u:Value)(Q:VK),Inv X pins σ H s→RelV x v→RelV y u→r x y H Q →
  subscripted slice false v u=operate [v,u] (getItem v u)→wpAny (model X.prog X.w) X.A (subscriptTail value slice v u) (EP X pins σ Q) X.xe s
def MtR(X:Cx)(id:String)(r:V→List V→Hp→VK→Prop):Prop:=
 ∀(pins:List (Addr×Obj))(s:Shared)(σ:St)(H:Hp)(x:V)(xs:List V)(v:Value)(us:List Value)(Q:VK),Inv X pins σ H s→RelV x v→Vals xs us→r x xs H Q →
  wpAny (model X.prog X.w) X.A (call (.builtin id) (v::us)) (EP X pins σ Q) X.xe s
section
variable{X:Cx}{a b:Expr}{ta tb:TE}{pos:Pos}
theorem fj.or{r r':R2}(h:fj X r)(h':fj X r'):fj X (λx y H Q=>r x y H Q∨r' x y H Q):=by
 intro value slice pins s σ H x y v u Q I rx ry q hs
 rcases q with q | q
 ·exact h value slice pins s σ H x y v u Q I rx ry q hs
 ·exact h' value slice pins s σ H x y v u Q I rx ry q hs
theorem gf{r:R2}(hr:fj X r)(ha:PE X a ta)(hb:PE X b tb)(hs:Ht b):PE X (.Subscript a b pos) (Pz r ta tb):=by
 intro pins s σ H Q I h
 exact Subscript_ (aC0 ha hb I h λv u s2 x y H2 I2 rx ry q=>hr a b pins s2 σ H2 x y v u Q I2 rx ry q (hs _ _))
def aAF(K:aD):R2:=λx y H Q=>∃p xs i v,x=.ref p∧y=.int i∧pY K H p xs∧LK xs i=some v∧Q v H
def aFw(K:aD):R2:=λx y H Q=>∃p xs i v,x=.ref p∧y=.int i∧vU K H p xs∧LK xs i=some v∧Q v H
def aFx:R2:=λx y H Q=>∃z i c,x=.str z∧y=.int i∧z.length≤sizeLine∧LK z.cps.toList i=some c∧Q (.str ⟨#[c]⟩) H
theorem LR:fj X (aAF X.K):=by
 intro value slice pins s σ H x y v u Q I rx ry h hs
 obtain⟨p,xs,i,z,rfl,rfl,hq,he,q⟩:=h
 cases rx
 obtain⟨t,rfl⟩:=ry
 obtain⟨its,r,pl,hz⟩:=I.list hq
 obtain⟨j,h1,h2,h3,h4,h5⟩:=Tq he
 obtain⟨w,ew,Oa⟩:=r.get h2
 have hl:=r.length
 have hn:=Jh
 have fin:EP X pins σ Q w s:=⟨z,H,I,Oa,q⟩
 by_cases h0:0≤i
 ·have hj:i.toNat=j:=by
   rw[seqIndex_of h0 h5]at h1
   exact F0 h1
  exact item_listR pl.isList h0 (by omega) (by rw[hj];simpa using ew) fin hs
 ·have hj:(i+(its.toArray.size:Int)).toNat=j:=by
   rw[seqIndex_neg (by omega) h4]at h1
   rw[C9,←hl]
   exact F0 h1
  exact subscriptTail_builtinR (x:=w) pl.isList.typeIs slot_list_getitem.lookup
   (wpAny_getItem_list_neg (Q:=λr s'=>r=w∧EP X pins σ Q r s') pl.isList (by omega) (by rw[C9]<;>omega) (by omega) (by rw[hj];simpa using ew) ⟨rfl,fin⟩) hs
theorem aDc:fj X (aFw X.K):=by
 intro value slice pins s σ H x y v u Q I rx ry h hs
 obtain⟨p,xs,i,z,rfl,rfl,hq,he,q⟩:=h
 cases rx
 obtain⟨t,rfl⟩:=ry
 obtain⟨its,r,pl,hz⟩:=I.tuple hq
 obtain⟨j,h1,h2,h3,h4,h5⟩:=Tq he
 obtain⟨w,ew,Oa⟩:=r.get h2
 have hl:=r.length
 have hn:=Jh
 have fin:EP X pins σ Q w s:=⟨z,H,I,Oa,q⟩
 exact subscriptTail_builtinR (x:=w) pl.typeIs slot_tuple_getitem.lookup
  (getItem_tuple (j:=j) (Q:=λr s'=>r=w∧EP X pins σ Q r s') pl (by omega) (by omega) (by rw[C9,←hl];exact h1) (by simpa using ew) ⟨rfl,fin⟩) hs
theorem aDd:fj X aFx:=by
 intro value slice pins s σ H x y v u Q I rx ry h hs
 obtain⟨z,i,c,rfl,rfl,hz,he,q⟩:=h
 obtain⟨t,rfl⟩:=rx
 obtain⟨t',rfl⟩:=ry
 obtain⟨j,h1,h2,h3,h4,h5⟩:=Tq he
 have hl:z.cps.toList.length=z.length:=by simp[Str.length]
 rw[hl]at h1 h4 h5
 have hn:=Jh
 exact tail_any (typeIs_str s z t) slot_str_getitem.lookup (getItem_str (c:=c) (by
  have e1:decide (i < -(2 ^ 63:Int))=false:=decide_eq_false (by omega)
  have e2:decide (i≥2 ^ 63)=false:=decide_eq_false (by omega)
  rw[e1,e2,j9]) (by rw[h1];simpa using h2) ⟨.str ⟨#[c]⟩,H,I.tok _,⟨_,rfl⟩,q⟩) hs
def rIx(K:aD):R2:=λx y H Q=>aAF K x y H Q∨aFw K x y H Q∨aFx x y H Q
theorem aDe:fj X (rIx X.K):=LR.or (aDc.or aDd)
theorem DN(its:List Value)(n j:Nat)(u:Value):Obj.mapSeq (·.setIfInBounds j u) {cls:=.type "list", data:=.seq its.toArray n}={cls:=.type "list", data:=.seq (its.set j u).toArray n}:=by
 simp[Obj.mapSeq]
theorem Inv.lst{pins:List (Addr×Obj)}{σ:St}{H:Hp}{s:Shared}{p:Addr}{xs:List V}(I:Inv X pins σ H s)(h:H p=some (.lst xs)) :
  ∃(its:List Value)(n:Nat),Vals xs its∧s.heap.get? p=some {cls:=.type "list", data:=.seq its.toArray n}∧xs.length≤sizeLine:=by
 obtain⟨z,its,n,r,e⟩:=I.hok p _ h
 exact⟨its,n,r,e,z⟩
theorem Inv.aDf{pins:List (Addr×Obj)}{σ:St}{H:Hp}{s:Shared}{p:Addr}{xs ys:List V}{its its':List Value}{n n':Nat}{f:Obj→Obj}(I:Inv X pins σ H s)(h:H p=some (.lst xs))
  (ho:s.heap.get? p=some {cls:=.type "list", data:=.seq its.toArray n}) (hf:f {cls:=.type "list", data:=.seq its.toArray n}={cls:=.type "list", data:=.seq its'.toArray n'}) (r:Vals ys its') (hz:ys.length≤sizeLine) (t:Nat) :
  Inv X pins σ (upd H p (.lst ys)) {s with heap:=s.heap.update p f,toks:=t}:=by
 have e:(s.heap.update p f).get? p=some {cls:=.type "list", data:=.seq its'.toArray n'}:=by
  rw[Heap.get?_update_self f ho (by rw[hf]<;>rfl),hf]
 refine I.write (x:=p) (e:=p) (by rw[h];trivial) (.inl rfl) (λb u hb q=>(Heap.get?_update_other _ _ (Ne.symm hb)).trans q) ⟨_,e⟩ ?_
 exact⟨hz,its',n',r,e⟩
def MF:V→V→V→Hp→(Hp→Prop)→Prop:=λo i v H Q=>∃p xs k j,o=.ref p∧i=.int k∧H p=some (.lst xs)∧UJ xs.length k=some j∧Q (upd H p (.lst (xs.set j v)))
theorem set_list:aFj X MF:=by
 intro pins s σ H o i v ov iv u Q I ro ri rv h
 obtain⟨p,xs,k,j,rfl,rfl,hp,hj,q⟩:=h
 cases ro
 obtain⟨t,rfl⟩:=ri
 obtain⟨its,n,r,ho,hz⟩:=I.lst hp
 obtain⟨h1,h2,h3,h4⟩:=LQ hj
 have hl:=r.length
 have hn:=Jh
 have I':Inv X pins σ (upd H p (.lst (xs.set j v))) {s with heap:=s.heap.update p (Obj.mapSeq (·.setIfInBounds j u))}:=
  I.aDf hp ho (DN its n j u) (r.set rv j) (by rw[M8];exact hz) s.toks
 by_cases h0:0≤k
 ·have hk:k.toNat=j:=by
   rw[seqIndex_of h0 h4]at h1
   exact F0 h1
  exact PySem.W.ki_setAt ho h0 (by omega) (by rw[C9,←hl];exact h4) (by rw[hk];exact⟨_,I',q⟩)
 ·have hk:(k+(its.toArray.size:Int)).toNat=j:=by
   rw[seqIndex_neg (by omega) h3]at h1
   rw[C9,←hl]
   exact F0 h1
  exact PySem.W.ki_setBack ho (by omega) (by rw[C9,←hl];exact h3) (by omega) (by rw[hk];exact⟨_,I',q⟩)
def vZ:V→Bool
 | .non=>true
 | .bl _=>true
 | .int _=>true
 | .str _=>true
 | _=>false
def eqV:V→V→Bool
 | .non,.non=>true
 | .bl a,.bl b=>a==b
 | .bl a,.int b=>(if a then 1 else 0)==b
 | .int a,.bl b=>a==(if b then 1 else 0)
 | .int a,.int b=>a==b
 | .str a,.str b=>a==b
 | _,_=>false
theorem aDg{A:Around}{s:Shared}{y x:V}{u v:Value}(ry:RelV y u)(rx:RelV x v)(fy:vZ y=true)(fx:vZ x=true):SeqAt.EqAt A s u v (eqV y x):=by
 cases y with
 | non=>
  cases ry
  cases x with
  | non=>cases rx;exact SeqAt.EqAt.same _
  | bl b=>cases rx;exact SeqAt.EqAt.none_bool b
  | int b=>obtain⟨t,rfl⟩:=rx;exact SeqAt.EqAt.none_int b t
  | str b=>obtain⟨t,rfl⟩:=rx;exact SeqAt.EqAt.none_str b t
  | _=>exact absurd (show false=true from fx) D7
 | bl a=>
  cases ry
  cases x with
  | non=>cases rx;exact SeqAt.EqAt.bool_none a
  | bl b=>cases rx;exact SeqAt.EqAt.bool_bool a b
  | int b=>obtain⟨t,rfl⟩:=rx;exact SeqAt.EqAt.bool_int a b t
  | str b=>obtain⟨t,rfl⟩:=rx;exact SeqAt.EqAt.bool_str a b t
  | _=>exact absurd (show false=true from fx) D7
 | int a=>
  obtain⟨t',rfl⟩:=ry
  cases x with
  | non=>cases rx;exact SeqAt.EqAt.int_none a t'
  | bl b=>cases rx;exact SeqAt.EqAt.int_bool a t' b
  | int b=>obtain⟨t,rfl⟩:=rx;exact SeqAt.EqAt.int_int a t' b t
  | str b=>obtain⟨t,rfl⟩:=rx;exact SeqAt.EqAt.int_str a t' b t
  | _=>exact absurd (show false=true from fx) D7
 | str a=>
  obtain⟨t',rfl⟩:=ry
  cases x with
  | non=>cases rx;exact SeqAt.EqAt.str_none a t'
  | bl b=>cases rx;exact SeqAt.EqAt.str_bool a t' b
  | int b=>obtain⟨t,rfl⟩:=rx;exact SeqAt.EqAt.str_int a t' b t
  | str b=>obtain⟨t,rfl⟩:=rx;exact SeqAt.EqAt.str_str a t' b t
  | _=>exact absurd (show false=true from fx) D7
 | _=>exact absurd (show false=true from fy) D7
def Tr(x:V)(u:Value):Bool:=match u with
 | .none=>eqV .non x
 | .bool b=>eqV (.bl b) x
 | .int i _=>eqV (.int i) x
 | .str z _=>eqV (.str z) x
 | _=>false
theorem gj{x y:V}{u:Value}(r:RelV y u)(f:vZ y=true):Tr x u=eqV y x:=by
 cases y with
 | non=>cases r;rfl
 | bl b=>cases r;rfl
 | int i=>obtain⟨t,rfl⟩:=r;rfl
 | str z=>obtain⟨t,rfl⟩:=r;rfl
 | _=>exact absurd (show false=true from f) D7
theorem Bh{x:V}:∀{xs:List V} {us:List Value},Vals xs us→xs.all vZ=true→us.any (Tr x)=xs.any λy=>eqV y x
 | _,_,.nil,_=>rfl
 | y::xs,u::us,.cons r t,f=>by
  rw[k7,L6]at f
  rw[S0,S0,gj r f.1,Bh t f.2]
theorem wA{A:Around}{s:Shared}{x:V}{v:Value}(rx:RelV x v)(fx:vZ x=true):∀{xs:List V} {us:List Value},Vals xs us→xs.all vZ=true→∀u∈us,SeqAt.EqAt A s u v (Tr x u)
 | _,_,.nil,_=>λu hu=>by cases hu
 | y::xs,u::us,.cons r t,f=>λu' hu=>by
  rw[k7,L6]at f
  rcases C6.mp hu with rfl | hu
  ·rw[gj r f.1];exact aDg r rx f.1 fx
  ·exact wA rx fx t f.2 u' hu
def inV(x:V)(xs:List V):Bool:=xs.any λy=>eqV y x
def rIn(K:aD)(neg:Bool):R2:=λx y H Q=>∃p xs,y=.ref p∧(pY K H p xs∨vU K H p xs)∧vZ x=true∧xs.all vZ=true∧Q (.bl (if neg then !inV x xs else inV x xs)) H
theorem UL:sY X (compareOp .In) (rIn X.K false):=by
 intro pins s σ H x y v u Q I rx ry h
 obtain⟨p,xs,rfl,hq,fx,fs,q⟩:=h
 cases ry
 rcases hq with hq | hq
 ·obtain⟨its,r,pl,hz⟩:=I.list hq
  refine SeqAt.in_listAt (Tr x) pl.isList (λw hw=>wA rx fx r fs w (by simpa using hw)) ⟨.bl _,H,I,rfl,?_⟩
  rw[show its.toArray.any (Tr x)=its.any (Tr x) by simp,Bh r fs]
  exact q
 ·obtain⟨its,r,pl,hz⟩:=I.tuple hq
  refine SeqAt.in_tupleAt (Tr x) pl (λw hw=>wA rx fx r fs w (by simpa using hw)) ⟨.bl _,H,I,rfl,?_⟩
  rw[show its.toArray.any (Tr x)=its.any (Tr x) by simp,Bh r fs]
  exact q
theorem Tt:sY X (compareOp .NotIn) (rIn X.K true):=by
 intro pins s σ H x y v u Q I rx ry h
 obtain⟨p,xs,rfl,hq,fx,fs,q⟩:=h
 cases ry
 rcases hq with hq | hq
 ·obtain⟨its,r,pl,hz⟩:=I.list hq
  refine SeqAt.notIn_listAt (Tr x) pl.isList (λw hw=>wA rx fx r fs w (by simpa using hw)) ⟨.bl _,H,I,rfl,?_⟩
  rw[show its.toArray.any (Tr x)=its.any (Tr x) by simp,Bh r fs]
  exact q
 ·obtain⟨its,r,pl,hz⟩:=I.tuple hq
  refine SeqAt.notIn_tupleAt (Tr x) pl (λw hw=>wA rx fx r fs w (by simpa using hw)) ⟨.bl _,H,I,rfl,?_⟩
  rw[show its.toArray.any (Tr x)=its.any (Tr x) by simp,Bh r fs]
  exact q
theorem Tu:lV X (.builtin "len") (λxs H Q=>∃p ys,xs=[.ref p]∧(pY X.K H p ys∨vU X.K H p ys)∧Q (.int ys.length) H):=by
 intro pins s σ H xs us Q I r h
 obtain⟨p,ys,rfl,hq,q⟩:=h
 obtain⟨u,rfl,rx⟩:=vals1 r
 cases rx
 have hn:=Jh
 rcases hq with hq | hq
 ·obtain⟨its,r',pl,hz⟩:=I.list hq
  have hlen:=r'.length
  exact Calls.call_len_list pl.isList (by simp only[C9]<;>omega) ⟨.int ys.length,H,I.tok _,⟨s.toks+1,by rw[C9,hlen]⟩,q⟩
 ·obtain⟨its,r',pl,hz⟩:=I.tuple hq
  have hlen:=r'.length
  exact len_tuple pl (by simp only[C9]<;>omega) ⟨.int ys.length,H,I.tok _,⟨s.toks+1,by rw[C9,hlen]⟩,q⟩
theorem Tv:lV X (.type "list") (λxs H Q=>∃p ys,xs=[.ref p]∧(pY X.K H p ys∨vU X.K H p ys)∧∀l,H l=none→Q (.ref l) (upd H l (.lst ys))):=by
 intro pins s σ H xs us Q I r h
 obtain⟨p,ys,rfl,hq,q⟩:=h
 obtain⟨u,rfl,rx⟩:=vals1 r
 cases rx
 have fin:∀(its:List Value),Vals ys its→ys.length≤sizeLine→∀(h':Heap)(c':Nat),(∀b o',s.heap.get? b=some o'→h'.get? b=some o') →
   h'.get? s.heap.objs.size=some {cls:=.type "list", dict:=none,data:=.seq its.toArray c',slots:=#[]}→EP X pins σ Q (.ref s.heap.objs.size) {s with heap:=h'}:=λits r' hz h' c' kp e=>
  ⟨.ref s.heap.objs.size,_,I.laid (t':=s.toks) kp (C8 _) (show iM X.prog X.w _ h' _ (.lst ys)from⟨hz,its,c',r',e⟩),rfl,q _ (I.hok.fresh (C8 _))⟩
 rcases hq with hq | hq
 ·obtain⟨its,r',pl,hz⟩:=I.list hq
  have hlen:=r'.length
  obtain⟨o,ho,hc,n,hd⟩:=pl.isList
  exact call_list_seq p (.inl rfl) ho hc hd (λh' c' kp e=>fin its r' hz h' c' kp e) (by simp only[C9]<;>omega)
 ·obtain⟨its,r',pl,hz⟩:=I.tuple hq
  have hlen:=r'.length
  obtain⟨o,ho,hc,n,hd⟩:=pl
  exact call_list_seq p (.inr rfl) ho hc hd (λh' c' kp e=>fin its r' hz h' c' kp e) (by simp only[C9]<;>omega)
theorem Ob:lV X (.type "tuple") (λxs H Q=>∃p ys,xs=[.ref p]∧((pY X.K H p ys∧∀l,H l=none→Q (.ref l) (upd H l (.tup ys)))∨(vU X.K H p ys∧Q (.ref p) H))):=by
 intro pins s σ H xs us Q I r h
 obtain⟨p,ys,rfl,h⟩:=h
 obtain⟨u,rfl,rx⟩:=vals1 r
 cases rx
 rcases h with ⟨hq,q⟩ | ⟨hq,q⟩
 ·obtain⟨its,r',pl,hz⟩:=I.list hq
  have hlen:=r'.length
  refine call_tuple_list pl.isList (λh' kp=>?_) (by simp only[C9]<;>omega)
  have I1:Inv X pins σ H {s with heap:=h'}:=I.kept (t':=s.toks) kp
  have I2:Inv X pins σ (upd H h'.objs.size (.tup ys)) {s with heap:=h'.push {cls:=.type "tuple", data:=.seq its.toArray}}:=
   I1.laid (t':=s.toks) (λb o e=>Heap.get?_push_of_some _ e) (C8 _) (show iM X.prog X.w _ _ _ (.tup ys)from⟨hz,its,r',IsTup.new _ _⟩)
  exact⟨.ref h'.objs.size,_,I2,rfl,q _ (I1.hok.fresh (C8 _))⟩
 ·obtain⟨its,r',pl,hz⟩:=I.tuple hq
  exact call_tuple_same pl ⟨.ref p,H,I,rfl,q⟩
def tyV(K:aD)(T:String)(x:V)(H:Hp):Prop:=match x with
 | .str _=>T = "str"
 | .int _=>T = "int"
 | .ref p=>(T = "list" ∧ ∃xs,pY K H p xs)∨(T = "tuple" ∧ ∃o,K.lookup p=some o∧o.cls=.type "tuple" ∧ o.dict=none) ∨
   (T = "dict" ∧ ((∃kvs,H p=some (.dK kvs))∨∃kvs,H p=some (.dT kvs)))∨(T = "set" ∧ ∃S n,H p=some (.set S n))
 | _=>False
theorem aDh{pins:List (Addr×Obj)}{σ:St}{H:Hp}{s:Shared}{T:String}{x:V}{v:Value}(I:Inv X pins σ H s)(r:RelV x v)(ty:tyV X.K T x H) :
  s.TypeIs v T∧∀a,v=.ref a→∃ob,s.heap.get? a=some ob∧ob.dict=none:=by
 cases x with
 | str z=>
  obtain⟨t,rfl⟩:=r
  cases(show T = "str" from ty)
  exact⟨typeIs_str s z t,λ_ e=>nomatch e⟩
 | int i=>
  obtain⟨t,rfl⟩:=r
  cases(show T = "int" from ty)
  exact⟨typeIs_int s i t,λ_ e=>nomatch e⟩
 | ref p=>
  cases r
  rcases ty with ⟨rfl,xs,hq⟩ | ⟨rfl,o,hk,hc,hd⟩ | ⟨rfl,hk⟩ | ⟨rfl,S,n,hk⟩
  ·obtain⟨its,_,pl,_⟩:=I.list hq
   refine⟨pl.isList.typeIs,λa e=>?_⟩
   cases e
   obtain⟨o,n,e,c,hd,_⟩:=pl
   exact⟨o,e,hd⟩
  ·refine⟨⟨o,I.Nz p o hk,hc⟩,λa e=>?_⟩
   cases e
   exact⟨o,I.Nz _ o hk,hd⟩
  ·have z:∃o,s.heap.get? p=some o∧o.ExactDict:=by
    rcases hk with ⟨kvs,hk⟩ | ⟨kvs,hk⟩
    ·obtain⟨_,_,_,_,o,_,_,e,ex,_⟩:=I.hok p _ hk
     exact⟨o,e,ex⟩
    ·obtain⟨_,_,_,_,o,_,_,e,ex,_⟩:=I.hok p _ hk
     exact⟨o,e,ex⟩
   obtain⟨o,e,ex⟩:=z
   refine⟨⟨o,e,ex.1⟩,λa e2=>?_⟩
   cases e2
   exact⟨o,e,ex.2.1⟩
  ·obtain⟨o,_,_,_,e,ex,_⟩:=I.hok p _ hk
   refine⟨⟨o,e,ex.1⟩,λa e2=>?_⟩
   cases e2
   exact⟨o,e,ex.2.1⟩
 | _=>exact False.elim ty
def Qi(K:aD)(T:String)(r:V→List V→Hp→VK→Prop)(to:TE)(t:TA):TE:=λσ H Q=>to σ H λx H1=>tyV K T x H1∧t σ H1 λxs H2=>r x xs H2 Q
variable{o e:Expr}{es:List Expr}{to:TE}{t:TA}{name:Str}{apos cpos:Pos}{T id:String}{r:V→List V→Hp→VK→Prop}
theorem wB(pa:PlainAttrs T)(slot:Slot T name id)(hty:typeOf (.builtin id)=pure (.type "method_descriptor")) (hm:MtR X id r) (ho:PE X o to) (ha:PA X (e::es) t)
  (hbase:attributeBase o name X.env (eval o X.env)=eval o X.env:=by rfl)
  (hfew:((backTo cpos (starEach (e::es) X.env)).all (λx=>!x.1)&&(backToKw cpos (keywordEach [] X.env)).all (λx=>x.1.isSome)
   && decide ((e::es).length+([]:List Keyword).length+(if([]:List Keyword).isEmpty then 0 else 1)<30))=true:=by rfl)
  (hline:(apos.endLine==cpos.line)=true:=by rfl) (hs:starEach (e::es) X.env=(false,eval e X.env)::starEach es X.env:=by rfl) (hplain:(backTo cpos (starEach es X.env)).any (·.1)=false:=by rfl) :
  PE X (.Call (.Attribute o name apos) (e::es) [] cpos) (Qi X.K T r to t):=by
 intro pins s σ H Q I h
 refine wpAny_Call_method_late hbase hfew hline rfl (gQ (ho pins s σ H _ I h) λv s1 ⟨x,H1,I1,r1,ty,q1⟩=>?_)
 obtain⟨h1,h2⟩:=aDh I1 r1 ty
 refine⟨T,id,pa,slot,hty,h1,h2,?_⟩
 have hA:=ha cpos pins s1 σ H1 _ I1 q1
 rw[hs]at hA ⊢
 refine Calls.callWith_builtin (by show (false||(backTo cpos (starEach es X.env)).any (·.1))=false;rw[hplain]<;>rfl) (Calls.evalArgs_plain ?_)
 exact gQ hA λus s2 ⟨vs,H2,I2,r2,q2⟩=>hm pins s2 σ H2 x vs v us Q I2 r1 r2 q2
end
end L2
namespace L2
open PySem PySem.Spec PyProof.Rows
def MtM(X:Cx)(id:String)(r:V→List V→Hp→VK→Prop):Prop:=
 ∀(pins:List (Addr×Obj))(s:Shared)(σ:St)(H:Hp)(x:V)(xs:List V)(v:Value)(us:List Value)(Q:VK),Inv X pins σ H s→RelV x v→Vals xs us→r x xs H Q →
  wpAny (model X.prog X.w) X.A (call (.builtin id) (v::us)) (EP X pins σ Q) X.xe s
theorem Vals.one:∀{x:V} {us:List Value},Vals [x] us→∃u,us=[u]∧RelV x u
 | _,_,.cons r .nil=>⟨_,rfl,r⟩
theorem Vals.two:∀{x y:V} {us:List Value},Vals [x,y] us→∃u v,us=[u,v]∧RelV x u∧RelV y v
 | _,_,_,.cons r (.cons q .nil)=>⟨_,_,rfl,r,q⟩
theorem Vals.eraseIdx:∀{xs:List V} {us:List Value} (i:Nat),Vals xs us→Vals (xs.eraseIdx i) (us.eraseIdx i)
 | _,_,_,.nil=>.nil
 | _,_,0,.cons _ t=>t
 | _,_,i+1,.cons r t=>.cons r (Vals.eraseIdx i t)
theorem Ec{α:Type}:∀(l:List α)(i:Nat),(l.eraseIdx i).length≤l.length
 | [],_=>C8 _
 | _::_,0=>N0 _
 | _::r,i+1=>O5 (Ec r i)
section
variable{X:Cx}{pins:List (Addr×Obj)}{σ:St}{H:Hp}{s:Shared}{l b:Addr}{xs ys zs:List V}
theorem Inv.aAG{its its':List Value}{n:Nat}{f:Array Value→Array Value}{t':Nat}(I:Inv X pins σ H s)(hH:H l=some (.lst xs))
  (e:s.heap.get? l=some {cls:=.type "list", data:=.seq its.toArray n}) (hf:f its.toArray=its'.toArray) (hv:Vals ys its') (hz:ys.length≤sizeLine) :
  Inv X pins σ (upd H l (.lst ys)) {s with heap:=s.heap.update l (Obj.mapSeq f),toks:=t'}:=by
 have q:=PySem.IsL.update e f
 rw[hf]at q
 refine I.write (x:=l) (e:=l) (by rw[hH];exact trivial) (.inl rfl) (λb' u hb hu=>(Heap.get?_update_other s.heap (Obj.mapSeq f) (Ne.symm hb)).trans hu) ⟨_,q⟩ ?_
 exact⟨hz,its',_,hv,q⟩
theorem Inv.aFA{its:List Value}{t':Nat}(I:Inv X pins σ H s)(hv:Vals ys its)(hz:ys.length≤sizeLine) :
  Inv X pins σ (upd H s.heap.objs.size (.lst ys)) {s with heap:=s.heap.push {cls:=.type "list", data:=.seq its.toArray},toks:=t'}:=
 I.laid (λ_ _ q=>Heap.get?_push_of_some _ q) (C8 _) ⟨hz,its,0,hv,Heap.get?_push_size _ rfl⟩
theorem Inv.fresh(I:Inv X pins σ H s):H s.heap.objs.size=none:=I.hok.fresh (C8 _)
theorem Inv.aAH(I:Inv X pins σ H s)(hH:H l=some (.lst xs)):xs.length≤sizeLine∧∃(its:List Value)(n:Nat),Vals xs its∧xs.length=its.length∧s.heap.get? l=some {cls:=.type "list", data:=.seq its.toArray n}:=by
 obtain⟨z,its,n,r,e⟩:=I.hok l _ hH
 exact⟨z,its,n,r,r.length,e⟩
end
section
variable{X:Cx}
def pO:V→List V→Hp→VK→Prop:=λx vs H Q=>∃l xs y,x=.ref l∧vs=[y]∧H l=some (.lst xs)∧xs.length<sizeLine∧Q .non (upd H l (.lst (xs++[y])))
theorem nG:MtM X "list.append" pO:=by
 intro pins s σ H x vs v us Q I rx rv h
 obtain⟨l,xs,y,rfl,rfl,hH,hz,q⟩:=h
 cases rx
 obtain⟨u,rfl,ru⟩:=rv.one
 obtain⟨z,its,n,r,hl,e⟩:=I.aAH hH
 refine call_meets F.slot_list_append ⟨_,e,rfl⟩ F.entry_list_append (F.args_list_append_2 _ _) (PySem.list_append l its.toArray n u (by rw[C9];omega)) ⟨e,?_⟩
 refine⟨.non,_,I.aAG (its':=its++[u]) hH e (by simp) (r.append (.cons ru .nil)) ?_,rfl,q⟩
 rw[D4,List.length_singleton]
 omega
def Tw:V→List V→Hp→VK→Prop:=λx vs H Q=>∃l xs i k y,x=.ref l∧vs=[.int i]∧H l=some (.lst xs)∧-(2 ^ 63)≤i∧i<2 ^ 63∧seqIndex? i xs.length=some k∧xs[k]?=some y∧Q y (upd H l (.lst (xs.eraseIdx k)))
theorem gq:MtM X "list.pop" Tw:=by
 intro pins s σ H x vs v us Q I rx rv h
 obtain⟨l,xs,i,k,y,rfl,rfl,hH,h1,h2,hk,hy,q⟩:=h
 cases rx
 obtain⟨u,rfl,ru⟩:=rv.one
 obtain⟨t,rfl⟩:=ru
 obtain⟨z,its,n,r,hl,e⟩:=I.aAH hH
 obtain⟨w,hw,Oa⟩:=r.get hy
 refine call_meets F.slot_list_pop ⟨_,e,rfl⟩ F.entry_list_pop (F.args_list_pop_2 _ _)
  (MeetsSeq.list_pop_at l its.toArray n i t k w (fitsIndex_both h1 h2) (by rw[C9,←hl];exact hk) (by rw[←K5];exact hw) (by rw[C9];omega)) ⟨e,?_⟩
 refine⟨y,_,I.aAG (its':=its.eraseIdx k) hH e ?_ (r.eraseIdx k) ?_,Oa,q⟩
 ·show its.toArray.eraseIdxIfInBounds k=(its.eraseIdx k).toArray
  rw[T1]
 ·have:=Ec xs k
  omega
end
section
variable{prog:Program}{w:World}{A:Around}{E:Value→Shared→Prop}{s:Shared}
end
section
variable{X:Cx}
end
end L2
namespace L2
open PySem PySem.Spec PyProof.Rows
section
variable{κ:Type} [DecidableEq κ]
def uH(kvs:List (κ×V))(k:κ):Option V:=(kvs.find? λkv=>decide (kv.1=k)).map (·.2)
def putK(kvs:List (κ×V))(k:κ)(v:V):List (κ×V):=
 if(kvs.any λkv=>decide (kv.1=k))=true then kvs.map (λkv=>if kv.1=k then(kv.1,v)else kv)else kvs++[(k,v)]
def aHV(kvs:List (κ×V))(k:κ):List (κ×V):=kvs.filter λkv=>decide (kv.1≠k)
theorem Jj{p:κ×V}{r:List (κ×V)}{k:κ}(e:p.1=k):uH (p::r) k=some p.2:=by simp[uH,N9,e]
theorem Jk{p:κ×V}{r:List (κ×V)}{k:κ}(e:¬p.1=k):uH (p::r) k=uH r k:=by simp[uH,N9,e]
theorem Jl(k:κ):∀kvs:List (κ×V),(kvs.any λkv=>decide (kv.1=k))=(uH kvs k).isSome
 | []=>rfl
 | p::r=>by
  rw[S0]
  by_cases e:p.1=k
  ·simp only[Jj e,decide_eq_true e,Bool.true_or,b7]
  ·rw[Jk e,decide_eq_false e,Bool.false_or];exact Jl k r
theorem wC(kvs:List (κ×V))(k:κ)(v:V):(putK kvs k v).length≤kvs.length+1:=by
 unfold putK
 split
 ·rw[B8];omega
 ·rw[D4,E9,List.length_nil];omega
theorem vK.tD{o:Option V}{u:Option Value}(r:vK o u):o.isSome=u.isSome:=by
 cases o with
 | none=>cases u with
  | none=>rfl
  | some _=>exact(show False from r).elim
 | some _=>cases u with
  | none=>exact(show False from r).elim
  | some _=>rfl
theorem vK.getD{o:Option V}{u:Option Value}{d:V}{d':Value}(r:vK o u)(rd:RelV d d'):RelV (o.getD d) (u.getD d'):=by
 cases o with
 | none=>cases u with
  | none=>exact rd
  | some _=>exact(show False from r).elim
 | some _=>cases u with
  | none=>exact(show False from r).elim
  | some _=>exact r
theorem KV.val{kvs:List (κ×V)}{vs:List (κ×Value)}(r:KV kvs vs)(k:κ):vK (uH kvs k) (valueAt vs k):=by
 unfold KV at r
 induction r with
 | nil=>exact True.intro
 | @cons p q ps qs h t ih=>
  obtain⟨h1,h2⟩:=h
  by_cases e:p.1=k
  ·have e':q.1=k:=h1.symm.trans e
   have b:valueAt (q::qs) k=some q.2:=by simp[valueAt,N9,e']
   rw[Jj e,b];exact h2
  ·have e':¬q.1=k:=λz=>e (h1.trans z)
   have b:valueAt (q::qs) k=valueAt qs k:=by simp[valueAt,N9,e']
   rw[Jk e,b];exact ih
theorem KV.any{kvs:List (κ×V)}{vs:List (κ×Value)}(r:KV kvs vs)(k:κ):(kvs.any λkv=>decide (kv.1=k))=vs.any λkv=>decide (kv.1=k):=by
 unfold KV at r
 induction r with
 | nil=>rfl
 | cons h t ih=>rw[S0,S0,ih,h.1]
theorem KV.repl{kvs:List (κ×V)}{vs:List (κ×Value)}(r:KV kvs vs)(k:κ){y:V}{u:Value}(ry:RelV y u) :
  KV (kvs.map λkv=>if kv.1=k then(kv.1,y)else kv) (vs.map λkv=>if kv.1=k then(kv.1,u)else kv):=by
 unfold KV at r ⊢
 induction r with
 | nil=>exact .nil
 | @cons p q ps qs h t ih=>
  rw[D2,D2]
  refine .cons ?_ ih
  obtain⟨h1,h2⟩:=h
  by_cases e:p.1=k
  ·rw[if_pos e,if_pos (h1.symm.trans e)];exact⟨h1,ry⟩
  ·rw[if_neg e,if_neg (λz=>e (h1.trans z))];exact⟨h1,h2⟩
theorem KV.put{kvs:List (κ×V)}{vs:List (κ×Value)}(r:KV kvs vs)(k:κ){y:V}{u:Value}(ry:RelV y u):KV (putK kvs k y) (stored vs k u):=by
 unfold putK stored
 rw[r.any k]
 by_cases e:(vs.any λkv=>decide (kv.1=k))=true
 ·rw[if_pos e,if_pos e];exact r.repl k ry
 ·rw[if_neg e,if_neg e];exact Paired.snoc r ⟨rfl,ry⟩
theorem KV.keys{kvs:List (κ×V)}{vs:List (κ×Value)}(r:KV kvs vs):kvs.map (·.1)=vs.map (·.1):=by
 unfold KV at r
 induction r with
 | nil=>rfl
 | cons h t ih=>rw[D2,D2,ih,h.1]
theorem KV.length{kvs:List (κ×V)}{vs:List (κ×Value)}(r:KV kvs vs):kvs.length=vs.length:=Paired.length r
end
theorem Qj{P:Program}{w:World}{k:Key}{u:Value}(r:RelV (kV k) u):(fK P w).is k u=true:=by
 cases k with
 | inl i=>obtain⟨t,e⟩:=(show ∃t,u=Value.int i t from r);subst e;exact Wj P w i t
 | inr x=>obtain⟨t,e⟩:=(show ∃t,u=Value.str x t from r);subst e;exact Wk P w x t
theorem Qk{P:Program}{w:World}:∀{ks:List Key} {us:List Value},Vals (ks.map kV) us→ItemsAre (fK P w) ks us
 | [],_,r=>by rw[F8]at r;cases r;exact .nil
 | k::ks,_,r=>by
  rw[D2]at r
  cases r with
  | cons h t=>exact .cons (Qj h) (Qk t)
abbrev KT(H:Hp):List (List Key×V)→List (List Key×Addr×Value)→Prop:=Paired λp q=>p.1=q.1∧H q.2.1=some (.tup (p.1.map kV))∧RelV p.2 q.2.2
theorem KT.val{H:Hp}{kvs:List (List Key×V)}{xs:List (List Key×Addr×Value)}(r:KT H kvs xs)(k:List Key):vK (uH kvs k) ((atKey xs k).map (·.2)):=by
 induction r with
 | nil=>exact True.intro
 | @cons p q ps qs h t ih=>
  obtain⟨h1,_,h2⟩:=h
  by_cases e:p.1=k
  ·have e':q.1=k:=h1.symm.trans e
   have b:atKey (q::qs) k=some q.2:=by simp[atKey,N9,e']
   rw[Jj e,b];exact h2
  ·have e':¬q.1=k:=λz=>e (h1.trans z)
   have b:atKey (q::qs) k=atKey qs k:=by simp[atKey,N9,e']
   rw[Jk e,b];exact ih
theorem KT.repl{H:Hp}{kvs:List (List Key×V)}{xs:List (List Key×Addr×Value)}(r:KT H kvs xs)(k:List Key){y:V}{u:Value}(ry:RelV y u) :
  KT H (kvs.map λkv=>if kv.1=k then(kv.1,y)else kv) (xs.map (putAt k u)):=by
 induction r with
 | nil=>exact .nil
 | @cons p q ps qs h t ih=>
  rw[D2,D2]
  refine .cons ?_ ih
  obtain⟨h1,h2,h3⟩:=h
  unfold putAt
  by_cases e:p.1=k
  ·rw[if_pos e,if_pos (h1.symm.trans e)];exact⟨h1,h2,ry⟩
  ·rw[if_neg e,if_neg (λz=>e (h1.trans z))];exact⟨h1,h2,h3⟩
theorem KT.put{H:Hp}{kvs:List (List Key×V)}{xs:List (List Key×Addr×Value)}(r:KT H kvs xs)(k:List Key){b:Addr}{y:V}{u:Value}(hb:H b=some (.tup (k.map kV)))(ry:RelV y u) :
  KT H (putK kvs k y) (storedH xs k b u):=by
 have e:(kvs.any λkv=>decide (kv.1=k))=(atKey xs k).isSome:=by
  rw[Jl,(r.val k).tD,V4]
 unfold putK storedH
 rw[e]
 by_cases q:(atKey xs k).isSome=true
 ·rw[if_pos q,if_pos q];exact r.repl k ry
 ·rw[if_neg q,if_neg q];exact Paired.snoc r ⟨rfl,hb,ry⟩
theorem KT.keeps{H H':Hp}{kvs:List (List Key×V)}{xs:List (List Key×Addr×Value)}(r:KT H kvs xs)(ht:∀b ys,H b=some (.tup ys)→H' b=some (.tup ys)):KT H' kvs xs:=
 Paired.aCN r λ_ _ z=>⟨z.1,ht _ _ z.2.1,z.2.2⟩
section
variable{P:Program}{w:World}{H:Hp}{h:Heap}{a:Addr}
theorem aCb{u:HO}(ok:vL P w H h)(e:Rd H a u):iM P w H h a u:=e.ok ok
theorem Bj{kvs:List (Key×V)}(ok:vL P w H h)(e:Rd H a (.dK kvs)):kvs.length≤sizeLine∧(a==sysModules)=false∧∃vs,KV kvs vs∧h.DictOf (fK P w) a vs:=
 show iM P w H h a (.dK kvs)from aCb ok e
theorem aFB{kvs:List (Key×V)}(ok:vL P w H h)(e:H a=some (.dK kvs)):kvs.length≤sizeLine∧(a==sysModules)=false∧∃vs,KV kvs vs∧h.DictOf (fK P w) a vs:=Bj ok (.inl e)
theorem Ed{ks:List Key}(ok:vL P w H h)(e:H a=some (.tup (ks.map kV))):(tupleKind (fK P w)).is h ks a:=by
 obtain⟨_,its,r,o,h1,h2,n,h3⟩:=(show iM P w H h a (.tup (ks.map kV))from ok a _ e)
 exact⟨o,its.toArray,n,h1,h2,h3,by simpa using Qk r⟩
theorem Jm{kvs:List (List Key×V)}(ok:vL P w H h)(e:Rd H a (.dT kvs)):kvs.length≤sizeLine∧(a==sysModules)=false ∧
  ∃xs,KT H kvs xs∧h.DictOfH (tupleKind (fK P w)) a xs:=by
 obtain⟨z,y,xs,r,o,es,ep,h1,h2,h3,h4,h5⟩:=(show iM P w H h a (.dT kvs)from aCb ok e)
 refine⟨z,y,xs,r,o,es,ep,h1,h2,h3,h4,λx hx=>?_,h5⟩
 have all:∀{l:List (List Key×V)} {m:List (List Key×Addr×Value)},KT H l m→∀x∈m,(tupleKind (fK P w)).is h x.1 x.2.1:=by
  intro l m q
  induction q with
  | nil=>intro x hx;exact nomatch hx
  | @cons p q ps qs hq t ih=>
   intro x hx
   rcases C6.mp hx with e | hx
   ·subst e
    exact Ed ok (by rw[←hq.1];exact hq.2.1)
   ·exact ih x hx
 exact all r x hx
theorem aFC{kvs:List (List Key×V)}(ok:vL P w H h)(e:H a=some (.dT kvs)):kvs.length≤sizeLine∧(a==sysModules)=false ∧
  ∃xs,KT H kvs xs∧h.DictOfH (tupleKind (fK P w)) a xs:=Jm ok (.inl e)
end
def Jo(H:Hp)(a:Addr)(y:V)(r:Option V):Prop:=
 (∃kvs k,Rd H a (.dK kvs)∧y=kV k∧r=uH kvs k)∨∃kvs k b,Rd H a (.dT kvs)∧y=.ref b∧H b=some (.tup (k.map kV))∧r=uH kvs k
def aFD(H:Hp)(a:Addr)(y v:V)(H':Hp):Prop:=
 (∃kvs k,H a=some (.dK kvs)∧y=kV k∧kvs.length<sizeLine∧H'=upd H a (.dK (putK kvs k v))) ∨
 ∃kvs k b,H a=some (.dT kvs)∧y=.ref b∧H b=some (.tup (k.map kV))∧kvs.length<sizeLine∧H'=upd H a (.dT (putK kvs k v))
section
variable{X:Cx}{pins:List (Addr×Obj)}{σ:St}{H:Hp}{s:Shared}{a:Addr}{y v:V}{u r:Value}{o:Option V}{A:Around}{E:Value→Shared→Prop}
theorem Inv.big(I:Inv X pins σ H s):sysModules<s.heap.objs.size:=by
 have h:mainGlobals<s.heap.objs.size:=(I.mod.glob.keeps I.bk).lt
 exact Nat.lt_trans (by decide) h
theorem UT{Q:Value→Shared→Prop}(hu:A.units+1<cLine)(I:Inv X pins σ H s)(g:Jo H a y (some v))(ry:RelV y u)(h:∀w' s',Inv X pins σ H s'→RelV v w'→Q w' s') :
  wpAny (model X.prog X.w) A (getItem (.ref a) u) Q E s:=by
 rcases g with ⟨kvs,k,e,ey,l⟩ | ⟨kvs,k,b,e,ey,eb,l⟩
 ·subst ey
  obtain⟨z,hd,vs,rel,dd⟩:=Bj I.hok e
  obtain⟨w',hw,Oa⟩:=vK.some_of (v:=v) (o:=valueAt vs k) (by rw[l];exact rel.val k)
  exact wpAny_getItem_of (Qj ry) dd.mapOf hw (h w' _ (I.tok _) Oa)
 ·subst ey
  cases(show u=Value.ref b from ry)
  obtain⟨z,hd,xs,rel,dd⟩:=Jm I.hok e
  obtain⟨w',hw,Oa⟩:=vK.some_of (v:=v) (o:=(atKey xs k).map (·.2)) (by rw[l];exact rel.val k)
  obtain⟨p,hp,hp2⟩:=mF hw
  refine wpAny_getItem_heap (tupleKind_room_in1 hu) (Ed I.hok eb) dd hp ?_
  rw[hp2]
  exact h w' _ (I.tok _) Oa
theorem aHb{Q:Value→Shared→Prop}(hu:A.units+1<cLine)(I:Inv X pins σ H s)(g:Jo H a y o)(ry:RelV y u)(h:∀s',Inv X pins σ H s'→Q (.bool o.isSome) s') :
  wpAny (model X.prog X.w) A (compareOp .In u (.ref a)) Q E s:=by
 rcases g with ⟨kvs,k,e,ey,l⟩ | ⟨kvs,k,b,e,ey,eb,l⟩
 ·subst ey
  obtain⟨z,hd,vs,rel,dd⟩:=Bj I.hok e
  refine wpAny_in_of (Qj ry) hd dd.mapOf ?_
  rw[←(rel.val k).tD,←l]
  exact h _ (I.tok _)
 ·subst ey
  cases(show u=Value.ref b from ry)
  obtain⟨z,hd,xs,rel,dd⟩:=Jm I.hok e
  refine wpAny_in_heap (tupleKind_room_in1 hu) (Ed I.hok eb) hd dd ?_
  have q:=(rel.val k).tD
  rw[V4]at q
  rw[←q,←l]
  exact h _ (I.tok _)
theorem aAI{Q:Value→Shared→Prop}(hu:A.units+1<cLine)(I:Inv X pins σ H s)(g:Jo H a y o)(ry:RelV y u)(h:∀s',Inv X pins σ H s'→Q (.bool (!o.isSome)) s') :
  wpAny (model X.prog X.w) A (compareOp .NotIn u (.ref a)) Q E s:=by
 rcases g with ⟨kvs,k,e,ey,l⟩ | ⟨kvs,k,b,e,ey,eb,l⟩
 ·subst ey
  obtain⟨z,hd,vs,rel,dd⟩:=Bj I.hok e
  refine wpAny_notIn_of (Qj ry) hd dd.mapOf ?_
  rw[←(rel.val k).tD,←l]
  exact h _ (I.tok _)
 ·subst ey
  cases(show u=Value.ref b from ry)
  obtain⟨z,hd,xs,rel,dd⟩:=Jm I.hok e
  refine wpAny_notIn_heap (tupleKind_room_in1 hu) (Ed I.hok eb) hd dd ?_
  have q:=(rel.val k).tD
  rw[V4]at q
  rw[←q,←l]
  exact h _ (I.tok _)
theorem MJ{h':Heap}{t':Nat}{ob:HO}(I:Inv X pins σ H s)(mu:Mut (H a))(hs:Heap.SameBut a s.heap h')(he:∃q,h'.get? a=some q)(new:iM X.prog X.w (upd H a ob) h' a ob) :
  Inv X pins σ (upd H a ob) {s with heap:=h',toks:=t'}:=
 I.write (x:=a) (e:=a) mu (.inl rfl) (λb q hb z=>(hs.2 b hb).trans z) he new
theorem aDi{P:Program}{w:World}{H':Hp}{h':Heap}{kvs:List (Key×V)}{vs:List (Key×Value)}(z:kvs.length≤sizeLine)(hd:(a==sysModules)=false)(rel:KV kvs vs)(dd:h'.DictOf (fK P w) a vs) :
  iM P w H' h' a (.dK kvs):=⟨z,hd,vs,rel,dd⟩
theorem UW{H':Hp}{Q:Unit→Shared→Prop}(hu:A.units+1<cLine)(I:Inv X pins σ H s)(g:aFD H a y v H')(ry:RelV y u)(rv:RelV v r)(h:∀s',Inv X pins σ H' s'→Q () s') :
  wpAny (model X.prog X.w) A (setItem (.ref a) u r) Q E s:=by
 rcases g with ⟨kvs,k,e,ey,l,eH⟩ | ⟨kvs,k,b,e,ey,eb,l,eH⟩
 ·subst ey eH
  obtain⟨z,hd,vs,rel,dd⟩:=aFB I.hok e
  have hz:vs.length≤sizeLine:=by rw[←rel.length];exact z
  have hl:(putK kvs k v).length≤sizeLine:=by have:=wC kvs k v;omega
  refine wpAny_setItem_pairs (hsz:=hz) (Qj ry) dd λh' dd' hs=>h _ ?_
  have he:∃q,h'.get? a=some q:=let ⟨q,_,_,hq,_⟩:=dd';⟨q,hq⟩
  exact MJ I (by rw[e];exact True.intro) hs he (aDi hl hd (rel.put k rv) dd')
 ·subst ey eH
  cases(show u=Value.ref b from ry)
  obtain⟨z,hd,xs,rel,dd⟩:=aFC I.hok e
  have hz:xs.length≤sizeLine:=by rw[←Paired.length rel];exact z
  have hl:(putK kvs k v).length≤sizeLine:=by have:=wC kvs k v;omega
  refine wpAny_setItem_heap (hsz:=hz) (tupleKind_room_in1 hu) (Ed I.hok eb) dd λh' dd' hs=>h _ ?_
  obtain⟨q,es,ep,hq,h2,h3,h4,_,h5⟩:=dd'
  refine MJ I (by rw[e];exact True.intro) hs ⟨q,hq⟩ ⟨hl,hd,_,(rel.put k eb rv).keeps λc ys ec=>?_,q,es,ep,hq,h2,h3,h4,h5⟩
  rw[bL (aFe ec e (λz=>nomatch z))]
  exact ec
end
section
variable{X:Cx}{pins:List (Addr×Obj)}{σ:St}{H:Hp}{s:Shared}{a:Addr}{kvs:List (Key×V)}{k:Key}{u:Value}{A:Around}{E:Value→Shared→Prop}
end
def aDj(i:Expr):Prop:=∀ov iv,subscripted i false ov iv=operate [ov,iv] (getItem ov iv)
theorem aAJ{prog:Program}{w:World}{A:Around}{E:Value→Shared→Prop}{s:Shared}{env:Env}{value slice:Expr}{pos:Pos}{T id:String}{Q:Value→Shared→Prop}
  (hl:typeLookup (.type T) "__getitem__" = pure (some (.builtin id))) (hs:aDj slice)
  (h:wpAny (model prog w) A (eval value env) (λo s₁=>wpAny (model prog w) A (eval slice env) (λi s₂=>s₂.TypeIs o T∧wpAny (model prog w) A (getItem o i) Q E s₂) E s₁) E s) :
  wpAny (model prog w) A (eval (.Subscript value slice pos) env) Q E s:=by
 refine Subscript_ (wpAny_mono h (λo s₁ h₁=>wpAny_mono h₁ (λi s₂ h₂=>?_) λ_ _ x=>x) λ_ _ x=>x)
 obtain⟨hT,h₂⟩:=h₂
 unfold subscriptTail
 refine wpAny_bind ?_
 rw[getitemInPython_of_ne hT.not_modules]
 refine wpAny_bind (wpAny_specialOf hT hl ?_)
 have fin:wpAny (model prog w) A (subscripted slice false o i) (λr s₃=>wpAny (model prog w) A (letTemporaryGo value o r >>= λ_=>pure r) Q E s₃) E s₂:=by
  rw[hs o i]
  exact wpAny_operating (wpAny_mono h₂ (λr s₃ h₃=>wpAny_bind (wpAny_letTemporaryGo (wpAny_pure h₃))) λ_ _ x=>x)
 first
  | exact wpAny_pure (wpAny_bind fin)
  | exact wpAny_bind (wpAny_pure (wpAny_bind fin))
  | exact wpAny_bind fin
theorem Wv{X:Cx}{pins:List (Addr×Obj)}{σ:St}{H:Hp}{s:Shared}{a:Addr}{y:V}{o:Option V}(I:Inv X pins σ H s)(g:Jo H a y o):s.TypeIs (.ref a) "dict" := by
 rcases g with ⟨kvs,k,e,_,_⟩ | ⟨kvs,k,b,e,_,_,_⟩
 ·obtain⟨_,_,vs,_,dd⟩:=Bj I.hok e
  exact dd.typeIs
 ·obtain⟨_,_,xs,_,dd⟩:=Jm I.hok e
  exact dd.typeIs
def aCc(td ty:TE):TE:=λσ H Q=>td σ H λx H1=>ty σ H1 λy H2=>∃a v,x=.ref a∧Jo H2 a y (some v)∧Q v H2
def aDk(ty td:TE):TE:=λσ H Q=>ty σ H λy H1=>td σ H1 λx H2=>∃a o,x=.ref a∧Jo H2 a y o∧Q (.bl o.isSome) H2
def Tz(ty td:TE):TE:=λσ H Q=>ty σ H λy H1=>td σ H1 λx H2=>∃a o,x=.ref a∧Jo H2 a y o∧Q (.bl (!o.isSome)) H2
def Bk(td ty tv:TE):TS:=λD σ H=>tv σ H λv H1=>td σ H1 λx H2=>ty σ H2 λy H3=>∃a H4,x=.ref a∧aFD H3 a y v H4∧D.nx σ H4
section
variable{X:Cx}{o i e value:Expr}{pos pos' tpos:Pos}{td ty tv:TE}
theorem aAK(hu:X.A.units+1<cLine)(ho:PE X o td)(hi:PE X i ty)(hs:aDj i):PE X (.Subscript o i pos) (aCc td ty):=by
 intro pins s σ H Q I h
 refine aAJ PySem.F.slot_dict_getitem.lookup hs (gQ (ho pins s σ H _ I h) λu s1 ⟨x,H1,I1,rx,q1⟩=>gQ (hi pins s1 σ H1 _ I1 q1) λiv s2 ⟨y,H2,I2,ry,a,v,ex,g,q2⟩=>?_)
 subst ex
 obtain rfl:u=Value.ref a:=rx
 exact⟨Wv I2 g,UT hu I2 g ry λw' s3 I3 Oa=>⟨v,H2,I3,Oa,q2⟩⟩
theorem gr(hu:X.A.units+1<cLine)(hi:PE X i ty)(ho:PE X o td):PC X .In i o (aDk ty td):=by
 intro pins s σ H Q I h
 refine gQ (hi pins s σ H _ I h) λiv s1 ⟨y,H1,I1,ry,q1⟩=>gQ (ho pins s1 σ H1 _ I1 q1) λu s2 ⟨x,H2,I2,rx,a,ov,ex,g,q2⟩=>?_
 subst ex
 obtain rfl:u=Value.ref a:=rx
 exact aHb hu I2 g ry λs3 I3=>⟨.bl ov.isSome,H2,I3,rfl,q2⟩
theorem Ql(hu:X.A.units+1<cLine)(hi:PE X i ty)(ho:PE X o td):PC X .NotIn i o (Tz ty td):=by
 intro pins s σ H Q I h
 refine gQ (hi pins s σ H _ I h) λiv s1 ⟨y,H1,I1,ry,q1⟩=>gQ (ho pins s1 σ H1 _ I1 q1) λu s2 ⟨x,H2,I2,rx,a,ov,ex,g,q2⟩=>?_
 subst ex
 obtain rfl:u=Value.ref a:=rx
 exact aAI hu I2 g ry λs3 I3=>⟨.bl (!ov.isSome),H2,I3,rfl,q2⟩
theorem Bl(hu:X.A.units+1<cLine)(ho:PE X o td)(hi:PE X i ty)(hv:PE X value tv)(hs:swapsWith value (some (.Subscript o i pos')) pos.line X.env=pure false) :
  PS X (.Assign [.Subscript o i pos'] value pos) (Bk td ty tv):=by
 intro pins s σ H D I h
 refine wpAny_Assign_Subscript (gQ (hv pins s σ H _ I h) λr s1 ⟨v,H1,I1,rv,q1⟩=>gQ (ho pins s1 σ H1 _ I1 q1) λu s2 ⟨x,H2,I2,rx,q2⟩=>gQ (hi pins s2 σ H2 _ I2 q2) λiv s3 ⟨y,H3,I3,ry,a,H4,ex,g,q3⟩=>?_) hs
 subst ex
 obtain rfl:u=Value.ref a:=rx
 exact UW hu I3 g ry rv λs4 I4=>⟨σ,H4,I4,q3⟩
end
theorem gw{P:Program}{w:World}{H:Hp}(h:Heap)(hb:sysModules<h.objs.size):iM P w H (h.push {cls:=.type "dict", data:=.dict #[]}) h.objs.size (.dK []):=
 ⟨M3 _,beq_eq_false_iff_ne.mpr (Ne.symm (D8 hb)),[],.nil,Heap.DictOf.new h⟩
theorem ie{P:Program}{w:World}{H:Hp}(h:Heap)(hb:sysModules<h.objs.size):iM P w H (h.push {cls:=.type "dict", data:=.dict #[]}) h.objs.size (.dT []):=
 ⟨M3 _,beq_eq_false_iff_ne.mpr (Ne.symm (D8 hb)),[],.nil,_,#[],0,Heap.get?_push_size _ rfl,⟨rfl,rfl,rfl⟩,rfl,rfl,Y4⟩
def DP:TE:=λ_ H Q=>∀p,H p=none→Q (.ref p) (upd H p (.dK []))
def ig:TE:=λ_ H Q=>∀p,H p=none→Q (.ref p) (upd H p (.dT []))
section
variable{X:Cx}{pos:Pos}
theorem il:PE X (.Dict [] [] pos) DP:=λpins s σ H Q I h=>
 wpAny_Dict_empty ⟨.ref s.heap.objs.size,_,I.laid (a:=s.heap.objs.size) (o:=.dK []) (t':=s.toks) (λ_ _ q=>Heap.get?_push_of_some _ q) (C8 _) (gw s.heap I.big),rfl,h _ (I.hok.fresh (C8 _))⟩
theorem ir:PE X (.Dict [] [] pos) ig:=λpins s σ H Q I h=>
 wpAny_Dict_empty ⟨.ref s.heap.objs.size,_,I.laid (a:=s.heap.objs.size) (o:=.dT []) (t':=s.toks) (λ_ _ q=>Heap.get?_push_of_some _ q) (C8 _) (ie s.heap I.big),rfl,h _ (I.hok.fresh (C8 _))⟩
end
def DQ:List (TE×TE)→St→Hp→(List (V×V)→Hp→Prop)→Prop
 | [],_,H,Q=>Q [] H
 | (tk,tv)::r,σ,H,Q=>tk σ H λx H1=>tv σ H1 λy H2=>DQ r σ H2 λps H3=>Q ((x,y)::ps) H3
abbrev VV:List (V×V)→List (Value×Value)→Prop:=Paired λp q=>RelV p.1 q.1∧RelV p.2 q.2
def PPs(X:Cx)(pos:Pos)(keys:List (Option Expr))(values:List Expr)(trs:List (TE×TE)):Prop:=
 ∀(pins:List (Addr×Obj))(s:Shared)(σ:St)(H:Hp)(Q:List (V×V)→Hp→Prop),Inv X pins σ H s→DQ trs σ H Q →
  wpAny (model X.prog X.w) X.A (evalPairs (pairTrees keys values X.env pos)) (λvs s'=>∃ps H',Inv X pins σ H' s'∧VV ps vs∧Q ps H') X.xe s
structure M1(X:Cx)(o:Expr)(m:Str)(apos:Pos)(e:Expr)(cpos:Pos):Prop where
 base:attributeBase o m X.env (eval o X.env)=eval o X.env
 few:((backTo cpos (starEach [e] X.env)).all (λx=>!x.1)&&(backToKw cpos (keywordEach [] X.env)).all (λx=>x.1.isSome)
  && decide (([e]:List Expr).length+([]:List Keyword).length+(if([]:List Keyword).isEmpty then 0 else 1)<30))=true
 line:(apos.endLine==cpos.line)=true
 trees:backTo cpos (starEach [e] X.env)=[(false,eval e X.env)]
structure M2(X:Cx)(o:Expr)(m:Str)(apos:Pos)(e f:Expr)(cpos:Pos):Prop where
 base:attributeBase o m X.env (eval o X.env)=eval o X.env
 few:((backTo cpos (starEach [e,f] X.env)).all (λx=>!x.1)&&(backToKw cpos (keywordEach [] X.env)).all (λx=>x.1.isSome)
  && decide (([e,f]:List Expr).length+([]:List Keyword).length+(if([]:List Keyword).isEmpty then 0 else 1)<30))=true
 line:(apos.endLine==cpos.line)=true
 trees:backTo cpos (starEach [e,f] X.env)=[(false,eval e X.env),(false,eval f X.env)]
def IsD(H:Hp)(a:Addr):Prop:=(∃kvs,Rd H a (.dK kvs))∨∃kvs,Rd H a (.dT kvs)
theorem aDl{X:Cx}{pins:List (Addr×Obj)}{σ:St}{H:Hp}{s:Shared}{a:Addr}(I:Inv X pins σ H s)(d:IsD H a) :
  s.TypeIs (.ref a) "dict" ∧ (∀b,Value.ref a=.ref b→∃ob,s.heap.get? b=some ob∧ob.dict=none)∧(a==sysModules)=false:=by
 rcases d with ⟨kvs,e⟩ | ⟨kvs,e⟩
 ·obtain⟨_,hd,vs,_,dd⟩:=Bj I.hok e
  refine⟨dd.typeIs,λb q=>?_,hd⟩
  cases q
  obtain⟨ob,_,_,h1,h2,_⟩:=dd
  exact⟨ob,h1,h2.2.1⟩
 ·obtain⟨_,hd,xs,_,dd⟩:=Jm I.hok e
  refine⟨dd.typeIs,λb q=>?_,hd⟩
  cases q
  obtain⟨ob,_,_,h1,h2,_⟩:=dd
  exact⟨ob,h1,h2.2.1⟩
section
variable{X:Cx}{pins:List (Addr×Obj)}{σ:St}{H:Hp}{s:Shared}{a:Addr}{y d:V}{u r:Value}{o:Option V}{A:Around}{E:Value→Shared→Prop}
theorem aDm{Q:Value→Shared→Prop}(hu:A.units+1<cLine)(I:Inv X pins σ H s)(g:Jo H a y o)(ry:RelV y u)(h:∀w' s',Inv X pins σ H s'→RelV (o.getD .non) w'→Q w' s') :
  wpAny (model X.prog X.w) A (call (.builtin "dict.get") [.ref a,u]) Q E s:=by
 rcases g with ⟨kvs,k,e,ey,l⟩ | ⟨kvs,k,b,e,ey,eb,l⟩
 ·subst ey
  obtain⟨z,hd,vs,rel,dd⟩:=Bj I.hok e
  refine call_meetsIn S9 dd.typeIs Y1 (W9 _ _) (meets_dict_get (fK X.prog X.w) a (Qj ry) hd) ⟨_,dd.mapOf,h _ _ (I.tok _) ?_⟩
  rw[l]
  exact(rel.val k).getD rfl
 ·subst ey
  cases(show u=Value.ref b from ry)
  obtain⟨z,hd,xs,rel,dd⟩:=Jm I.hok e
  refine call_meetsIn S9 dd.typeIs Y1 (W9 _ _) (meetsH_dict_get (tupleKind (fK X.prog X.w)) a b hd) ⟨tupleKind_room_in1 hu,k,xs,Ed I.hok eb,dd,h _ _ (I.tok _) ?_⟩
  rw[l]
  exact(rel.val k).getD rfl
end
def iu(td ty:TE):TE:=λσ H Q=>td σ H λx H1=>∃a,x=.ref a∧IsD H1 a∧ty σ H1 λy H2=>∃o,Jo H2 a y o∧Q (o.getD .non) H2
section
variable{X:Cx}{o e f:Expr}{apos cpos:Pos}{td ty tx:TE}
theorem iw(hu:X.A.units+1<cLine)(ho:PE X o td)(he:PE X e ty)(m:M1 X o "get" apos e cpos):PE X (.Call (.Attribute o "get" apos) [e] [] cpos) (iu td ty):=by
 intro pins s σ H Q I h
 refine wpAny_Call_method m.base m.few m.line PySem.F.plainAttrs_dict S9 PySem.F.type_dict_get (gQ (ho pins s σ H _ I h) λu s1 ⟨x,H1,I1,rx,a,ex,d,q1⟩=>?_)
 subst ex
 obtain rfl:u=Value.ref a:=rx
 obtain⟨t1,t2,_⟩:=aDl I1 d
 refine⟨t1,t2,?_⟩
 rw[m.trees]
 refine Calls.callWith_builtin rfl (Calls.evalArgs_plain (Calls.spliced_cons (gQ (he pins s1 σ H1 _ I1 q1) λiv s2 ⟨y,H2,I2,ry,ov,g,q2⟩=>Calls.spliced_nil ?_)))
 exact aDm hu I2 g ry λw' s3 I3 Oa=>⟨_,H2,I3,Oa,q2⟩
end
section
variable{X:Cx}{pins:List (Addr×Obj)}{σ:St}{H:Hp}{s:Shared}{a:Addr}{kvs:List (Key×V)}{A:Around}{E:Value→Shared→Prop}
end
section
variable{X:Cx}{pins:List (Addr×Obj)}{σ:St}{H:Hp}{s:Shared}{a:Addr}{y:V}{u:Value}{A:Around}{E:Value→Shared→Prop}
end
end L2
namespace Att
open PySem PySem.W PySem.Calls PyProof.Rows
theorem Gy{P:Params}{h:Heap}:∀(ns:List Int)(vs:List Value),WellAll P h vs (ns.map WData.int)→IntsAre vs ns:=by
 intro ns
 induction ns with
 | nil=>
  intro vs w
  rw[F8]at w
  cases w
  exact .nil
 | cons n ns ih=>
  intro vs w
  rw[D2]at w
  cases w with
  | cons a b=>
   cases a
   exact .cons _ _ (ih _ b)
theorem VB{l:OpenLaw}{n:Nat}(hn:l.most=some n){P:Params}{h:Heap}{args:List WData}{vals:List Value}
  (hpre:l.row.toRowW.claim.pre args=true) (hwl:WellAll P h vals args) :
  ∃a vs ns,vals=[Value.ref a]∧args=[WData.list (ns.map WData.int)]∧h.get? a=some {cls:=.type "list", data:=.seq vs.toArray}∧IntsAre vs ns∧ns.length≤n:=by
 have hsh:WShape.hasAll [] args [.list .int]=true:=(pre_splitW hpre).1
 have hc:l.pre.holds [] {args:=args}=true:=(pre_splitW hpre).2
 obtain⟨d,r,rfl,h1,h2⟩:=hasAllW_cons hsh
 obtain rfl:=hasAllW_nil h2
 obtain⟨xs,rfl,h3⟩:=hasW_list h1
 obtain⟨ns,rfl⟩:=items_int h3
 have hlen:ns.length≤n:=by
  unfold OpenLaw.pre at hc
  have h4:(WTm.not (.lt (.lit (.int (n:Int))) (.len (.arg 0)))).holds [] {args:=[.list (ns.map .int)]}=true:=by
   have h4:=(holds_andW hc).1
   rw[hn]at h4
   exact h4
  have h5:=condW_of h4 (w_not (w_lt w_lit (w_len_list (w_arg rfl))))
  rw[B8]at h5
  refine Nat.le_of_not_lt λq=>?_
  have q':(n:Int)<((ns.length:Nat):Int):=by omega
  first
   | (rw[decide_eq_true q']at h5;exact absurd h5 (by decide))
   | (simp at h5;omega)
 cases hwl with
 | cons w1 w2=>
  cases w2
  cases w1 with
  | list ho hall=>exact⟨_,_,ns,rfl,rfl,ho,Gy ns _ hall,hlen⟩
theorem VD(l:OpenLaw)(args:List WData):l.row.toRowW.claim.post args (.bool true) args=true:=
 postW_of (r:=l.row.toRowW) (X:=(true==true))
  (show WShape.has [] (.bool true) .bool=true by first | rfl | decide | simp[WShape.has,WShape.arms,WShape.armsAll])
  (show (WTm.eq .res (.lit (.bool true))).value [] {args:=args,res:=some (.bool true),after:=args}=some (.bool (true==true))from w_eq_bool (w_res rfl) w_lit) rfl
section
variable{prog:Program}{w:World}{A:Around}{E:Value→Shared→Prop}{s:Shared}{K:Frag}
end
end Att
namespace L2
open PySem PySem.Spec PyProof.Rows
theorem tE:∀{vs:List Value} {ns:List Int},IntsAre vs ns→Vals (ns.map V.int) vs
 | _,_,.nil=>.nil
 | _,_,.cons n t h=>.cons ⟨t,rfl⟩ (tE h)
def Only(H:Hp):Prop:=∀b,H b=none∨∃o xs,H b=some (.Bf o (.lst xs))
theorem iy{P:Program}{w:World}{K:aD}{mg mb:Str→Option Value}{CX:BR}{k:Nat}{fa a:Addr}{fd:FuncData}{x:Str}{sp:Sp}{s₁:Shared}{vs:List Value}{ns:List Int}
  (KX:K.In s₁.heap) (hns:s₁.heap.Ns mainGlobals mg) (hb:s₁.heap.Ns builtinsNs mb) (hbb:∀x:Str,x ≠ "__name__" → mb x=bootBuiltins x) (hlim:s₁.heap.NoLimit) (hg:s₁.gens=#[])
  (ha:s₁.heap.get? a=some {cls:=.type "list", data:=.seq vs.toArray}) (hi:IntsAre vs ns) (hl:ns.length≤sizeLine) (hr:gD k callerA)
  (F:∀base:Heap,K.In base→base.Ns mainGlobals mg→sZ P w K mg base CX k fa fd [x] sp) (hbind:∀(s:Shared)(u:Value),BindsTo s fd ⟨[u],[]⟩ [(x,u)])
  (hsp:∀H:Hp,Only H→pY K H a (ns.map V.int)→sp [.ref a] H (λv _=>v=.bl true) λ_ _ _=>False)
  (hCX:∀H e s',CX [] H s₁ (λ_ _ _=>False) e s'→False) :
  codeAny (model P w) callerA (.call (.ref fa) ⟨[.ref a],[]⟩) (λr s'=>r=.ok (.ret (.bool true))∧OldK s₁.heap s'.heap∧s'.os=s₁.os∧AllBare s'.gens) s₁:=by
 have rv:=tE hi
 have lenV:=hi.length
 have core:∀H:Hp,Only H→pY K H a (ns.map V.int)→vL P w H s₁.heap→(∀b,H b≠none→b=a)→(H a≠none→K.lookup a=none) →
   codeAny (model P w) callerA (.call (.ref fa) ⟨[.ref a],[]⟩) (λr s'=>r=.ok (.ret (.bool true))∧OldK s₁.heap s'.heap∧s'.os=s₁.os∧AllBare s'.gens) s₁:=by
  intro H hO hS hok hA hK
  have MK:∀{b:Addr} {o:Obj},s₁.heap.get? b=some o→H b=none→(Te s₁.heap H).get? b=some o:=λe n=>ZW e n
  have noA:∀{b:Addr} {o:Obj} {es:Array DictEntry} {ep:Nat},s₁.heap.get? b=some o→o.data=.dict es ep→H b=none:=λ{b o es ep} e d=>by
   cases q:H b with
   | none=>rfl
   | some u=>
    have e':b=a:=hA b (by rw[q];simp)
    subst e'
    rw[ha]at e;cases e
    have d':Data.seq vs.toArray _=Data.dict es ep:=d
    cases d'
  have nsK:∀{b:Addr} {m:Str→Option Value},s₁.heap.Ns b m→(Te s₁.heap H).Ns b m:=λ{b m} ⟨o,es,ep,e,d,r⟩=>⟨o,es,ep,MK e (noA e d),d,r⟩
  have hKb:K.In (Te s₁.heap H):=λb o e=>MK (KX b o e) (by
   cases q:H b with
   | none=>rfl
   | some u=>
    have e':b=a:=hA b (by rw[q];simp)
    subst e'
    rw[hK (by rw[q];simp)]at e;cases e)
  have hM:Mod K mg (Te s₁.heap H):=⟨hKb,nsK hns,⟨mb,nsK hb,hbb⟩,let ⟨mc,h1,h2⟩:=hlim;⟨mc,nsK h1,h2⟩⟩
  have e0:DG P w K mg (Te s₁.heap H) callerA [] s₁ H:=⟨rfl,hM,λb o e=>aAl e,b6 (SM _ _),trivial,λb hb=>absurd (show b∈([]:List Addr)from hb) (by simp),hok,.of_eq hg⟩
  refine codeAny_mono ((F _ hKb (nsK hns)).run callerA [] s₁ H ⟨[.ref a],[]⟩ [.ref a] [.ref a] _ _ hr e0 (hbind s₁ (.ref a)) (.cons rfl .nil) (hsp H hO hS)) λr s' h=>?_
  cases r with
  | error e=>exact(hCX H e s' h).elim
  | ok fl=>
   cases fl with
   | next=>exact False.elim h
   | brk=>exact False.elim h
   | cont=>exact False.elim h
   | ret u=>
    obtain⟨v,H',os,bare,un,hok',r',q⟩:=h
    have q':v=.bl true:=q
    subst q'
    obtain rfl:u=Value.bool true:=r'
    refine⟨rfl,OldK.of_keep λb o e=>?_,os,bare⟩
    cases q:H b with
    | none=>exact un.keep b o e q (by intro z;exact absurd (show b∈([]:List Addr)from z) (by simp)) (by simp)
    | some u=>
     rcases hO b with z | ⟨ob,xs,z⟩
     ·rw[q]at z;cases z
     ·have z2:=un.Gx b ob _ z
      obtain⟨e1,_⟩:=hok b _ z
      obtain⟨e2,_⟩:=hok' b _ z2
      rw[e]at e1;cases e1
      exact e2
 cases hk:K.lookup a with
 | some o=>
  have e:=KX a o hk
  rw[ha]at e
  cases e
  refine core (λ_=>none) (λ_=>.inl rfl) (.inr ⟨_,vs.toArray,_,hk,rfl,rfl,rfl,by rw[C9,lenV];exact hl,by simpa using rv⟩) (λb u z=>by have z':(none:Option HO)=some u:=z;cases z') (λb z=>absurd rfl z) λz=>absurd rfl z
 | none=>
  refine core (λb=>if b=a then some (.Bf {cls:=.type "list", data:=.seq vs.toArray} (.lst (ns.map V.int)))else none) (λb=>?_) (.inl (.inr ⟨{cls:=.type "list", data:=.seq vs.toArray},if_pos rfl⟩)) (λb u z=>?_) (λb z=>?_) λ_=>hk
  ·by_cases hb:b=a
   ·exact .inr ⟨_,_,if_pos hb⟩
   ·exact .inl (if_neg hb)
  ·by_cases hb:b=a
   ·have z':=(if_pos hb).symm.trans z
    cases z'
    subst hb
    exact⟨ha,by rw[B8];exact hl,vs,_,rv,ha⟩
   ·have z':=(if_neg hb).symm.trans z
    cases z'
  ·by_cases hb:b=a
   ·exact hb
   ·exact absurd (if_neg hb) z
end L2
namespace L2
open PySem PySem.Spec PyProof.Rows
end L2
namespace L2
open PySem PySem.Spec PyProof.Rows
def inClass(s:Stmt)(j:Nat):Stmt:=match s with
 | .ClassDef _ _ _ body _ _ _ _ _ _ _=>body.getD j (.Pass ⟨0,0,0,0⟩)
 | _=>.Pass ⟨0,0,0,0⟩
def dJ(s:Stmt):Arguments:=match s with
 | .FunctionDef _ a _ _ _ _ _ _ _ _=>a
 | _=>{posonlyargs:=[],args:=[],vararg:=none,kwonlyargs:=[],kw_defaults:=[],kwarg:=none,defaults:=[]}
def bR(s:Stmt):List Stmt:=match s with
 | .FunctionDef _ _ b _ _ _ _ _ _ _=>b
 | _=>[]
def aJ(s:Stmt):Scope:=match s with
 | .FunctionDef _ _ _ _ _ _ sc _ _ _=>sc
 | _=>{kind:=.function,names:=[],isGenerator:=false,isCoroutine:=false}
abbrev Wg:BR:=λ_ _ _ _ _ _=>False
abbrev E0:XK:=λ_ _ _=>False
theorem Qm{X:Cx}:Passes Wg X E0:=λ_ _ _ _ _ _ _ h=>h.elim
structure Fun(K:aD)(x qual:Str)(st:Stmt)(f:Addr)(fd:FuncData):Prop where
 ex:∃(oc:Value)(od:Option Addr)(kV doc pm:Value)(an:Option Addr)(cdv ct:Value)(osl:Array (Option Value)),
  fd=F3 x qual (dJ st) (bR st) (aJ st) .none kV doc pm an cdv ct∧K.lookup f=some ⟨oc,od,.func fd,osl⟩∧J9 K cdv qual=true
 kp:J6 K (.ref f)=true
section
variable{P:Program}{w:World}{K:aD}{mg:Str→Option Value}{base:Heap}
theorem Fun.ok{x qual:Str}{st:Stmt}{f:Addr}{fd:FuncData}{N ps:List Str}{k:Nat}{sp:Sp}(F:Fun K x qual st f fd)(S:aZ N ps (aJ st))(len:∀vs H Q E,sp vs H Q E→vs.length=ps.length)
  (hbody:∀(cdv:Value)(A:Around)(outer:List Env)(s:Shared)(H:Hp)(vs:List V)(Q:VK)(E:XK),gD k (A.deeper (envOfC qual (aJ st) s.heap.objs.size f cdv))→sp vs H Q E →
   ∃t,Wf (mD Wg P w K mg base N qual (aJ st) f cdv A outer s H E).KH (bR st) t∧t {nx:=λ_ H'=>Q .non H',rt:=Q} (start N vs) H):sZ P w K mg base Wg (k+1) f fd ps sp:=by
 obtain⟨oc,od,kV,doc,pm,an,cdv,ct,osl,rfl,lk,hcd⟩:=F.ex
 refine LC lk hcd S len λA outer s H vs Q E hr hsp=>?_
 obtain⟨t,h,q⟩:=hbody cdv A outer s H vs Q E hr hsp
 exact⟨t,h.KH,q⟩
theorem Fun.binds{x qual:Str}{st:Stmt}{f:Addr}{fd:FuncData}{ps:List Str}(F:Fun K x qual st f fd)
  (h:∀(kV doc pm:Value)(an:Option Addr)(cdv ct:Value)(us:List Value),us.length=ps.length→bindArgs (F3 x qual (dJ st) (bR st) (aJ st) .none kV doc pm an cdv ct) ⟨us,[]⟩=pure (ps.zip us)):Binds K fd ps []:=by
 obtain⟨oc,od,kV,doc,pm,an,cdv,ct,osl,rfl,lk,hcd⟩:=F.ex
 exact .all (h kV doc pm an cdv ct)
theorem aDn{x qual:Str}{st:Stmt}{f:Addr}{oc:Value}{od an:Option Addr}{osl:Array (Option Value)}{kV doc pm cdv ct:Value}(l:K.lookup f=some ⟨oc,od,.func (F3 x qual (dJ st) (bR st) (aJ st) .none kV doc pm an cdv ct),osl⟩)
  (c:J9 K cdv qual=true) (k:J6 K (.ref f)=true):Fun K x qual st f (F3 x qual (dJ st) (bR st) (aJ st) .none kV doc pm an cdv ct):=⟨⟨oc,od,kV,doc,pm,an,cdv,ct,osl,rfl,l,c⟩,k⟩
end
theorem cL{A:Around}{k:Nat}(hr:gD k A):A.units+1<cLine:=U7 (Nat.add_le_add_left (by decide:1≤64) _) hr.units
theorem nH{n:Nat}(h:n≤1000):n<sizeLine:=U7 h (by decide)
section
variable{X:Cx}
theorem pv(i:Nat){x:Str}{pos:Pos}(hN:X.N[i]?=some x:=by rfl)(hv:Vis X.env.scope x:=by first | exact E5 rfl | exact E4 (E5 rfl) | exact E4 (E4 rfl))(hd:(x==("__debug__" : Str))=false:=by decide)
  (hcd:(x==("__classdict__" : Str))=false:=by decide):PE X (.Name x pos) (pN i):=aCO hN hv hd hcd
end
def aU(H H':Hp):Prop:=∀b o,H b=some o→H' b=some o
theorem aU.refl(H:Hp):aU H H:=λ_ _ h=>h
theorem aU.trans{H H1 H2:Hp}(a:aU H H1)(b:aU H1 H2):aU H H2:=λc o h=>b c o (a c o h)
theorem aU.free{H H':Hp}(e:aU H H'){l:Addr}(h:H' l=l4):H l=l4:=by
 cases q:H l with
 | none=>rfl
 | some o=>
  rw[e l o q]at h
  cases h
theorem aU.seq{K:aD}{H H':Hp}{a:Addr}{xs:List V}(e:aU H H')(h:pY K H a xs):pY K H' a xs:=by
 rcases h with (h | ⟨o,h⟩) | h
 ·exact .inl (.inl (e _ _ h))
 ·exact .inl (.inr ⟨o,e _ _ h⟩)
 ·exact .inr h
section
variable{κ:Type} [DecidableEq κ]
end
end L2


namespace L2
open PySem PySem.Spec PyProof.Rows
theorem zW(env:Env):∀(names:List (Str×NameKind))(acc:List (Str×Addr)),(∀x∈names,x.2=.free→∃c,env.cells.lookup x.1=some c) →
    ∃cl:List (Str×Addr),(forIn names acc (λ(x:Str×NameKind) (r:List (Str×Addr))=>(match x with
      | (name,kind)=>if(kind==.free)=true then do let c ←cellOf env name;pure (ForInStep.yield ((name,c)::r))else pure (ForInStep.yield r):Sem (ForInStep (List (Str×Addr))))))=pure cl ∧
      (∀x c,cl.lookup x=some c→(∃k,(x,k)∈names∧k=.free∧env.cells.lookup x=some c)∨acc.lookup x=some c) ∧
      (∀x,(x,NameKind.free)∈names→∃c,cl.lookup x=some c)∧(∀x c,acc.lookup x=some c→∃c',cl.lookup x=some c')
  | [],acc,_=>⟨acc,rfl,λx c h=>.inr h,λx h=>by simp at h,λx c h=>⟨c,h⟩⟩
  | (n,k)::r,acc,h=>by
    rw[List.forIn_cons]
    by_cases hk:k=.free
    · subst hk
      obtain⟨c,hc⟩:=h (n,.free) D1 rfl
      obtain⟨cl,e,h1,h2,h3⟩:=zW env r ((n,c)::acc) λx hx=>h x (C7 _ hx)
      refine⟨cl,?_,λx d hd=>?_,λx hx=>?_,λx d hd=>?_⟩
      · have e0:cellOf env n=pure c:=by unfold cellOf;rw[hc]
        simp only[beq_self_eq_true,if_true,e0,pure_bind]
        exact e
      · rcases h1 x d hd with ⟨k',m,q⟩ | q
        · exact .inl ⟨k',C7 _ m,q⟩
        · rw[S5]at q
          by_cases e:x==n
          · rw[e]at q
            have e':=eq_of_beq e
            subst e'
            cases q
            exact .inl ⟨.free,D1,rfl,hc⟩
          · have e':(x==n)=false:=by simpa using e
            rw[e']at q
            exact .inr q
      · rcases C6.mp hx with q | q
        · cases q
          exact h3 n c (by simp)
        · exact h2 x q
      · by_cases e:x==n
        · exact h3 x c (by rw[S5,e])
        · have e':(x==n)=false:=by simpa using e
          exact h3 x d (by rw[S5,e'];exact hd)
    · obtain⟨cl,e,h1,h2,h3⟩:=zW env r acc λx hx=>h x (C7 _ hx)
      have hb:(k==NameKind.free)=false:=by simpa using hk
      refine⟨cl,?_,λx d hd=>?_,λx hx=>?_,h3⟩
      · simp only[hb,U8,if_false,pure_bind]
        exact e
      · rcases h1 x d hd with ⟨k',m,q⟩ | q
        · exact .inl ⟨k',C7 _ m,q⟩
        · exact .inr q
      · rcases C6.mp hx with q | q
        · cases q
          exact absurd rfl hk
        · exact h2 x q
theorem zJ(scope:Scope)(env:Env)(h:∀x∈scope.names,x.2=.free→∃c,env.cells.lookup x.1=some c) :
    ∃cl,closureFor scope env=pure cl∧(∀x c,cl.lookup x=some c→(x,NameKind.free)∈scope.names∧env.cells.lookup x=some c)∧∀x,(x,NameKind.free)∈scope.names→∃c,cl.lookup x=some c:=by
  obtain⟨cl,e,h1,h2,_⟩:=zW env scope.names [] h
  refine⟨cl,?_,λx c hx=>?_,h2⟩
  · unfold closureFor
    exact(congrArg (λt=>t >>= pure) e).trans (pure_bind _ _)
  · rcases h1 x c hx with ⟨k,m,rfl,q⟩ | q
    · exact⟨m,q⟩
    · simp at q
theorem Ua{scope:Scope}{env:Env}(hcell:∀y∈scope.names,y.2≠.cell){x:Str}(h:(relabel scope env).names.lookup x=some .cell∨(relabel scope env).names.lookup x=some .free):(x,NameKind.free)∈scope.names:=by
 have m:(x,NameKind.cell)∈(relabel scope env).names∨(x,NameKind.free)∈(relabel scope env).names:=by
  rcases h with h | h
  ·exact .inl (M9 h)
  ·exact .inr (M9 h)
 unfold relabel at m
 rcases m with m | m
 all_goals
  obtain⟨⟨n,k⟩,hm,e⟩:=G8.mp m
  dsimp only at e
  split at e
  ·rename_i hc
   simp only[L6,beq_iff_eq]at hc
   cases e
   first
    | (rw[hc.1.1]at hm;exact hm)
    | skip
  ·cases e
   first
    | exact hm
    | exact absurd rfl (hcell _ hm)
def iW(X:Cx)(scope:Scope)(N:List Str)(cl:List (Str×Addr))(fp:List Addr)(s:Shared)(H:Hp)(C:Addr):Cx where
 prog:=X.prog
 w:=X.w
 K:=X.K
 mg:=X.mg
 base:=X.base
 A:=X.A
 N:=N
 s₀:=s
 H₀:=H
 env:=compEnvC scope cl C X.env
 outer:=X.stack
 stack:=X.stack
 ex:=fp
 calm:=X.calm
 fn:=λ_=>false
 pn:=[]
 xe:=λ_ _=>False
def DR(σ:St)(fr:List Nat):St:=fr.map λi=>σ.getD i none
def blk(k:Nat)(σ:St)(fr:List Nat):St:=E7 k none++DR σ fr
def Kp(k:Nat)(σ:St)(fr:List Nat)(σ2:St):Prop:=σ2.length=(blk k σ fr).length∧∀(j:Nat) v,(blk k σ fr)[j]?=some (some v)→σ2[j]?=some (some v)
def PTs(X:Cx)(ifs:List Expr)(t:TT):Prop:=
 ∀(pins:List (Addr×Obj))(s:Shared)(σ:St)(H:Hp)(Q:Bool→Hp→Prop),Inv X pins σ H s→t σ H Q →
  wpAny (model X.prog X.w) X.A (forIn ifs true λc r=>if r=true then do let ok ←isTrue c X.env (eval c X.env);pure (ForInStep.yield ok)else pure (ForInStep.yield r)) (TP X pins σ Q) X.xe s
def aFE:TT:=λ_ H Q=>Q true H
theorem aAL{X:Cx}:PTs X [] aFE:=λ_ _ _ H _ I h=>wpAny_tests_nil ⟨H,I,h⟩
theorem aAM{X:Cx}{c:Expr}{t:TT}(h:PT X c t):PTs X [c] t:=λpins s σ H Q I q=>wpAny_tests_one (h pins s σ H Q I q)
theorem yU{prog:Program}{w:World}{A:Around}{R:Result→Shared→Prop}{s:Shared}{elt target iter:Expr}{ifs:List Expr}{scope:Scope}{pos:Pos}{it acc:Value}{env:Env}(I:Nat→Shared→Prop)
  (turn:∀n s,I n s→wpAny (model prog w) A (pyNext it) (λr s₁=>match r with
   | none=>R (.ok .next) s₁
   | some v=>wpAny (model prog w) A (letOwnedTupleGo target it v) (λ_ s₀=>wpAny (model prog w) A (assign target env v) (λ_ s₂=>
     wpAny (model prog w) A (forIn ifs true λc r=>if r=true then do let ok ←isTrue c env (eval c env);pure (ForInStep.yield ok)else pure (ForInStep.yield r)) (λok s₃=>
      if ok=true then wpAny (model prog w) A (eval elt env) (λx s₄=>
       wpAny (model prog w) A (call (.builtin "list.append") [acc,x]) (λ_ s₅=>∃m,m<n∧I m s₅) (λ_ _=>False) s₄) (λ_ _=>False) s₃
      else ∃m,m<n∧I m s₃) (λ_ _=>False) s₂) (λ_ _=>False) s₀) (λ_ _=>False) s₁) (λ_ _=>False) s)
  (n:Nat) (h:I n s) :
  codeAny (model prog w) A (.compLoop (.ListComp elt [⟨target,iter,ifs,0⟩] scope pos) 0 it acc env) R s:=by
 refine codeAny_loop rfl I (λn s hI=>?_) n h
 show wpAny _ A ((compTurn (.ListComp elt [⟨target,iter,ifs,0⟩] scope pos) 0 it acc env).onRaise (λx=>do noteFrame x env;theTreesLotGoes x)) _ _ s
 refine wpAny_noted ?_
 rw[compTurn_list]
 refine wpAny_mono (E:=λ_ _=>False) ?_ (λ_ _ q=>q) λ_ _ x=>x.elim
 refine wpAny_bind (wpAny_standAt (wpAny_bind (wpAny_mono (turn n s hI) (λr s₁ h₁=>?_) λ_ _ h'=>h')))
 cases r with
 | none=>exact wpAny_pure h₁
 | some v=>
  refine wpAny_bind (wpAny_mono h₁ (λ_ s₀ h₀=>?_) λ_ _ h'=>h')
  refine wpAny_bind (wpAny_mono h₀ (λ_ s₂ h₂=>wpAny_bind (wpAny_mono h₂ (λok s₃ h₃=>?_) λ_ _ h'=>h')) λ_ _ h'=>h')
  cases ok with
  | false=>exact wpAny_pure ⟨rfl,h₃⟩
  | true=>
   exact wpAny_bind (wpAny_bind (wpAny_mono h₃ (λx s₄ h₄=>wpAny_bind (wpAny_mono h₄ (λ_ s₅ h₅=>wpAny_pure (wpAny_pure ⟨rfl,h₅⟩)) λ_ _ h'=>h')) λ_ _ h'=>h'))
def aCd(J:It)(k:Nat)(fr:List Nat)(g:TG)(tc:TT)(te:TE)(σ:St)(H1:Hp)(Q:VK)(D:Addr):Prop:=∃W:Nat→Nat→List V→Hp→Prop,(∃m,W 0 m [] (upd H1 D (.lst []))) ∧
 ∀i m ys H,W i m ys H→H D=some (.lst ys)∧((J.stop i H∧Q (.ref D) H)∨(J.go i H∧∀x H',J.yld i H x H'→g x (blk k σ fr) H' λσ2 H2=>Kp k σ fr σ2∧tc σ2 H2 λok H3=>if ok=true then
  te σ2 H3 λy H4=>H4 D=some (.lst ys)∧ys.length<sizeLine∧∃m',m'<m∧W (i+1) m' (ys++[y]) (upd H4 D (.lst (ys++[y])))else ∃m',m'<m∧W (i+1) m' ys H3))
def Ww(wi:TI)(k:Nat)(fr:List Nat)(g:TG)(tc:TT)(te:TE):TE:=λσ H Q=>wi σ H λJ H1=>∀D,H1 D=none→aCd J k fr g tc te σ H1 Q D
def tG(scope Wh:Scope):Scope:=
 {scope with names:=scope.names.map λ(n,k)=>if(k==.free&&Wh.kind==.function&&Wh.names.lookup n==some .cell)then(n,.cell)else(n,k)}
structure iQ(Wh scope:Scope)(oN N:List Str)(k:Nat)(fr:List Nat):Prop where
 kind:scope.kind=.function
 cell:∀y∈scope.names,y.2≠.cell
 loc:∀y∈scope.names,y.2=.local→scope.names.lookup y.1=some .local
 free:∀y∈scope.names,y.2=.free→Wh.names.lookup y.1=some .cell∨Wh.names.lookup y.1=some .free
 len:N.length=k+fr.length
 slots:∀j∈D5 fr.length,oN[fr.getD j 0]?=N[k+j]?
 from_:∀x∈N.drop k,(x,NameKind.free)∈scope.names∧((tG scope Wh).names.lookup x=some .cell∨(tG scope Wh).names.lookup x=some .free)
def MN(Wh scope:Scope)(oN N:List Str)(k:Nat)(fr:List Nat):Bool:=
 decide (scope.kind=.function)&&decide (∀y∈scope.names,y.2≠.cell)&&decide (∀y∈scope.names,y.2=.local→scope.names.lookup y.1=some .local) &&
 decide (∀y∈scope.names,y.2=.free→Wh.names.lookup y.1=some .cell∨Wh.names.lookup y.1=some .free)&&decide (N.length=k+fr.length) &&
 decide (∀j∈D5 fr.length,oN[fr.getD j 0]?=N[k+j]?) &&
 decide (∀x∈N.drop k,(x,NameKind.free)∈scope.names∧((tG scope Wh).names.lookup x=some .cell∨(tG scope Wh).names.lookup x=some .free))
theorem iQ.of{Wh scope:Scope}{oN N:List Str}{k:Nat}{fr:List Nat}(h:MN Wh scope oN N k fr=true):iQ Wh scope oN N k fr:=by
 unfold MN at h
 simp only[L6,decide_eq_true_eq]at h
 obtain⟨⟨⟨⟨⟨⟨h1,h2⟩,h3⟩,h4⟩,h5⟩,h6⟩,h7⟩:=h
 exact⟨h1,h2,h3,h4,h5,h6,h7⟩
section
variable{X:Cx}
theorem aAN{k:Nat}{σ:St}{fr:List Nat}{i:Nat}{v:V}(h:(blk k σ fr)[i]?=some (some v)):∃j o,i=k+j∧fr[j]?=some o∧σ[o]?=some (some v):=by
 unfold blk at h
 by_cases hi:i<k
 ·rw[G3 (by simpa using hi),P7]at h
  rw[if_pos hi]at h
  cases h
 ·rw[N2 (by simpa using hi),S8]at h
  unfold DR at h
  rw[C5]at h
  cases e:fr[i-k]? with
  | none=>rw[e]at h;cases h
  | some o=>
   rw[e]at h
   refine⟨i-k,o,by omega,e,?_⟩
   have h:some (σ.getD o none)=some (some v):=h
   have h:=F0 h
   rw[C4]at h
   cases e2:σ[o]? with
   | none=>rw[e2]at h;cases h
   | some z=>rw[e2]at h;exact congrArg some h
theorem DW{pins:List (Addr×Obj)}{σ:St}{H:Hp}{s:Shared}{scope:Scope}{N:List Str}{k:Nat}{fr:List Nat}{cl:List (Str×Addr)}{fp:List Addr}{h₁:Heap}{tk:Nat}{m:Str→Option Value}
    (I:Inv X pins σ H s) (B:iQ X.env.scope scope X.N N k fr) (hf:∀b∈fp,Ti X pins H b) (hfo:∀b∈fp,b<s.heap.objs.size)
    (hcl:∀x c,cl.lookup x=some c→(x,NameKind.free)∈scope.names∧X.env.cells.lookup x=some c) (aAO:∀x,(x,NameKind.free)∈scope.names→∃c,cl.lookup x=some c)
    (hn:h₁.Ns (s.heap.objs.size+1) m) (hs:Heap.SameBut (s.heap.objs.size+1) ((s.heap.push {cls:=.type "list", data:=.seq ([]:List Value).toArray}).push {cls:=.type "dict", data:=.dict #[]}) h₁) :
    Inv (iW X scope N cl fp s H (s.heap.objs.size+1)) [] (blk k σ fr) (upd H s.heap.objs.size (.lst [])) {s with heap:=h₁,toks:=tk}:=by
  have I3:=I.aFA (ys:=[]) (its:=[]) (t':=tk) .nil (M3 _)
  have hD:H s.heap.objs.size=none:=I.fresh
  have hC:H (s.heap.objs.size+1)=none:=I.hok.fresh (N0 _)
  have neC:∀b o,(s.heap.push {cls:=.type "list", data:=.seq ([]:List Value).toArray}).get? b=some o→b≠s.heap.objs.size+1:=λb o e=>by
    have:=Heap.lt_size e
    rw[Heap.size_push]at this
    exact D8 this
  have aCe:∀b o,(s.heap.push {cls:=.type "list", data:=.seq ([]:List Value).toArray}).get? b=some o→h₁.get? b=some o:=λb o e=>
    hs.extBut b o (neC b o e) (Heap.get?_push_of_some _ e)
  have kept:∀b o,s.heap.get? b=some o→h₁.get? b=some o:=λb o e=>aCe b o (Heap.get?_push_of_some _ e)
  refine⟨⟨I.ok.mod,B.kind,I.ok.glob,I.ok.blt,N0 _,λx y c h1 h2=>I.ok.inj x y c (hcl x c h1).2 (hcl y c h2).2,λx hx=>aAO x (Ua B.cell hx),λx c h _=>(nomatch h),
      I.ok.hd,I.ok.frames,.inl rfl,λb hb=>⟨?_,λx c e=>(hf b hb).2.2.2.2.1 x c (hcl x c e).2⟩,λb o e=>I.bs b o e,F5 I.ok.SN I.sz,λb o e hb=>?_,λb hb hb2=>?_,I.stack,I.Th⟩,
    rfl,I.bare,Un.laid kept (C8 _) hD,⟨m,hn,λi x v h1 h2 h3=>?_⟩,λx c e=>?_,?_,λx c e=>?_,λp hp=>absurd (show p∈([]:List (Addr×Obj))from hp) (by simp),?_,?_⟩
  · exact D8 (L0 (hfo b hb))
  · rcases(hf b hb).2.2.2.1 with z | z
    · exact I.ok.Tf b o e z
    · exact absurd (D6 (Heap.lt_size e) (F5 I.ok.SN z)) (J7 _)
  · rcases C6.mp (I.Tg b hb2)with z | z
    · exact(hf b hb).2.1 z
    · exact(hf b hb).2.2.1 z
  · obtain⟨j,o,rfl,h4,h5⟩:=aAN h2
    have h1:N[k+j]?=some x:=h1
    have hj:j<fr.length:=(D3.mp h4).1
    have hx:X.N[o]?=some x:=by
      have q:=B.slots j (J8.mpr hj)
      rw[C4,h4]at q
      exact q.trans h1
    obtain⟨hfr,hre⟩:=B.from_ x (F6 (i:=j) (by rw[List.getElem?_drop];exact h1))
    have hk:=B.free _ hfr rfl
    obtain⟨m0,hn0,hl0⟩:=I.loc
    have hv:Vis X.env.scope x:=by
      rcases hk with q | q
      · exact .inr (.inl q)
      · exact .inr (.inr q)
    obtain⟨u,r,l⟩:=hl0 o x v hx h5 hv
    refine⟨u,r,.inr ?_⟩
    rcases l with ⟨q,_⟩ | ⟨_,c,e,z⟩
    · rcases hk with q' | q'
      · exact absurd (q.symm.trans q') (by intro z;cases z)
      · exact absurd (q.symm.trans q') (by intro z;cases z)
    · obtain⟨c',e'⟩:=aAO x hfr
      have e2:=(hcl x c' e').2
      rw[e]at e2
      cases e2
      refine⟨hre,c,e',?_⟩
      obtain⟨oc,hoc,hd⟩:=z
      exact⟨oc,kept c oc hoc,hd⟩
  · obtain⟨v,oc,hoc,hd⟩:=I.cell x c (hcl x c e).2
    exact⟨v,oc,kept c oc hoc,hd⟩
  · show upd H s.heap.objs.size (.lst []) (s.heap.objs.size+1)=none
    rw[bL (P2 (N3 _))]
    exact hC
  · have hc:=(hcl x c e).2
    obtain⟨v,oc,hoc,hd⟩:=I.cell x c hc
    show upd H s.heap.objs.size (.lst []) c=none
    rw[bL (D8 (Heap.lt_size hoc))]
    exact I.oR x c hc
  · exact vL.kept I3.hok aCe
  · show (blk k σ fr).length=N.length
    rw[B.len]
    unfold blk DR
    simp
theorem Wx{tg elt iter:Expr}{ifs:List Expr}{scope:Scope}{pos:Pos}{N:List Str}{k:Nat}{fr:List Nat}{g:TG}{tc:TT}{te:TE}{cl:List (Str×Addr)}{pins:List (Addr×Obj)}{σ:St}{H:Hp}{s:Shared}{it:Addr}{fp:List Addr}{tn:Nat→Heap→Prop}{J:It}{Q:VK}
    {RR:Value→Addr→Result→Shared→Prop} {E:Value→Shared→Prop} (hcalm:X.calm=true) (I:Inv X pins σ H s) (T:Turn X.prog X.w X.K tg J fp it tn) (st:tn 0 s.heap) (hf:∀b∈fp,Ti X pins H b) (B:iQ X.env.scope scope X.N N k fr)
    (hcl:∀x c,cl.lookup x=some c→(x,NameKind.free)∈scope.names∧X.env.cells.lookup x=some c) (aAO:∀x,(x,NameKind.free)∈scope.names→∃c,cl.lookup x=some c)
    (hg:∀cl fp s H C,PG (iW X scope N cl fp s H C) tg g) (hc:∀cl fp s H C,PTs (iW X scope N cl fp s H C) ifs tc) (he:∀cl fp s H C,PE (iW X scope N cl fp s H C) elt te)
    (hw:∀D,H D=none→aCd J k fr g tc te σ H Q D)
    (hRR:∀D C m s' H',s'.heap.Ns C m→s.heap.objs.size≤C→H' C=none→C≠D→Inv X pins σ H' s'→Q (.ref D) H'→RR (.ref D) C (.ok .next) s') :
    wpAny (model X.prog X.w) X.A (newList []) (λacc s₃=>wpAny (model X.prog X.w) X.A (newFunctionEnv scope X.env.globals cl [] X.env.qual none .none (some X.env)) (λcenv s₄=>
      codeAny (model X.prog X.w) X.A (.compStart (.ListComp elt [⟨tg,iter,ifs,0⟩] scope pos) 0 (.ref it) acc {cenv with scope:=relabel scope X.env}) (RR acc cenv.locals) s₄) E s₃) E s:=by
  refine wpAny_newObj_type (wpAny_newFunctionEnv B.cell (by intro y hy;simp at hy) (λh₁ hns₁ hsb₁=>?_) B.kind)
  dsimp only at hns₁ hsb₁ ⊢
  rw[Heap.size_push]at hns₁ hsb₁ ⊢
  have hfo:∀b∈fp,b<s.heap.objs.size:=λb hb=>by
    obtain⟨o,e,_⟩:=T.obj 0 _ st b hb
    exact Heap.lt_size e
  have I4:=DW (tk:=s.toks+([]:List (Str×Value)).length) I B hf hfo hcl aAO hns₁ hsb₁
  generalize hD:s.heap.objs.size=D at *
  have hDn:H D=none:=by rw[←hD];exact I.fresh
  obtain⟨W,⟨m0,w0⟩,turn⟩:=hw D hDn
  have st1:tn 0 h₁:=T.keep 0 _ _ st λb hb o e=>hsb₁.extBut b o (D8 (L0 (by have:=hfo b hb;exact this))) (Heap.get?_push_of_some _ (Heap.get?_push_of_some _ e))
  have fr0:∀b∈fp,(upd H D (.lst [])) b=none:=λb hb=>by
    rw[bL (D8 (hfo b hb))]
    exact(hf b hb).1
  generalize hX':iW X scope N cl fp s H (D+1)=X' at I4
  have stat:∀{H':Hp},(∀b∈fp,H' b=none)→∀b∈fp,Ti X' [] H' b:=λ{H'} hn b hb=>by
    subst hX'
    refine⟨hn b hb,?_,λz=>?_,.inl hb,λx c e=>(hf b hb).2.2.2.2.1 x c (hcl x c e).2,λp hp=>absurd (show p∈([]:List (Addr×Obj))from hp) (by simp)⟩
    · exact D8 (L0 (hfo b hb))
    · rcases C6.mp (I.Tg b z)with z | z
      · exact(hf b hb).2.1 z
      · exact(hf b hb).2.2.1 z
  have loop:∀s₃:Shared,s₃={s with heap:=h₁,toks:=s.toks+([]:List (Str×Value)).length} →
      codeAny (model X.prog X.w) X.A (.compLoop (.ListComp elt [⟨tg,iter,ifs,0⟩] scope pos) 0 (.ref it) (.ref D) (compEnvC scope cl (D+1) X.env)) (RR (.ref D) (D+1)) s₃:=by
    rintro s₃ rfl
    refine yU (λn s'=>∃i ys H',Inv X' [] (blk k σ fr) H' s'∧tn i s'.heap∧(∀b∈fp,H' b=none)∧W i n ys H') ?_ m0 ⟨0,[],_,I4,st1,fr0,w0⟩
    rintro n s5 ⟨i,ys,H5,I5,st5,fr5,w5⟩
    obtain⟨hys,way⟩:=turn i n ys H5 w5
    have e1:X'.prog=X.prog:=by rw[←hX'];rfl
    have e2:X'.w=X.w:=by rw[←hX'];rfl
    have e3:X'.K=X.K:=by rw[←hX'];rfl
    have e4:X'.A=X.A:=by rw[←hX'];rfl
    have e5:X'.calm=true:=by rw[←hX'];exact hcalm
    have e6:X'.env=compEnvC scope cl (D+1) X.env:=by rw[←hX'];rfl
    have e7:X'.xe=λ_ _=>False:=by rw[←hX'];rfl
    rcases way with ⟨stop,q⟩ | ⟨go,step⟩
    · have d:=T.done X' e1 e2 e3 e5 i [] s5 _ H5 (λ_ _=>False) I5 (stat fr5) st5 stop
      rw[e4]at d
      refine gQ d λr s6 ⟨hr,I6⟩=>?_
      subst hr
      subst hX'
      obtain⟨m6,hn6,_⟩:=I6.loc
      refine hRR D (D+1) m6 s6 H5 hn6 (N0 _) I6.free (P2 (N3 _)) ?_ q
      exact I.call' I6.os I6.base I6.hok I6.bare λb hb=>⟨(hf b hb).2.2.2.1,(hf b hb).2.1,(hf b hb).2.2.2.2.1,(hf b hb).2.2.2.2.2⟩
    · have d:=T.item X' e1 e2 e3 e5 i [] s5 _ H5 (λ_ _=>False) I5 (stat fr5) st5 go
      rw[e4]at d
      refine gQ d λr s6 ⟨u,hr,h6⟩=>?_
      subst hr
      refine gQ h6 λ_ s7 ⟨x,H7,I7,r7,y7,st7,fr7⟩=>?_
      have I7':=I7.pinned (stat fr7) (T.obj _ _ st7)
      have hg':PG X' tg g:=by rw[←hX'];exact hg _ _ _ _ _
      have hc':PTs X' ifs tc:=by rw[←hX'];exact hc _ _ _ _ _
      have he':PE X' elt te:=by rw[←hX'];exact he _ _ _ _ _
      have a1:=hg' _ s7 _ H7 x u _ I7' r7 (step x H7 y7)
      rw[e1,e2,e4,e6,e7]at a1
      refine gQ a1 λ_ s8 ⟨σ8,H8,I8,⟨kl,kk⟩,q8⟩=>?_
      have a2:=hc' _ s8 σ8 H8 _ I8 q8
      rw[e1,e2,e4,e6,e7]at a2
      refine gQ a2 λok s9 ⟨H9,I9,q9⟩=>?_
      have again:∀{Ha:Hp} {ya:List V} {sa:Shared},Inv X' ([]++Jg fp s7.heap) σ8 Ha sa→(∃m',m'<n∧W (i+1) m' ya Ha) →
          ∃m,m<n∧∃i ys H',Inv X' [] (blk k σ fr) H' sa∧tn i sa.heap∧(∀b∈fp,H' b=none)∧W i m ys H':=λ{Ha ya sa} Ia ⟨m',hm,w'⟩=>by
        refine⟨m',hm,i+1,ya,Ha,(Ia.weak kl.symm kk).Bg,T.keep _ _ _ st7 λb hb o e=>(Ia.pin (b,o) (F2 _ (F2 _ (uG hb e)))).1,λb hb=>?_,w'⟩
        obtain⟨o,e,d⟩:=T.obj _ _ st7 b hb
        exact(Ia.pin (b,o) (F2 _ (F2 _ (uG hb e)))).2.1
      cases ok with
      | false=>exact again I9 q9
      | true=>
        have a3:=he' _ s9 σ8 H9 _ I9 q9
        rw[e1,e2,e4,e6,e7]at a3
        show wpAny _ _ _ _ _ s9
        refine gQ a3 λv s10 ⟨y,H10,I10,r10,hD10,hz,q10⟩=>?_
        have a4:=nG (X:=X') _ s10 σ8 H10 (.ref D) [y] (.ref D) [v] (λ_ H11=>H11=upd H10 D (.lst (ys++[y]))) I10 rfl (.cons r10 .nil) ⟨D,ys,y,rfl,rfl,hD10,hz,rfl⟩
        rw[e1,e2,e4,e7]at a4
        refine gQ a4 λ_ s11 ⟨_,H11,I11,_,e11⟩=>?_
        subst e11
        exact again I11 q10
  exact codeAny_compStart_list (loop _ rfl) (T.self _ 0 _ _ _ st1 (loop _ rfl))
theorem aAP{tg elt iter:Expr}{ifs:List Expr}{scope:Scope}{pos:Pos}{wi:TI}{g:TG}{tc:TT}{te:TE}(N:List Str)(k:Nat)(fr:List Nat)(hcalm:X.calm=true)(B:iQ X.env.scope scope X.N N k fr)(hi:PI X tg iter wi)
  (hg:∀cl fp s H C,PG (iW X scope N cl fp s H C) tg g) (hc:∀cl fp s H C,PTs (iW X scope N cl fp s H C) ifs tc) (he:∀cl fp s H C,PE (iW X scope N cl fp s H C) elt te)
  (hs:∀x,foldedSetIterable iter X.env x=pure x:=by intro _;rfl):PE X (.ListComp elt [⟨tg,iter,ifs,0⟩] scope pos) (Ww wi k fr g tc te):=by
 intro pins s σ H Q I h
 obtain⟨cl,e,h1,h2⟩:=zJ scope X.env λy hy hk=>I.ok.has y.1 (B.free y hy hk)
 rw[eval_ListComp]
 refine wpAny_comprehension_free (use:=none) rfl hs e B.kind B.loc (wpAny_mono (hi pins s σ H _ I h) (λxv s₁ q₁=>wpAny_mono q₁ (λitv s₂ q₂=>?_) λ_ _ x=>x) λ_ _ x=>x)
 obtain⟨it,fp,tn,J,H2,rfl,I2,T,st2,f2,hw⟩:=q₂
 refine Wx (Q:=Q) (RR:=λacc C=>compPost (model X.prog X.w) X.A X.xe none (EP X pins σ Q) acc C) hcalm I2 T st2 f2 B h1 h2 hg hc he hw ?_
 intro D C m s' H' hn hC hf hne I' q
 refine⟨m,hn,λh' hs'=>⟨.ref D,H',?_,rfl,q⟩⟩
 exact I'.turned (t':=s'.toks) (λb o hb eb=>(hs'.2 b hb).trans eb) hf (P2 (D6 I2.lt hC)) (.inr (F5 I2.sz hC)) (λx c ec z=>by
  obtain⟨v,q⟩:=I2.cell x c ec
  exact absurd (D6 q.lt (by rw[z];exact hC)) (J7 _)) λp hp z=>absurd (D6 (Heap.lt_size (I2.pin p hp).1) (by rw[z];exact hC)) (J7 _)
theorem aAQ{tg elt iter:Expr}{ifs:List Expr}{scope:Scope}{pos spos py:Pos}{y:Str}{i:Nat}{wi:TI}{g:TG}{tc:TT}{te:TE}(N:List Str)(k:Nat)(fr:List Nat)(hcalm:X.calm=true)(B:iQ X.env.scope scope X.N N k fr)(hN:X.N.Nodup)(hy:X.N[i]?=some y)(hx:Loc X.env.scope y)(hi:PI X tg iter wi)
  (hg:∀cl fp s H C,PG (iW X scope N cl fp s H C) tg g) (hc:∀cl fp s H C,PTs (iW X scope N cl fp s H C) ifs tc) (he:∀cl fp s H C,PE (iW X scope N cl fp s H C) elt te)
  (hsw:swapsWith (.ListComp elt [⟨tg,iter,ifs,0⟩] scope pos) (some (.Name y py)) spos.line X.env=pure true:=by rfl)
  (hs:∀x,foldedSetIterable iter X.env x=pure x:=by intro _;rfl) (hf:X.fn y=true∨X.env.scope.names.lookup y=some .local:=by first | exact .inl rfl | exact .inr rfl | assumption) :
  PS X (.Assign [.Name y py] (.ListComp elt [⟨tg,iter,ifs,0⟩] scope pos) spos) (sX (Ww wi k fr g tc te) (fY i)):=by
 intro pins s σ H D I h
 obtain⟨cl,e,h1,h2⟩:=zJ scope X.env λy hy hk=>I.ok.has y.1 (B.free y hy hk)
 rw[exec_Assign_Name_used _ _ _ _ hsw]
 refine wpAny_bind (wpAny_standAt (wpAny_bind ?_))
 show wpAny _ X.A (do let _ ←comprehension (.ListComp elt [⟨tg,iter,ifs,0⟩] scope pos) scope X.env _ (newList []) false (eval iter X.env) (some (assign (.Name y py) X.env))) _ _ s
 refine wpAny_bind (wpAny_mono (wpAny_comprehension_free (use:=some (assign (.Name y py) X.env)) (Q:=λ_ s'=>SP X pins D .next s') rfl hs e B.kind B.loc
  (wpAny_mono (hi pins s σ H _ I h) (λxv s₁ q₁=>wpAny_mono q₁ (λitv s₂ q₂=>?_) λ_ _ x=>x) λ_ _ x=>x)) (λ_ s' hq=>wpAny_pure (wpAny_pure hq)) λ_ _ x=>x)
 obtain⟨it,fp,tn,J,H2,rfl,I2,T,st2,f2,hw⟩:=q₂
 refine Wx (Q:=λx H1=>fY i x σ H1 D.nx) (RR:=λacc C=>compPost (model X.prog X.w) X.A X.xe (some (assign (.Name y py) X.env)) (λ_ s'=>SP X pins D .next s') acc C) hcalm I2 T st2 f2 B h1 h2 hg hc he hw ?_
 intro E C m s' H' hn hC hfr hne I' q
 show wpAny _ X.A (assign (.Name y py) X.env (.ref E)) _ _ _
 have KD:∀x c,X.env.cells.lookup x=some c→c≠C:=λx c ec z=>by
  obtain⟨v,q⟩:=I2.cell x c ec
  exact absurd (D6 q.lt (by rw[z];exact hC)) (J7 _)
 refine wpAny_assign_Name (Pq I' hN hy hx (show RelV (.ref E) (.ref E)from rfl) (λs6 I6 ⟨a,hsb,ha⟩=>?_) hf)
 have neA:C≠a:=by
  rcases ha with z | z
  ·rw[z];exact P2 (D6 I2.lt hC)
  ·exact λq=>KD _ _ z q.symm
 refine⟨m,hn.sameBut hsb neA,λh'' hs''=>⟨_,H',?_,q⟩⟩
 exact I6.turned (t':=s6.toks) (λb o hb eb=>(hs''.2 b hb).trans eb) hfr (P2 (D6 I2.lt hC)) (.inr (F5 I2.sz hC)) KD
  λp hp z=>absurd (D6 (Heap.lt_size (I2.pin p hp).1) (by rw[z];exact hC)) (J7 _)
end
end L2


set_option maxHeartbeats 4000000
namespace L2
open PySem PySem.Spec PyProof.Rows
def JIs(J:It)(P:Hp→Prop)(xs:List V):Prop:=
 ∀i H,P H→(i<xs.length→J.go i H)∧(∀x H',J.yld i H x H'→H'=H∧(i<xs.length→xs[i]?=some x))∧(xs.length≤i→J.stop i H)
theorem Wy{K:aD}{a:Addr}{xs:List V}:JIs (Itl K a) (λH=>pY K H a xs) xs:=λi H hq=>
 ⟨λh=>⟨xs,xs[i],hq,by simp[h]⟩,λx H' ⟨e,y⟩=>⟨e,λ_=>y xs hq⟩,λh=>⟨xs,hq,h⟩⟩
theorem aAR{K:aD}{a:Addr}{xs:List V}:JIs (Itt K a) (λH=>vU K H a xs) xs:=λi H hq=>
 ⟨λh=>⟨xs,xs[i],hq,by simp[h]⟩,λx H' ⟨e,y⟩=>⟨e,λ_=>y xs hq⟩,λh=>⟨xs,hq,h⟩⟩
theorem Ef{lo:Int}{n:Nat}:JIs (Itr lo n) (λ_=>True) ((D5 n).map λi:Nat=>V.int (lo+(i:Int))):=λi H _=>
 ⟨λh=>show i<n by simpa using h,λx H' ⟨e,y⟩=>⟨e,λh=>by
  have h:i<n:=by simpa using h
  subst y
  simp[h]⟩,λh=>show n≤i by simpa using h⟩
section
variable{X:Cx}
theorem oE{scope:Scope}{N:List Str}{x:Str}{pos:Pos}(hN:N.Nodup)(hi:N[0]?=some x)(hx:(tG scope X.env.scope).names.lookup x=some .local) :
  ∀cl fp s H C,PG (iW X scope N cl fp s H C) (.Name x pos) (fY 0):=λ_ _ _ _ _=>mH hN hi (E5 hx) (E4 hx)
theorem aAS{P:Program}{w:World}{k:Key}{v:Value}(h:(fK P w).is k v=true):RelV (kV k) v:=by
 rcases fM (k:=k) (v:=v) h with ⟨i,t,rfl,rfl⟩ | ⟨x,t,rfl,rfl⟩
 ·exact⟨t,rfl⟩
 ·exact⟨t,rfl⟩
theorem Ub{J:It}{P:Hp→Prop}{xs:List V}(hJ:JIs J P xs){g:TG}{tb:TS}{D:Ends}{σ:St}{H:Hp}(Pv:Nat→St→Hp→Prop)(h0:Pv 0 σ H)(hl:∀i σ H,i≤xs.length→Pv i σ H→P H)
  (hs:∀i x σ H,xs[i]?=some x→Pv i σ H→g x σ H λσ2 H2=>tb {D with nx:=Pv (i+1),ct:=Pv (i+1),bk:=D.nx} σ2 H2) (hd:∀σ H,Pv xs.length σ H→D.nx σ H) :
  ∃W:Nat→Nat→St→Hp→Prop,(∃m,W 0 m σ H)∧∀i m σ H,W i m σ H →
   (J.stop i H∧D.nx σ H)∨(J.go i H∧∃N:St→Hp→Prop,(∀σ' H',N σ' H'→∃m',m'<m∧W (i+1) m' σ' H')∧∀x H',J.yld i H x H'→g x σ H' λσ2 H2=>tb {D with nx:=N,ct:=N,bk:=D.nx} σ2 H2):=by
 refine⟨λi m σ H=>m=xs.length-i∧i≤xs.length∧Pv i σ H,⟨xs.length,by simp,M3 _,h0⟩,?_⟩
 rintro i m σ H ⟨rfl,hi,p⟩
 obtain⟨j1,j2,j3⟩:=hJ i H (hl i σ H hi p)
 by_cases hlt:i<xs.length
 ·refine .inr ⟨j1 hlt,Pv (i+1),λσ' H' p'=>⟨xs.length-(i+1),by omega,rfl,hlt,p'⟩,λx H' y=>?_⟩
  obtain⟨e,ex⟩:=j2 x H' y
  subst e
  exact hs i x σ _ (ex hlt) p
 ·have e:i=xs.length:=by omega
  subst e
  exact .inl ⟨j3 (C8 _),hd σ H p⟩
end
end L2


namespace L2
open PySem PySem.Spec PyProof.Rows
section
variable{X:Cx}
theorem aAT{s:Shared}{h':Heap}{o:Obj}(hk:∀b x,b∉[s.heap.objs.size]→(s.heap.push o).get? b=some x→h'.get? b=some x):∀b x,s.heap.get? b=some x→h'.get? b=some x:=
 λb x e=>hk b x (λhm=>by rw[E8.mp hm]at e;exact J7 _ (Heap.lt_size e)) (Heap.get?_push_of_some _ e)
theorem Qn{P:Program}{w:World}{kvs:List (Key×V)}{vs:List (Key×Value)}(rel:KV kvs vs){us:List Value}(hl:us.length=vs.length)(hv:∀(j:Nat)(v:Value),us[j]?=some v→∃k x,vs[j]?=some (k,x)∧(fK P w).is k v=true) :
  Vals (kvs.map λkv=>kV kv.1) us:=by
 have ek:=KV.keys rel
 have e0:(kvs.map λkv=>kV kv.1)=(vs.map (·.1)).map kV:=by rw[←ek,K0];rfl
 rw[e0]
 clear e0 ek rel
 induction vs generalizing us with
 | nil=>
  cases us with
  | nil=>exact .nil
  | cons _ _=>simp at hl
 | cons p r ih=>
  cases us with
  | nil=>simp at hl
  | cons u us=>
   refine .cons ?_ (ih (by simpa using hl) λj v e=>by simpa using hv (j+1) v (by simpa using e))
   obtain⟨k,x,e,h⟩:=hv 0 u rfl
   simp at e
   subst e
   exact aAS h
theorem Jp(hc:X.calm=true):lV X (.type "list") (λxs H Q=>∃p kvs,xs=[.ref p]∧Rd H p (.dK kvs)∧∀l,H l=none→Q (.ref l) (upd H l (.lst (kvs.map λkv=>kV kv.1)))):=by
 intro pins s σ H xs us Q I r h
 obtain⟨p,kvs,rfl,hq,q⟩:=h
 obtain⟨u,rfl,rx⟩:=vals1 r
 cases rx
 obtain⟨hz,hsm,vs,rel,dd⟩:=Bj I.hok hq
 obtain⟨ep,hat⟩:=dd.dictAt
 have hl:=KV.length rel
 refine PySem.W.kdl_call (f9 (knd:=fK X.prog X.w) (kvs:=vs) (ep:=ep) hsm) (I.ok.hd hc) hat (by omega) ?_
 intro h' tk acc c kp e hacc
 have hk:=Qn (P:=X.prog) (w:=X.w) rel (us:=acc.toList) (by rw[G6];exact hacc.1) λj v ej=>hacc.2 j v (by rw[←K5];exact ej)
 exact⟨.ref s.heap.objs.size,_,I.laid (t':=tk) kp (C8 _) (show iM X.prog X.w _ h' _ (.lst (kvs.map λkv=>kV kv.1))from⟨by rw[B8];exact hz,acc.toList,c,hk,by simpa using e⟩),rfl,q _ (I.hok.fresh (C8 _))⟩
def rising(ns ms:List Int):Prop:=ms.Perm ns∧ms.Pairwise (·≤·)
theorem Wz:lV X (.builtin "sorted") (λxs H Q=>∃(p:Addr)(ns:List Int),xs=[.ref p]∧pY X.K H p (ns.map V.int)∧ns.length<64∧∀l ms,H l=none→rising ns ms→Q (.ref l) (upd H l (.lst (ms.map V.int)))):=by
 intro pins s σ H xs us Q I r h
 obtain⟨p,ns,rfl,hq,h64,q⟩:=h
 obtain⟨u,rfl,rx⟩:=vals1 r
 cases rx
 obtain⟨its,rv,pl,hz⟩:=I.list hq
 have hlen:=rv.length
 rw[B8]at hlen
 refine sorted_ints pl.isList (intsAre_of rv) (by omega) λout ns' a1 a2 a3=>?_
 obtain⟨e,he⟩:=sortedAll_at s.heap its out
 have hl2:ns'.length=ns.length:=a2.length_eq
 have hs:H (s.heap.objs.size+1)=none:=I.hok.fresh (N0 _)
 have I2:=I.laid (t':=s.toks) (a:=s.heap.objs.size+1) (o:=.lst (ns'.map V.int)) (h':=sortedAll s.heap its out) (λb o e=>sortedAll_old e) (N0 _)
  ⟨by rw[B8];exact N7 (nH (by omega)),out.toList,e,tE a1,by simpa[seqObj]using he⟩
 exact⟨.ref _,_,I2,rfl,q _ _ hs ⟨a2,a3⟩⟩
end
inductive DV where
  | int (i:Int) | non | lst (ds:List DV) | tup (ds:List DV)
mutual
def Reads(K:aD)(H:Hp):DV→V→Prop
 | .int i,x=>x=.int i
 | .non,x=>x=.non
 | .lst ds,x=>∃a xs,x=.ref a∧pY K H a xs∧cP K H ds xs
 | .tup ds,x=>∃a xs,x=.ref a∧vU K H a xs∧cP K H ds xs
def cP(K:aD)(H:Hp):List DV→List V→Prop
 | [],xs=>xs=[]
 | d::ds,xs=>∃y ys,xs=y::ys∧Reads K H d y∧cP K H ds ys
end
mutual
def DV.depth:DV→Nat
 | .int _=>0
 | .non=>0
 | .lst ds=>bQ ds+1
 | .tup ds=>bQ ds+1
def bQ:List DV→Nat
 | []=>0
 | d::ds=>max d.depth (bQ ds)
end
theorem cP.length{K:aD}{H:Hp}:∀{ds:List DV} {xs:List V},cP K H ds xs→xs.length=ds.length
 | [],xs,h=>by
  unfold cP at h
  rw[h]
  rfl
 | d::ds,xs,h=>by
  unfold cP at h
  obtain⟨y,ys,rfl,_,h2⟩:=h
  simp[cP.length h2]
theorem cP.get{K:aD}{H:Hp}:∀{ds:List DV} {xs:List V} {i:Nat} {d:DV},cP K H ds xs→ds[i]?=some d→∃x,xs[i]?=some x∧Reads K H d x
 | [],xs,i,d,h,e=>by simp at e
 | d'::ds,xs,0,d,h,e=>by
  unfold cP at h
  obtain⟨y,ys,rfl,h1,_⟩:=h
  simp at e
  subst e
  exact⟨y,rfl,h1⟩
 | d'::ds,xs,i+1,d,h,e=>by
  unfold cP at h
  obtain⟨y,ys,rfl,_,h2⟩:=h
  obtain⟨x,e1,e2⟩:=cP.get h2 (by simpa using e)
  exact⟨x,by simpa using e1,e2⟩
theorem Jq:∀{ds:List DV} {i:Nat} {d:DV},ds[i]?=some d→d.depth≤bQ ds
 | [],i,d,e=>by simp at e
 | d'::ds,0,d,e=>by
  simp at e
  subst e
  unfold bQ
  exact Nat.le_max_left _ _
 | d'::ds,i+1,d,e=>by
  have:=Jq (ds:=ds) (i:=i) (d:=d) (by simpa using e)
  unfold bQ
  exact F5 this (Nat.le_max_right _ _)
theorem DX(A:Around):A.in1.units=A.units+1:=rfl
section
open SeqAt
open Classical in
noncomputable def wD(d e:DV):Bool:=decide (d=e)
theorem tH{d e:DV}:wD d e=true↔d=e:=by unfold wD;simp
theorem tK(d:DV):wD d d=true:=tH.mpr rfl
theorem iH{d e:DV}(h:d≠e):wD d e=false:=by unfold wD;simp[h]
theorem aAU(a b:Int):wD (.int a) (.int b)=(a==b):=by
 by_cases h:a=b
 ·subst h;simp[tK]
 ·rw[iH (by simpa using h)];simp[h]
open Classical in
theorem oF{ds es:List DV}(hl:ds.length=es.length):((D5 ds.length).all λi=>match ds[i]?,es[i]? with | some d,some e=>wD d e | _,_=>true)=decide (ds=es):=by
 rw[N8,V8,decide_eq_true_iff]
 constructor
 ·intro h
  apply V9 hl
  intro i h1 h2
  have:=h i (J8.mpr h1)
  simp only[B6 h1,B6 h2]at this
  exact tH.mp this
 ·rintro rfl i hi
  have hi':=J8.mp hi
  simp only[B6 hi']
  exact tK _
variable{X:Cx}{pins:List (Addr×Obj)}{σ:St}{H:Hp}{s:Shared}
open Classical in
theorem MP(ds es:List DV):wD (.lst ds) (.lst es)=decide (ds=es):=by
 by_cases h:ds=es
 ·subst h;simp[tK]
 ·rw[iH (by intro z;cases z;exact h rfl)];simp[h]
open Classical in
theorem MT(ds es:List DV):wD (.tup ds) (.tup es)=decide (ds=es):=by
 by_cases h:ds=es
 ·subst h;simp[tK]
 ·rw[iH (by intro z;cases z;exact h rfl)];simp[h]
theorem Qo(I:Inv X pins σ H s):∀(n:Nat)(d e:DV)(x:V),d.depth≤n→Reads X.K H d x→Reads X.K H e x→d=e:=by
 have lists:∀(n:Nat),(∀(d e:DV)(x:V),d.depth≤n→Reads X.K H d x→Reads X.K H e x→d=e)→∀(ds es:List DV)(xs:List V),bQ ds≤n→cP X.K H ds xs→cP X.K H es xs→ds=es:=by
  intro n ih ds
  induction ds with
  | nil=>
   intro es xs _ h1 h2
   have l1:=h1.length
   have l2:=h2.length
   cases es with
   | nil=>rfl
   | cons _ _=>rw[l1]at l2;simp at l2
  | cons d ds ihl=>
   intro es xs hd h1 h2
   have hd1:d.depth≤n:=by unfold bQ at hd;omega
   have hd2:bQ ds≤n:=by unfold bQ at hd;omega
   unfold cP at h1
   obtain⟨y,ys,rfl,a1,a2⟩:=h1
   cases es with
   | nil=>have:=h2.length;simp at this
   | cons e es=>
    unfold cP at h2
    obtain⟨y',ys',q,b1,b2⟩:=h2
    cases q
    rw[ih d e y hd1 a1 b1,ihl es ys hd2 a2 b2]
 have kinds:∀{a:Addr} {xs ys:List V},pY X.K H a xs→vU X.K H a ys→False:=λ{a xs ys} h1 h2=>by
  obtain⟨_,_,p1,_⟩:=I.list h1
  obtain⟨_,_,p2,_⟩:=I.tuple h2
  exact ne_of_list_tuple p1.isList (show s.heap.IsTuple a _ from p2) rfl
 intro n
 induction n with
 | zero=>
  intro d e x hd h1 h2
  cases d with
  | int i=>
   unfold Reads at h1
   subst h1
   cases e with
   | int j=>unfold Reads at h2;cases h2;rfl
   | non=>unfold Reads at h2;cases h2
   | lst es=>unfold Reads at h2;obtain⟨_,_,q,_⟩:=h2;cases q
   | tup es=>unfold Reads at h2;obtain⟨_,_,q,_⟩:=h2;cases q
  | non=>
   unfold Reads at h1
   subst h1
   cases e with
   | non=>rfl
   | int j=>unfold Reads at h2;cases h2
   | lst es=>unfold Reads at h2;obtain⟨_,_,q,_⟩:=h2;cases q
   | tup es=>unfold Reads at h2;obtain⟨_,_,q,_⟩:=h2;cases q
  | lst ds=>unfold DV.depth at hd;omega
  | tup ds=>unfold DV.depth at hd;omega
 | succ n ih=>
  intro d e x hd h1 h2
  cases d with
  | int i=>
   unfold Reads at h1
   subst h1
   cases e with
   | int j=>unfold Reads at h2;cases h2;rfl
   | non=>unfold Reads at h2;cases h2
   | lst es=>unfold Reads at h2;obtain⟨_,_,q,_⟩:=h2;cases q
   | tup es=>unfold Reads at h2;obtain⟨_,_,q,_⟩:=h2;cases q
  | non=>
   unfold Reads at h1
   subst h1
   cases e with
   | non=>rfl
   | int j=>unfold Reads at h2;cases h2
   | lst es=>unfold Reads at h2;obtain⟨_,_,q,_⟩:=h2;cases q
   | tup es=>unfold Reads at h2;obtain⟨_,_,q,_⟩:=h2;cases q
  | lst ds=>
   unfold Reads at h1
   obtain⟨a,xs,rfl,hq,r⟩:=h1
   cases e with
   | int j=>unfold Reads at h2;cases h2
   | non=>unfold Reads at h2;cases h2
   | lst es=>
    unfold Reads at h2
    obtain⟨b,ys,q,hq2,r2⟩:=h2
    cases q
    have:=I.Wm hq hq2
    subst this
    rw[lists n ih ds es xs (by unfold DV.depth at hd;omega) r r2]
   | tup es=>
    unfold Reads at h2
    obtain⟨b,ys,q,hq2,r2⟩:=h2
    cases q
    exact(kinds hq hq2).elim
  | tup ds=>
   unfold Reads at h1
   obtain⟨a,xs,rfl,hq,r⟩:=h1
   cases e with
   | int j=>unfold Reads at h2;cases h2
   | non=>unfold Reads at h2;cases h2
   | lst es=>
    unfold Reads at h2
    obtain⟨b,ys,q,hq2,r2⟩:=h2
    cases q
    exact(kinds hq2 hq).elim
   | tup es=>
    unfold Reads at h2
    obtain⟨b,ys,q,hq2,r2⟩:=h2
    cases q
    have:=I.Pu hq hq2
    subst this
    rw[lists n ih ds es xs (by unfold DV.depth at hd;omega) r r2]
theorem iz(I:Inv X pins σ H s)(i:Int)(e:DV)(y:V)(u v:Value)(A:Around)(hu:A.units<cLine)(r2:Reads X.K H e y)(rx:RelV (.int i) u)(ry:RelV y v):RcAt A s u v (wD (.int i) e)∧EqAt A s u v (wD (.int i) e):=by
 obtain⟨t,rfl⟩:=rx
 cases e with
 | int j=>
  unfold Reads at r2
  subst r2
  obtain⟨t',rfl⟩:=ry
  rw[aAU]
  exact⟨RcAt.int_int _ _ _ _,EqAt.int_int _ _ _ _⟩
 | non=>
  unfold Reads at r2
  subst r2
  cases ry
  rw[iH (by intro z;cases z)]
  exact⟨RcAt.int_none _ _,EqAt.int_none _ _⟩
 | lst es=>
  unfold Reads at r2
  obtain⟨b,ys,rfl,hq,_⟩:=r2
  cases ry
  obtain⟨its,_,pl,_⟩:=I.list hq
  rw[iH (by intro z;cases z)]
  exact⟨RcAt.int_list _ _ pl.isList (hu),EqAt.int_list _ _ pl.isList (hu)⟩
 | tup es=>
  unfold Reads at r2
  obtain⟨b,ys,rfl,hq,_⟩:=r2
  cases ry
  obtain⟨its,_,pl,_⟩:=I.tuple hq
  rw[iH (by intro z;cases z)]
  exact⟨RcAt.int_tuple _ _ pl (hu),EqAt.int_tuple _ _ pl (hu)⟩
theorem jb(I:Inv X pins σ H s)(e:DV)(y:V)(u v:Value)(A:Around)(hu:A.units<cLine)(r2:Reads X.K H e y)(rx:RelV .non u)(ry:RelV y v):RcAt A s u v (wD .non e)∧EqAt A s u v (wD .non e):=by
 cases rx
 cases e with
 | non=>
  unfold Reads at r2
  subst r2
  cases ry
  rw[tK]
  exact⟨RcAt.none_none,EqAt.same _⟩
 | int j=>
  unfold Reads at r2
  subst r2
  obtain⟨t',rfl⟩:=ry
  rw[iH (by intro z;cases z)]
  exact⟨RcAt.none_int _ _,EqAt.none_int _ _⟩
 | lst es=>
  unfold Reads at r2
  obtain⟨b,ys,rfl,hq,_⟩:=r2
  cases ry
  obtain⟨its,_,pl,_⟩:=I.list hq
  rw[iH (by intro z;cases z)]
  exact⟨RcAt.none_list pl.isList hu,EqAt.none_list pl.isList hu⟩
 | tup es=>
  unfold Reads at r2
  obtain⟨b,ys,rfl,hq,_⟩:=r2
  cases ry
  obtain⟨its,_,pl,_⟩:=I.tuple hq
  rw[iH (by intro z;cases z)]
  exact⟨RcAt.none_tuple pl hu,EqAt.none_tuple pl hu⟩
theorem Jr(I:Inv X pins σ H s):∀(n:Nat)(A:Around),(∀(d e:DV)(x y:V)(u v:Value)(A:Around),d.depth≤n→A.units+n<cLine→Reads X.K H d x→Reads X.K H e y→RelV x u→RelV y v→RcAt A s u v (wD d e)∧EqAt A s u v (wD d e)) →
  ∀(ds es:List DV)(xs ys:List V)(us vs:List Value),bQ ds≤n→A.units+(n+1)<cLine→cP X.K H ds xs→cP X.K H es ys→Vals xs us→Vals ys vs →
  ∀j (h1:j<us.toArray.size) (h2:j<vs.toArray.size),EqAt A.in1 s us.toArray[j] vs.toArray[j] (match ds[j]?,es[j]? with | some d,some e=>wD d e | _,_=>true):=by
 intro n A ih ds es xs ys us vs hd hu r1 r2 v1 v2 j h1 h2
 have l1:j<ds.length:=by rw[←r1.length,v1.length];simpa using h1
 have l2:j<es.length:=by rw[←r2.length,v2.length];simpa using h2
 obtain⟨x,ex,rx⟩:=r1.get (i:=j) (d:=ds[j]) (by simp)
 obtain⟨y,ey,ry⟩:=r2.get (i:=j) (d:=es[j]) (by simp)
 obtain⟨u,eu,ru⟩:=v1.get ex
 obtain⟨v,ev,rv⟩:=v2.get ey
 have e1:us.toArray[j]=u:=by
  rw[D3]at eu
  obtain⟨_,eu⟩:=eu
  simpa using eu
 have e2:vs.toArray[j]=v:=by
  rw[D3]at ev
  obtain⟨_,ev⟩:=ev
  simpa using ev
 rw[e1,e2]
 simp only[B6 l1,B6 l2]
 exact(ih _ _ x y u v A.in1 (F5 (Jq (i:=j) (by simp)) hd) (by rw[DX];omega) rx ry ru rv).2
theorem Uc(I:Inv X pins σ H s):∀(n:Nat)(d e:DV)(x y:V)(u v:Value)(A:Around),d.depth≤n→A.units+n<cLine→Reads X.K H d x→Reads X.K H e y→RelV x u→RelV y v→RcAt A s u v (wD d e)∧EqAt A s u v (wD d e):=by
 have items:=Jr I
 have seqs:∀(n:Nat)(A:Around),(∀(d e:DV)(x y:V)(u v:Value)(A:Around),d.depth≤n→A.units+n<cLine→Reads X.K H d x→Reads X.K H e y→RelV x u→RelV y v→RcAt A s u v (wD d e)∧EqAt A s u v (wD d e)) →
   ∀(d e:DV)(x y:V)(u v:Value),d.depth≤n+1→A.units+(n+1)<cLine→Reads X.K H d x→Reads X.K H e y→RelV x u→RelV y v→RcAt A s u v (wD d e)∧EqAt A s u v (wD d e):=by
  intro n A ih d e x y u v hd hu r1 r2 rx ry
  have of_same:∀{a b:Addr} {k:Bool},(a=b→k=true)→RcAt A s (.ref a) (.ref b) k→EqAt A s (.ref a) (.ref b) k:=λ{a b k} hk h=>by
   by_cases hab:a=b
   ·subst hab
    rw[hk rfl]
    exact EqAt.same _
   ·exact EqAt.of_refs hab h
  cases d with
  | int i=>
   unfold Reads at r1
   subst r1
   exact iz I i e y u v A (by omega) r2 rx ry
  | non=>
   unfold Reads at r1
   subst r1
   exact jb I e y u v A (by omega) r2 rx ry
  | lst ds=>
   unfold Reads at r1
   obtain⟨a,xs,rfl,hq1,VF⟩:=r1
   cases rx
   obtain⟨Js,v1,Oc,_⟩:=I.list hq1
   have hd':bQ ds≤n:=by unfold DV.depth at hd;omega
   cases e with
   | int j=>
    unfold Reads at r2
    subst r2
    obtain⟨t',rfl⟩:=ry
    rw[iH (by intro z;cases z)]
    exact⟨RcAt.list_int _ _ Oc.isList (by omega),EqAt.list_int _ _ Oc.isList (by omega)⟩
   | non=>
    unfold Reads at r2
    subst r2
    cases ry
    rw[iH (by intro z;cases z)]
    exact⟨RcAt.list_none Oc.isList (by omega),EqAt.list_none Oc.isList (by omega)⟩
   | lst es=>
    unfold Reads at r2
    obtain⟨b,ys,rfl,hq2,DY⟩:=r2
    cases ry
    obtain⟨its2,v2,Xa,_⟩:=I.list hq2
    have e1:Js.toArray.size=ds.length:=by rw[C9,←v1.length,VF.length]
    have e2:its2.toArray.size=es.length:=by rw[C9,←v2.length,DY.length]
    have rc:RcAt A s (.ref a) (.ref b) (wD (.lst ds) (.lst es)):=by
     by_cases hl:ds.length=es.length
     ·have q:=RcAt.lists (A:=A) (s:=s) Oc.isList Xa.isList (by rw[e1,e2];exact hl) (by omega) (items n A ih ds es xs ys Js its2 hd' hu VF DY v1 v2)
      rw[e1,oF hl]at q
      rw[MP]
      exact q
     ·rw[iH (by intro z;cases z;exact hl rfl)]
      exact RcAt.lists_lengths Oc.isList Xa.isList (by rw[e1,e2];simpa using hl) (by omega)
    exact⟨rc,of_same (λhab=>by
     subst hab
     refine tH.mpr (Qo I (n+1) _ _ (.ref a) hd ?_ ?_)
     ·unfold Reads
      exact⟨a,xs,rfl,hq1,VF⟩
     ·unfold Reads
      exact⟨a,ys,rfl,hq2,DY⟩) rc⟩
   | tup es=>
    unfold Reads at r2
    obtain⟨b,ys,rfl,hq2,DY⟩:=r2
    cases ry
    obtain⟨its2,v2,Xa,_⟩:=I.tuple hq2
    rw[iH (by intro z;cases z)]
    exact⟨RcAt.list_tuple Oc.isList Xa (by omega),EqAt.list_tuple Oc.isList Xa (by omega)⟩
  | tup ds=>
   unfold Reads at r1
   obtain⟨a,xs,rfl,hq1,VF⟩:=r1
   cases rx
   obtain⟨Js,v1,Oc,_⟩:=I.tuple hq1
   have hd':bQ ds≤n:=by unfold DV.depth at hd;omega
   cases e with
   | int j=>
    unfold Reads at r2
    subst r2
    obtain⟨t',rfl⟩:=ry
    rw[iH (by intro z;cases z)]
    exact⟨RcAt.tuple_int _ _ Oc (by omega),EqAt.tuple_int _ _ Oc (by omega)⟩
   | non=>
    unfold Reads at r2
    subst r2
    cases ry
    rw[iH (by intro z;cases z)]
    exact⟨RcAt.tuple_none Oc (by omega),EqAt.tuple_none Oc (by omega)⟩
   | lst es=>
    unfold Reads at r2
    obtain⟨b,ys,rfl,hq2,DY⟩:=r2
    cases ry
    obtain⟨its2,v2,Xa,_⟩:=I.list hq2
    rw[iH (by intro z;cases z)]
    exact⟨RcAt.tuple_list Oc Xa.isList (by omega),EqAt.tuple_list Oc Xa.isList (by omega)⟩
   | tup es=>
    unfold Reads at r2
    obtain⟨b,ys,rfl,hq2,DY⟩:=r2
    cases ry
    obtain⟨its2,v2,Xa,_⟩:=I.tuple hq2
    have e1:Js.toArray.size=ds.length:=by rw[C9,←v1.length,VF.length]
    have e2:its2.toArray.size=es.length:=by rw[C9,←v2.length,DY.length]
    have rc:RcAt A s (.ref a) (.ref b) (wD (.tup ds) (.tup es)):=by
     have q:=RcAt.tuples (A:=A) (s:=s) (l:=a) (b:=b) Oc Xa (by omega) (items n A ih ds es xs ys Js its2 hd' hu VF DY v1 v2)
     rw[e1,e2]at q
     by_cases hl:ds.length=es.length
     ·rw[←hl,b8,oF hl]at q
      rw[MT]
      simpa using q
     ·rw[iH (by intro z;cases z;exact hl rfl)]
      have z:(ds.length==es.length)=false:=by simpa using hl
      rw[z,j5]at q
      exact q
    exact⟨rc,of_same (λhab=>by
     subst hab
     refine tH.mpr (Qo I (n+1) _ _ (.ref a) hd ?_ ?_)
     ·unfold Reads
      exact⟨a,xs,rfl,hq1,VF⟩
     ·unfold Reads
      exact⟨a,ys,rfl,hq2,DY⟩) rc⟩
 intro n
 induction n with
 | zero=>
  intro d e x y u v A hd hu r1 r2 rx ry
  cases d with
  | int i=>
   unfold Reads at r1
   subst r1
   exact iz I i e y u v A (by omega) r2 rx ry
  | non=>
   unfold Reads at r1
   subst r1
   exact jb I e y u v A (by omega) r2 rx ry
  | lst ds=>unfold DV.depth at hd;omega
  | tup ds=>unfold DV.depth at hd;omega
 | succ n ih=>
  intro d e x y u v A hd hu r1 r2 rx ry
  exact seqs n A ih d e x y u v hd hu r1 r2 rx ry
end
section
variable{X:Cx}
def aDp(K:aD)(neg:Bool):R2:=λx y H Q=>∃d e,Reads K H d x∧Reads K H e y∧d.depth≤32∧Q (.bl (if neg then !wD d e else wD d e)) H
theorem aDq(hu:X.A.units+64<cLine):sY X (compareOp .Eq) (aDp X.K false):=by
 intro pins s σ H x y v u Q I rx ry h
 obtain⟨d,e,r1,r2,hd,q⟩:=h
 exact(Uc I 32 d e x y v u X.A hd (by omega) r1 r2 rx ry).1 X.prog X.w X.xe _ ⟨.bl _,H,I,rfl,q⟩
open SeqAt in
theorem aDr(hu:X.A.units+64<cLine):sY X (compareOp .NotEq) (λx y H Q=>∃ds es,Reads X.K H (.lst ds) x∧Reads X.K H (.lst es) y∧bQ ds≤32∧Q (.bl (!wD (.lst ds) (.lst es))) H):=by
 intro pins s σ H x y v u Q I rx ry h
 obtain⟨ds,es,r1,r2,hd,q⟩:=h
 unfold Reads at r1 r2
 obtain⟨a,xs,rfl,hq1,VF⟩:=r1
 obtain⟨b,ys,rfl,hq2,DY⟩:=r2
 cases rx
 cases ry
 obtain⟨Js,v1,Oc,_⟩:=I.list hq1
 obtain⟨its2,v2,Xa,_⟩:=I.list hq2
 have e1:Js.toArray.size=ds.length:=by rw[C9,←v1.length,VF.length]
 have e2:its2.toArray.size=es.length:=by rw[C9,←v2.length,DY.length]
 have rc:RcNeAt X.A s (.ref a) (.ref b) (!wD (.lst ds) (.lst es)):=by
  by_cases hl:ds.length=es.length
  ·have z:=RcNeAt.lists (A:=X.A) (s:=s) Oc.isList Xa.isList (by rw[e1,e2];exact hl) (by omega) (Jr I 32 X.A (λd e x y u v A a1 a2 a3 a4 a5 a6=>Uc I 32 d e x y u v A a1 a2 a3 a4 a5 a6) ds es xs ys Js its2 hd (by omega) VF DY v1 v2)
   rw[e1,oF hl]at z
   rw[MP]
   exact z
  ·rw[iH (by intro z;cases z;exact hl rfl)]
   exact RcNeAt.lists_lengths Oc.isList Xa.isList (by rw[e1,e2];simpa using hl) (by omega)
 exact rc X.prog X.w X.xe _ ⟨.bl _,H,I,rfl,q⟩
end
end L2


namespace L2
open PySem PySem.Spec PyProof.Rows
structure Raw(K:aD)(mg:Str→Option Value)(x:Str)(st:Stmt):Prop where
 ex:∃f fd,Fun K x x st f fd∧mg x=some (.ref f)
theorem aDs{K:aD}{h:Heap}{mg:Str→Option Value}{x:Str}{st:Stmt}{f:Addr}{oc:Value}{od an:Option Addr}{osl:Array (Option Value)}{kV doc pm cdv ct:Value}(X:K.In h)(G:h.Ns mainGlobals mg)
  (a:O0 K mainGlobals x=some (some (.ref f))) (l:K.lookup f=some ⟨oc,od,.func (F3 x x (dJ st) (bR st) (aJ st) .none kV doc pm an cdv ct),osl⟩)
  (c:J9 K cdv x=true) (k:J6 K (.ref f)=true):Raw K mg x st:=⟨⟨f,_,aDn l c k,P8 X G a⟩⟩
structure sW(P:Program)(w:World)(K:aD)(mg:Str→Option Value)(base:Heap)(x:Str)(k:Nat)(n:Nat)(sp:Sp):Prop where
 ex:∃f fd ps,ps.length=n∧sZ P w K mg base Wg k f fd ps sp∧Binds K fd ps []∧J6 K (.ref f)=true∧mg x=some (.ref f)
theorem Raw.cal{P:Program}{w:World}{K:aD}{mg:Str→Option Value}{base:Heap}{x:Str}{st:Stmt}{N ps:List Str}{k:Nat}{sp:Sp}(R:Raw K mg x st)(S:aZ N ps (aJ st))(len:∀vs H Q E,sp vs H Q E→vs.length=ps.length)
  (hb:∀(kV doc pm:Value)(an:Option Addr)(cdv ct:Value)(us:List Value),us.length=ps.length→bindArgs (F3 x x (dJ st) (bR st) (aJ st) .none kV doc pm an cdv ct) ⟨us,[]⟩=pure (ps.zip us))
  (hbody:∀(f:Addr)(cdv:Value)(A:Around)(outer:List Env)(s:Shared)(H:Hp)(vs:List V)(Q:VK)(E:XK),gD k (A.deeper (envOfC x (aJ st) s.heap.objs.size f cdv))→sp vs H Q E →
   ∃t,Wf (mD Wg P w K mg base N x (aJ st) f cdv A outer s H E).KH (bR st) t∧t {nx:=λ_ H'=>Q .non H',rt:=Q} (start N vs) H):sW P w K mg base x (k+1) ps.length sp:=by
 obtain⟨f,fd,F,m⟩:=R.ex
 exact⟨f,fd,ps,rfl,F.ok S len λcdv A outer s H vs Q E hr h=>hbody f cdv A outer s H vs Q E hr h,F.binds hb,F.kp,m⟩
theorem jc{X:Cx}{x:Str}{k n:Nat}{sp:Sp}{e:Expr}{es:List Expr}{p pos:Pos}{t:TA}(C:sW X.prog X.w X.K X.mg X.base x k n sp)(hr:gD k X.A)(hg:Gl X x)
  (ha:PA X (e::es) t) (hdb:(x==("__debug__" : Str))=false:=by decide) (he:starEach (e::es) X.env=(false,eval e X.env)::starEach es X.env:=by rfl) (hpl:(backTo pos (starEach es X.env)).any (·.1)=false:=by rfl) :
  PE X (.Call (.Name x p) (e::es) [] pos) (Qc sp [] E0 t):=by
 obtain⟨f,fd,ps,_,F,hb,hk,hm⟩:=C.ex
 exact aAB F hr hg hm hk hb .nil Qm ha hdb he hpl
theorem call_of{sp:Sp}{E:XK}{t:TA}{σ:St}{H:Hp}{Q:VK}(h:t σ H λvs H1=>sp vs H1 Q E):Qc sp [] E t σ H Q:=by
 unfold Qc
 have e:(λ(vs:List V) (H1:Hp)=>sp (vs++[]) H1 Q E)=λvs H1=>sp vs H1 Q E:=by funext vs H1;rw[G0]
 rw[e]
 exact h
theorem cT{H:Hp}{p:Addr}(h:H p=none)(o:HO):aU H (upd H p o):=λb u q=>by rw[bL (fX q h)];exact q
theorem aU.tup{K:aD}{H H':Hp}{a:Addr}{xs:List V}(e:aU H H')(h:vU K H a xs):vU K H' a xs:=by
 rcases h with (h | ⟨o,h⟩) | h
 ·exact .inl (.inl (e _ _ h))
 ·exact .inl (.inr ⟨o,e _ _ h⟩)
 ·exact .inr h
mutual
theorem aU.reads{K:aD}{H H':Hp}(e:aU H H'):∀(d:DV)(x:V),Reads K H d x→Reads K H' d x
 | .int i,x,h=>by unfold Reads at h ⊢;exact h
 | .non,x,h=>by unfold Reads at h ⊢;exact h
 | .lst ds,x,h=>by
  unfold Reads at h ⊢
  obtain⟨a,xs,r,hq,l⟩:=h
  exact⟨a,xs,r,e.seq hq,aU.EY e ds xs l⟩
 | .tup ds,x,h=>by
  unfold Reads at h ⊢
  obtain⟨a,xs,r,hq,l⟩:=h
  exact⟨a,xs,r,e.tup hq,aU.EY e ds xs l⟩
theorem aU.EY{K:aD}{H H':Hp}(e:aU H H'):∀(ds:List DV)(xs:List V),cP K H ds xs→cP K H' ds xs
 | [],xs,h=>by unfold cP at h ⊢;exact h
 | d::ds,xs,h=>by
  unfold cP at h ⊢
  obtain⟨y,ys,r,h1,h2⟩:=h
  exact⟨y,ys,r,aU.reads e d y h1,aU.EY e ds ys h2⟩
end
theorem nJ:∀ns:List Int,bQ (ns.map DV.int)=0
 | []=>by rw[F8];unfold bQ;rfl
 | n::ns=>by rw[D2];unfold bQ DV.depth;rw[nJ ns];rfl
theorem Xb{ns ms:List Int}:ns.map DV.int=ms.map DV.int↔ns=ms:=by
 constructor
 ·intro h
  have:∀(a b:Int),DV.int a=DV.int b→a=b:=λa b e=>by cases e;rfl
  exact(List.map_inj_right this).mp h
 ·rintro rfl;rfl
theorem aFF{xs:List V}{k:Int}{v:V}(h0:0≤k)(h:xs[k.toNat]?=some v):LK xs k=some v:=by
 have ek:k=((k.toNat:Nat):Int):=by omega
 rw[ek]
 exact aAE h
theorem aAV(z:Int)(ns:List Int):inV (.int z) (ns.map V.int)=decide (z∈ns):=by
 unfold inV
 rw[N8,S6,decide_eq_true_iff]
 constructor
 ·rintro⟨v,hv,e⟩
  obtain⟨m,hm,rfl⟩:=G8.mp hv
  have:m=z:=by simpa[eqV]using e
  subst this
  exact hm
 ·intro h
  exact⟨.int z,G8.mpr ⟨z,h,rfl⟩,by simp[eqV]⟩
theorem VG(ns:List Int):(ns.map V.int).all vZ=true:=by
 rw[V8]
 intro v hv
 obtain⟨m,_,rfl⟩:=G8.mp hv
 rfl
def mk(ns:List Int):List (Key×V):=ns.foldl (λkvs n=>putK kvs (G9 n) (V.bl true)) []
theorem aAW(ns:List Int)(n:Int):mk (ns++[n])=putK (mk ns) (G9 n) (V.bl true):=by
 unfold mk
 rw[List.foldl_append]
 rfl
theorem zY(ns:List Int):(mk ns).length≤ns.length:=by
 have h:∀(l:List Int),(mk l.reverse).length≤l.length:=by
  intro l
  induction l with
  | nil=>exact C8 _
  | cons a l ih=>
   rw[List.reverse_cons,aAW,E9]
   exact F5 (wC _ _ _) (O5 ih)
 have q:=h ns.reverse
 rw[List.reverse_reverse,List.length_reverse]at q
 exact q
theorem aDt{kvs:List (Key×V)}{ks:List Int}(e:kvs.map (·.1)=ks.map G9):(kvs.map λkv=>kV kv.1)=ks.map V.int:=by
 have:(kvs.map λkv=>kV kv.1)=(kvs.map (·.1)).map kV:=by rw[K0];rfl
 rw[this,e,K0]
 rfl
end L2
namespace L2
theorem iQ.at{scope:PySem.Scope}{N:List PySem.Str}{k:Nat}{fr:List Nat}(Wh:PySem.Scope)(oN:List PySem.Str)(h:MN Wh scope oN N k fr=true):iQ Wh scope oN N k fr:=iQ.of h
end L2
namespace L2
open PySem PySem.Spec PyProof.Rows
def vC(H:Hp)(p:Addr):Prop:=(∀xs,H p≠some (.tup xs))∧∀o xs,H p≠some (.Bf o (.tup xs))
theorem tM{H:Hp}{p:Addr}{xs:List V}(h:H p=some (.lst xs)):vC H p:=⟨λys e=>(by rw[h]at e;cases e),λo ys e=>(by rw[h]at e;cases e)⟩
theorem Jt{H:Hp}{p:Addr}{kvs:List (Key×V)}(h:H p=some (.dK kvs)):vC H p:=⟨λys e=>(by rw[h]at e;cases e),λo ys e=>(by rw[h]at e;cases e)⟩
theorem vU.upd{K:aD}{H:Hp}{a p:Addr}{xs:List V}{o:HO}(h:vU K H a xs)(n:vC H p):vU K (upd H p o) a xs:=by
 rcases h with (h | ⟨u,h⟩) | h
 ·exact .inl (.inl (by rw[bL (λz=>n.1 xs (by rw[←z];exact h))];exact h))
 ·exact .inl (.inr ⟨u,by rw[bL (λz=>n.2 u xs (by rw[←z];exact h))];exact h⟩)
 ·exact .inr h
mutual
def iI:DV→Bool
 | .int _=>true
 | .non=>true
 | .lst _=>false
 | .tup ds=>fZ ds
def fZ:List DV→Bool
 | []=>true
 | d::ds=>iI d&&fZ ds
end
mutual
theorem VH{K:aD}{H:Hp}{p:Addr}{o:HO}(n:vC H p):∀(d:DV)(x:V),iI d=true→Reads K H d x→Reads K (upd H p o) d x
 | .int i,x,_,h=>by unfold Reads at h ⊢;exact h
 | .non,x,_,h=>by unfold Reads at h ⊢;exact h
 | .lst ds,x,hi,h=>by unfold iI at hi;cases hi
 | .tup ds,x,hi,h=>by
  unfold iI at hi
  unfold Reads at h ⊢
  obtain⟨a,xs,r,hq,l⟩:=h
  exact⟨a,xs,r,hq.upd n,Ju n ds xs hi l⟩
theorem Ju{K:aD}{H:Hp}{p:Addr}{o:HO}(n:vC H p):∀(ds:List DV)(xs:List V),fZ ds=true→cP K H ds xs→cP K (upd H p o) ds xs
 | [],xs,_,h=>by unfold cP at h ⊢;exact h
 | d::ds,xs,hi,h=>by
  unfold fZ at hi
  rw[L6]at hi
  unfold cP at h ⊢
  obtain⟨y,ys,r,h1,h2⟩:=h
  exact⟨y,ys,r,VH n d y hi.1 h1,Ju n ds ys hi.2 h2⟩
end
end L2
namespace L2
open PySem PySem.Spec PyProof.Rows
section
variable{X:Cx}
theorem ixL(K:aD)(h:X.K=K:=by rfl):fj X (aAF K):=h▸LR
end
end L2
namespace L2
open PySem PySem.Spec PyProof.Rows
end L2
namespace L2
open PySem PySem.Spec PyProof.Rows
section
variable{X:Cx}
theorem Eg(hc:X.calm=true):lV X (.builtin "sorted") (λxs H Q=>∃(p:Addr)(kvs:List (Key×V))(ks:List Int),xs=[.ref p]∧Rd H p (.dK kvs)∧kvs.map (·.1)=ks.map G9∧ks.length<64∧∀l ms,H l=none→rising ks ms→Q (.ref l) (upd H l (.lst (ms.map V.int)))):=by
 intro pins s σ H xs us Q I r h
 obtain⟨p,kvs,ks,rfl,hq,hk,h64,q⟩:=h
 obtain⟨u,rfl,rx⟩:=vals1 r
 cases rx
 obtain⟨hz,hsm,vs,rel,dd⟩:=Bj I.hok hq
 obtain⟨ep,hat⟩:=dd.dictAt
 have hl:=KV.length rel
 refine Calls.call_function_entry kind_sorted plain_sorted entry_sorted (args_sorted1 _) ?_
 unfold Builtin.«sorted»
 refine wpAny_bind (m:=checkCount "sorted" 1 1 _) (wpAny_pure ?_)
 refine wpAny_bind (PySem.W.kdu_collect (A:=X.A.in1) (f9 (knd:=fK X.prog X.w) (kvs:=vs) (ep:=ep) hsm) (I.ok.hd hc) hat (by omega) λh' tk acc kp hacc=>?_)
 have hkv:=Qn (P:=X.prog) (w:=X.w) rel (us:=acc.toList) (by rw[G6];exact hacc.1) λj v ej=>hacc.2 j v (by rw[←K5];exact ej)
 rw[aDt hk]at hkv
 have hI:=intsAre_of hkv
 have hla:acc.toList.length=ks.length:=by rw[←hkv.length,B8]
 refine wpAny_bind (wpAny_newList ?_ (by rw[hla];exact N7 (nH (by omega))))
 have hoL:(h'.push (seqObj "list" acc.toList.toArray 0)).get? h'.objs.size=some (seqObj "list" acc.toList.toArray 0):=Heap.get?_push_size _ rfl
 refine wpAny_bind (wpAny_holding (wpAny_call_entry slot_list_sort ⟨_,hoL,rfl⟩ entry_list_sort (list_sort_tree hoL hI (by omega) λout ns' a1 a2 a3=>⟨_,rfl,?_⟩) (args_list_sort _)))
 refine wpAny_pure ⟨_,rfl,?_⟩
 obtain⟨e,he⟩:=sortedHeap_at (out:=out) hoL
 have hl2:ns'.length=ks.length:=a2.length_eq
 have I1:Inv X pins σ H {s with heap:=h',toks:=tk}:=I.kept (t':=tk) kp
 have hs:H h'.objs.size=none:=I1.hok.fresh (C8 _)
 have I2:=I1.laid (t':=tk) (a:=h'.objs.size) (o:=.lst (ns'.map V.int)) (h':=sortedHeap (h'.push (seqObj "list" acc.toList.toArray 0)) h'.objs.size acc.toList out)
  (λb o eb=>by
   have hlt:=Heap.lt_size eb
   rw[sortedHeap_old (D8 hlt) (by rw[Heap.size_push];exact L0 hlt)]
   exact Heap.get?_push_of_some _ eb) (C8 _)
  ⟨by rw[B8];exact N7 (nH (by omega)),out.toList,e,tE a1,by simpa[seqObj]using he⟩
 exact⟨.ref _,_,I2,rfl,q _ _ hs ⟨a2,a3⟩⟩
end
theorem zK:∀{l m:List Int},l.Pairwise (·<·)→m.Pairwise (·<·)→(∀j,j∈l↔j∈m)→l=m
  | [],[],_,_,_=>rfl
  | [],b::m,_,_,h=>absurd ((h b).mpr D1) (by simp)
  | a::l,[],_,_,h=>absurd ((h a).mp D1) (by simp)
  | a::l,b::m,h1,h2,h=>by
    obtain⟨h1a,h1b⟩:=G1.mp h1
    obtain⟨h2a,h2b⟩:=G1.mp h2
    have e:a=b:=by
      rcases C6.mp ((h a).mp D1)with q | q
      · exact q
      · rcases C6.mp ((h b).mpr D1)with q' | q'
        · exact q'.symm
        · have:=h2a a q
          have:=h1a b q'
          omega
    subst e
    rw[zK h1b h2b λj=>?_]
    constructor
    · intro hj
      rcases C6.mp ((h j).mp (C7 _ hj))with q | q
      · have:=h1a j hj
        omega
      · exact q
    · intro hj
      rcases C6.mp ((h j).mpr (C7 _ hj))with q | q
      · have:=h2a j hj
        omega
      · exact q
end L2


namespace L2
open PySem PySem.Spec PyProof.Rows
section
variable{X:Cx}
def Hu(ns:List Int)(m:Int):Prop:=m∈ns∧∀a∈ns,m≤a
theorem zL(ns:List Int):∀k,k<ns.length→argBest (λi j=>decide (ns.getD i 0<ns.getD j 0)) k≤k∧∀i,i≤k→ns.getD (argBest (λi j=>decide (ns.getD i 0<ns.getD j 0)) k) 0≤ns.getD i 0
 | 0,_=>⟨C8 _,λi hi=>by
  have:i=0:=by omega
  subst this
  exact f6 _⟩
 | k+1,h=>by
  obtain⟨h1,h2⟩:=zL ns k (by omega)
  unfold argBest
  split
  ·rename_i c
   have c':=of_decide_eq_true c
   refine⟨C8 _,λi hi=>?_⟩
   rcases L7 i (k+1)with q | q
   ·have:=h2 i (by omega)
    omega
   ·have:i=k+1:=by omega
    subst this
    exact f6 _
  ·rename_i c
   have c':=of_decide_eq_false (Bool.eq_false_iff.mpr c)
   refine⟨by omega,λi hi=>?_⟩
   rcases L7 i (k+1)with q | q
   ·exact h2 i (by omega)
   ·have:i=k+1:=by omega
    subst this
    omega
theorem VJ(hc:X.calm=true):lV X (.builtin "min") (λxs H Q=>∃(p:Addr)(ns:List Int),xs=[.ref p]∧pY X.K H p (ns.map V.int)∧0<ns.length∧∀m,Hu ns m→Q (.int m) H):=by
 intro pins s σ H xs us Q I r h
 obtain⟨p,ns,rfl,hq,hpos,q⟩:=h
 obtain⟨u,rfl,rx⟩:=vals1 r
 cases rx
 obtain⟨its,rv,pl,hz⟩:=I.list hq
 have hl:=pl.isList
 have hlen:=rv.length
 rw[B8]at hlen
 have hlt:p<s.heap.objs.size:=by obtain⟨_,e,_⟩:=hl;exact Heap.lt_size e
 have item:∀(i:Nat)(v:Value),its.toArray[i]?=some v→∃t,v=.int (ns.getD i 0) t∧i<ns.length:=λi v e=>by
  have e':its[i]?=some v:=by simpa using e
  have hi:=(D3.mp e').1
  obtain⟨u,eu,ru⟩:=rv.get (i:=i) (x:=.int (ns.getD i 0)) (by rw[C5,C4,B6 (by omega)];rfl)
  rw[e']at eu
  cases eu
  obtain⟨t,rfl⟩:=ru
  exact⟨t,rfl,by omega⟩
 refine call_min_walk (wpAny_pyIter_list hl ?_)
 refine⟨s.heap.objs.size,[s.heap.objs.size,p],[s.heap.objs.size],its.toArray.size,_,_,λi j=>decide (ns.getD i 0<ns.getD j 0),rfl,Walks.list (A:=X.A.in1) (I.ok.hd hc) _ p (D8 hlt) _,
  ⟨⟨_,Heap.get?_push_size _ rfl,rfl,rfl⟩,hl.push _⟩,λb hb=>?_,by rw[C9];omega,λi j vi vj s' Q' E' hi hj hQ=>?_,λv h' tk hP hk=>?_⟩
 ·show b<(s.heap.push _).objs.size
  rw[Heap.size_push]
  rcases C6.mp hb with e | hb
  ·rw[e];exact N3 _
  ·rw[E8.mp hb];exact L0 hlt
 ·obtain⟨t1,rfl,_⟩:=item i vi hi
  obtain⟨t2,rfl,_⟩:=item j vj hj
  exact HT.dz _ _ _ _ _ _ _ _ _ _ hQ
 ·obtain⟨t,rfl,hi⟩:=item _ v hP
  rw[C9,←hlen]at hi ⊢
  obtain⟨h1,h2⟩:=zL ns (ns.length-1) (by omega)
  refine⟨.int _,H,I.kept (aAT hk),⟨t,rfl⟩,q _ ⟨?_,λa ha=>?_⟩⟩
  ·rw[C4,B6 hi]
   exact Q6 _
  ·obtain⟨i,hi',rfl⟩:=O3 ha
   have:=h2 i (by omega)
   rw[show ns.getD i 0=ns[i]from by rw[C4,B6 hi'];rfl]at this
   exact this
open SeqAt in
theorem aDu(hu:X.A.units+64<cLine):sY X (compareOp .NotEq) (λx y H Q=>∃ds es,Reads X.K H (.tup ds) x∧Reads X.K H (.tup es) y∧bQ ds≤32∧Q (.bl (!wD (.tup ds) (.tup es))) H):=by
 intro pins s σ H x y v u Q I rx ry h
 obtain⟨ds,es,r1,r2,hd,q⟩:=h
 unfold Reads at r1 r2
 obtain⟨a,xs,rfl,hq1,VF⟩:=r1
 obtain⟨b,ys,rfl,hq2,DY⟩:=r2
 cases rx
 cases ry
 obtain⟨Js,v1,Oc,_⟩:=I.tuple hq1
 obtain⟨its2,v2,Xa,_⟩:=I.tuple hq2
 have e1:Js.toArray.size=ds.length:=by rw[C9,←v1.length,VF.length]
 have e2:its2.toArray.size=es.length:=by rw[C9,←v2.length,DY.length]
 have rc:RcNeAt X.A s (.ref a) (.ref b) (!wD (.tup ds) (.tup es)):=by
  have z:=RcNeAt.tuples (A:=X.A) (s:=s) (l:=a) (b:=b) Oc Xa (by omega) (Jr I 32 X.A (λd e x y u v A a1 a2 a3 a4 a5 a6=>Uc I 32 d e x y u v A a1 a2 a3 a4 a5 a6) ds es xs ys Js its2 hd (by omega) VF DY v1 v2)
  rw[e1,e2]at z
  by_cases hl:ds.length=es.length
  ·rw[←hl,b8,oF hl]at z
   rw[MT]
   simpa using z
  ·rw[iH (by intro z;cases z;exact hl rfl)]
   have zz:(ds.length==es.length)=false:=by simpa using hl
   rw[zz,j5]at z
   exact z
 exact rc X.prog X.w X.xe _ ⟨.bl _,H,I,rfl,q⟩
end
end L2


namespace L2
open PySem PySem.Spec PyProof.Rows
inductive D where
  | non | bl (b:Bool) | int (i:Int) | str (x:Str)
  | lst (ds:List D) | tup (ds:List D)
  | dk (ks:List Key) (ds:List D)
  | dt (ks:List (List Key)) (ds:List D)
  | ins (C:Addr) (nm:List Str) (ds:List D)
abbrev Fp:=Addr→Prop
def Apart(A B:Fp):Prop:=∀x,A x→¬B x
def Is(A B:Fp):Prop:=∀x,A x↔B x
def None(A:Fp):Prop:=∀x,¬A x
abbrev fH(A B:Fp):Fp:=λx=>A x∨B x
mutual
def Rv(K:aD)(H:Hp):D→V→Prop
 | .non,v=>v=.non
 | .bl b,v=>v=.bl b
 | .int i,v=>v=.int i
 | .str x,v=>v=.str x
 | .lst ds,v=>∃a xs,v=.ref a∧pY K H a xs∧eE K H ds xs
 | .tup ds,v=>∃a xs,v=.ref a∧vU K H a xs∧eE K H ds xs
 | .dk ks ds,v=>∃a xs,v=.ref a∧Rd H a (.dK (ks.zip xs))∧ks.length=xs.length∧eE K H ds xs
 | .dt ks ds,v=>∃a xs,v=.ref a∧Rd H a (.dT (ks.zip xs))∧ks.length=xs.length∧eE K H ds xs
 | .ins C nm ds,v=>∃a dx xs,v=.ref a∧H a=some (.ins C dx (nm.zip xs))∧nm.length=xs.length∧eE K H ds xs
def eE(K:aD)(H:Hp):List D→List V→Prop
 | [],xs=>xs=[]
 | d::ds,xs=>∃y ys,xs=y::ys∧Rv K H d y∧eE K H ds ys
end
theorem aU.rd{H H':Hp}(e:aU H H'){a:Addr}{u:HO}(h:Rd H a u):Rd H' a u:=by
 rcases h with h | ⟨o,h⟩
 ·exact .inl (e _ _ h)
 ·exact .inr ⟨o,e _ _ h⟩
mutual
theorem aU.rv{K:aD}{H H':Hp}(e:aU H H'):∀(d:D)(v:V),Rv K H d v→Rv K H' d v
 | .non,v,h=>by unfold Rv at h ⊢;exact h
 | .bl _,v,h=>by unfold Rv at h ⊢;exact h
 | .int _,v,h=>by unfold Rv at h ⊢;exact h
 | .str _,v,h=>by unfold Rv at h ⊢;exact h
 | .lst ds,v,h=>by unfold Rv at h ⊢;obtain⟨a,xs,r,hq,l⟩:=h;exact⟨a,xs,r,e.seq hq,aU.NB e ds xs l⟩
 | .tup ds,v,h=>by unfold Rv at h ⊢;obtain⟨a,xs,r,hq,l⟩:=h;exact⟨a,xs,r,e.tup hq,aU.NB e ds xs l⟩
 | .dk ks ds,v,h=>by unfold Rv at h ⊢;obtain⟨a,xs,r,hq,hl,l⟩:=h;exact⟨a,xs,r,e.rd hq,hl,aU.NB e ds xs l⟩
 | .dt ks ds,v,h=>by unfold Rv at h ⊢;obtain⟨a,xs,r,hq,hl,l⟩:=h;exact⟨a,xs,r,e.rd hq,hl,aU.NB e ds xs l⟩
 | .ins C nm ds,v,h=>by unfold Rv at h ⊢;obtain⟨a,dx,xs,r,hq,hl,l⟩:=h;exact⟨a,dx,xs,r,e _ _ hq,hl,aU.NB e ds xs l⟩
theorem aU.NB{K:aD}{H H':Hp}(e:aU H H'):∀(ds:List D)(xs:List V),eE K H ds xs→eE K H' ds xs
 | [],xs,h=>by unfold eE at h ⊢;exact h
 | d::ds,xs,h=>by unfold eE at h ⊢;obtain⟨y,ys,r,h1,h2⟩:=h;exact⟨y,ys,r,aU.rv e d y h1,aU.NB e ds ys h2⟩
end
theorem eE.length{K:aD}{H:Hp}:∀{ds:List D} {xs:List V},eE K H ds xs→xs.length=ds.length
 | [],xs,h=>by unfold eE at h;subst h;rfl
 | d::ds,xs,h=>by unfold eE at h;obtain⟨y,ys,rfl,_,h2⟩:=h;rw[E9,E9,eE.length h2]
theorem eE.get{K:aD}{H:Hp}:∀{ds:List D} {xs:List V} {i:Nat} {d:D},eE K H ds xs→ds[i]?=some d→∃x,xs[i]?=some x∧Rv K H d x
 | [],xs,i,d,h,e=>by simp at e
 | d'::ds,xs,0,d,h,e=>by unfold eE at h;obtain⟨y,ys,rfl,h1,_⟩:=h;simp at e;subst e;exact⟨y,rfl,h1⟩
 | d'::ds,xs,i+1,d,h,e=>by
  unfold eE at h
  obtain⟨y,ys,rfl,_,h2⟩:=h
  obtain⟨x,e1,e2⟩:=eE.get (i:=i) (d:=d) h2 (by simpa using e)
  exact⟨x,by simpa using e1,e2⟩
theorem eE.of{K:aD}{H:Hp}:∀{ds:List D} {xs:List V},xs.length=ds.length→(∀(i:Nat)(d:D)(x:V),ds[i]?=some d→xs[i]?=some x→Rv K H d x)→eE K H ds xs
 | [],xs,hl,_=>by unfold eE;exact I0 hl
 | d::ds,[],hl,_=>by simp at hl
 | d::ds,x::xs,hl,h=>by
  unfold eE
  exact⟨x,xs,rfl,h 0 d x rfl rfl,eE.of (by simpa using hl) λi e y h1 h2=>h (i+1) e y (by simpa using h1) (by simpa using h2)⟩
def gY{α β:Type}(R:α→Fp→β→Prop):List α→Fp→List β→Prop
 | [],A,ys=>None A∧ys=[]
 | d::ds,A,ys=>∃y yt A1 A2,ys=y::yt∧Apart A1 A2∧Is A (fH A1 A2)∧R d A1 y∧gY R ds A2 yt
section
variable{α β:Type}{R R':α→Fp→β→Prop}
theorem gY.congr:∀{ds:List α} {A A':Fp} {ys:List β},gY R ds A ys→Is A A'→gY R ds A' ys
 | [],A,A',ys,h,e=>⟨λx q=>h.1 x ((e x).mpr q),h.2⟩
 | d::ds,A,A',ys,⟨y,yt,A1,A2,h1,h2,h3,h4⟩,e=>⟨y,yt,A1,A2,h1,h2,λx=>((e x).symm).trans (h3 x),h4⟩
theorem gY.mono:∀{ds:List α} {A:Fp} {ys:List β},gY R ds A ys→(∀e B z,(∀x,B x→A x)→R e B z→R' e B z)→gY R' ds A ys
 | [],A,ys,h,_=>h
 | d::ds,A,ys,⟨y,yt,A1,A2,h1,h2,h3,h4,h5⟩,m=>
  ⟨y,yt,A1,A2,h1,h2,h3,m _ _ _ (λx q=>(h3 x).mpr (.inl q)) h4,h5.mono λe B z hb=>m e B z λx q=>(h3 x).mpr (.inr (hb x q))⟩
theorem gY.len:∀{ds:List α} {A:Fp} {ys:List β},gY R ds A ys→ys.length=ds.length
 | [],A,ys,h=>by rw[h.2];rfl
 | d::ds,A,ys,⟨y,yt,A1,A2,h1,h2,h3,h4,h5⟩=>by rw[h1,E9,E9,h5.len]
theorem gY.focus:∀{ds:List α} {A:Fp} {ys:List β} {i:Nat} {d:α},gY R ds A ys→ds[i]?=some d→∃y A1 C,ys[i]?=some y∧Apart A1 C∧Is A (fH A1 C)∧R d A1 y ∧
    ∀(R':α→Fp→β→Prop),(∀e B z,(∀x,B x→C x)→R e B z→R' e B z)→∀d' y' A1',Apart A1' C→R' d' A1' y'→gY R' (ds.set i d') (fH A1' C) (ys.set i y')
  | [],A,ys,i,d,h,e=>by simp at e
  | d0::ds,A,ys,0,d,⟨y,yt,A1,A2,h1,h2,h3,h4,h5⟩,e=>by
    simp at e
    subst e h1
    exact⟨y,A1,A2,rfl,h2,h3,h4,λR' m d' y' A1' ap r=>⟨y',yt,A1',A2,rfl,ap,λx=>Iff.rfl,r,h5.mono m⟩⟩
  | d0::ds,A,ys,i+1,d,⟨y,yt,A1,A2,h1,h2,h3,h4,h5⟩,e=>by
    subst h1
    obtain⟨z,B1,C,e1,ap,hA,r,k⟩:=gY.focus (i:=i) (d:=d) h5 (by simpa using e)
    refine⟨z,B1,fH A1 C,by simpa using e1,?_,?_,r,λR' m d' y' A1' ap' r'=>?_⟩
    · intro x hx hc
      rcases hc with hc | hc
      · exact h2 x hc ((hA x).mpr (.inl hx))
      · exact ap x hx hc
    · intro x
      rw[h3 x]
      constructor
      · rintro(q | q)
        · exact .inr (.inl q)
        · rcases(hA x).mp q with q | q
          · exact .inl q
          · exact .inr (.inr q)
      · rintro(q | q | q)
        · exact .inr ((hA x).mpr (.inl q))
        · exact .inl q
        · exact .inr ((hA x).mpr (.inr q))
    · refine⟨y,_,A1,fH A1' C,rfl,?_,?_,m _ _ _ (λx q=>.inl q) h4,k R' (λe B z hb=>m e B z λx q=>.inr (hb x q)) d' y' A1' (λx q q'=>ap' x q (.inr q')) r'⟩
      · intro x q q'
        rcases q' with q' | q'
        · exact ap' x q' (.inl q)
        · exact h2 x q ((hA x).mpr (.inr q'))
      · intro x
        show (A1' x∨A1 x∨C x)↔(A1 x∨A1' x∨C x)
        constructor
        · rintro(q | q | q)
          · exact .inr (.inl q)
          · exact .inl q
          · exact .inr (.inr q)
        · rintro(q | q | q)
          · exact .inr (.inl q)
          · exact .inl q
          · exact .inr (.inr q)
theorem gY.snoc:∀{ds:List α} {A A1:Fp} {ys:List β} {d:α} {y:β},gY R ds A ys→R d A1 y→Apart A A1→gY R (ds++[d]) (fH A A1) (ys++[y])
 | [],A,A1,ys,d,y,h,r,ap=>by
  rw[h.2]
  exact⟨y,[],A1,λ_=>False,rfl,λ_ _ z=>z,λx=>⟨λq=>q.elim (λq=>absurd q (h.1 x)) .inl,λq=>q.elim .inr False.elim⟩,r,λ_ z=>z,rfl⟩
 | d0::ds,A,A1,ys,d,y,⟨y0,yt,B1,B2,h1,h2,h3,h4,h5⟩,r,ap=>by
  subst h1
  refine⟨y0,yt++[y],B1,fH B2 A1,rfl,?_,?_,h4,gY.snoc h5 r λx q=>ap x ((h3 x).mpr (.inr q))⟩
  ·intro x q q'
   rcases q' with q' | q'
   ·exact h2 x q q'
   ·exact ap x ((h3 x).mpr (.inl q)) q'
  ·intro x
   show (A x∨A1 x)↔(B1 x∨B2 x∨A1 x)
   rw[h3 x]
   exact or_assoc
end
mutual
def Ow(K:aD)(H:Hp):D→Fp→V→Prop
 | .non,A,v=>None A∧v=.non
 | .bl b,A,v=>None A∧v=.bl b
 | .int i,A,v=>None A∧v=.int i
 | .str x,A,v=>None A∧v=.str x
 | .lst ds,A,v=>∃a xs B,v=.ref a∧H a=some (.lst xs)∧¬B a∧Is A (fH (·=a) B)∧eY K H ds B xs
 | .tup ds,A,v=>∃a xs,v=.ref a∧vU K H a xs∧eY K H ds A xs
 | .dk ks ds,A,v=>∃a xs B,v=.ref a∧H a=some (.dK (ks.zip xs))∧ks.length=xs.length∧¬B a∧Is A (fH (·=a) B)∧eY K H ds B xs
 | .dt ks ds,A,v=>∃a xs B,v=.ref a∧H a=some (.dT (ks.zip xs))∧ks.length=xs.length∧¬B a∧Is A (fH (·=a) B)∧eY K H ds B xs
 | .ins C nm ds,A,v=>∃a dx xs B,v=.ref a∧H a=some (.ins C dx (nm.zip xs))∧H dx=some (.own a)∧nm.length=xs.length∧¬B a∧¬B dx∧Is A (fH (λx=>x=a∨x=dx) B)∧eY K H ds B xs
def eY(K:aD)(H:Hp):List D→Fp→List V→Prop
 | [],A,ys=>None A∧ys=[]
 | d::ds,A,ys=>∃y yt A1 A2,ys=y::yt∧Apart A1 A2∧Is A (fH A1 A2)∧Ow K H d A1 y∧eY K H ds A2 yt
end
theorem cN{K:aD}{H:Hp}:∀{ds:List D} {A:Fp} {ys:List V},eY K H ds A ys↔gY (Ow K H) ds A ys
 | [],A,ys=>by unfold eY gY;exact Iff.rfl
 | d::ds,A,ys=>by
  unfold eY gY
  constructor
  ·rintro⟨y,yt,A1,A2,h1,h2,h3,h4,h5⟩;exact⟨y,yt,A1,A2,h1,h2,h3,h4,cN.mp h5⟩
  ·rintro⟨y,yt,A1,A2,h1,h2,h3,h4,h5⟩;exact⟨y,yt,A1,A2,h1,h2,h3,h4,cN.mpr h5⟩
def Bm(K:aD)(H H':Hp):Prop:=∀a xs,vU K H a xs→vU K H' a xs
theorem aU.tk{K:aD}{H H':Hp}(e:aU H H'):Bm K H H':=λ_ _ h=>e.tup h
theorem Ow.congr{K:aD}{H:Hp}{d:D}{A A':Fp}{v:V}(h:Ow K H d A v)(e:Is A A'):Ow K H d A' v:=by
 cases d with
 | non=>unfold Ow at h ⊢;exact⟨λx q=>h.1 x ((e x).mpr q),h.2⟩
 | bl b=>unfold Ow at h ⊢;exact⟨λx q=>h.1 x ((e x).mpr q),h.2⟩
 | int b=>unfold Ow at h ⊢;exact⟨λx q=>h.1 x ((e x).mpr q),h.2⟩
 | str b=>unfold Ow at h ⊢;exact⟨λx q=>h.1 x ((e x).mpr q),h.2⟩
 | lst ds=>unfold Ow at h ⊢;obtain⟨a,xs,B,h1,h2,h3,h4,h5⟩:=h;exact⟨a,xs,B,h1,h2,h3,λx=>(e x).symm.trans (h4 x),h5⟩
 | tup ds=>unfold Ow at h ⊢;obtain⟨a,xs,h1,h2,h3⟩:=h;exact⟨a,xs,h1,h2,cN.mpr ((cN.mp h3).congr e)⟩
 | dk ks ds=>unfold Ow at h ⊢;obtain⟨a,xs,B,h1,h2,h2',h3,h4,h5⟩:=h;exact⟨a,xs,B,h1,h2,h2',h3,λx=>(e x).symm.trans (h4 x),h5⟩
 | dt ks ds=>unfold Ow at h ⊢;obtain⟨a,xs,B,h1,h2,h2',h3,h4,h5⟩:=h;exact⟨a,xs,B,h1,h2,h2',h3,λx=>(e x).symm.trans (h4 x),h5⟩
 | ins C nm ds=>unfold Ow at h ⊢;obtain⟨a,dx,xs,B,h1,h2,h2',h3,h3',h3'',h4,h5⟩:=h;exact⟨a,dx,xs,B,h1,h2,h2',h3,h3',h3'',λx=>(e x).symm.trans (h4 x),h5⟩
mutual
theorem Ow.frame{K:aD}{H H':Hp}(t:Bm K H H'):∀(d:D)(A:Fp)(v:V),Ow K H d A v→(∀a,A a→H' a=H a)→Ow K H' d A v
 | .non,A,v,h,f=>by unfold Ow at h ⊢;exact h
 | .bl _,A,v,h,f=>by unfold Ow at h ⊢;exact h
 | .int _,A,v,h,f=>by unfold Ow at h ⊢;exact h
 | .str _,A,v,h,f=>by unfold Ow at h ⊢;exact h
 | .lst ds,A,v,h,f=>by
  unfold Ow at h ⊢
  obtain⟨a,xs,B,h1,h2,h3,h4,h5⟩:=h
  exact⟨a,xs,B,h1,(f a ((h4 a).mpr (.inl rfl))).trans h2,h3,h4,eY.frame t ds B xs h5 λb q=>f b ((h4 b).mpr (.inr q))⟩
 | .tup ds,A,v,h,f=>by unfold Ow at h ⊢;obtain⟨a,xs,h1,h2,h3⟩:=h;exact⟨a,xs,h1,t _ _ h2,eY.frame t ds A xs h3 f⟩
 | .dk ks ds,A,v,h,f=>by
  unfold Ow at h ⊢
  obtain⟨a,xs,B,h1,h2,h2',h3,h4,h5⟩:=h
  exact⟨a,xs,B,h1,(f a ((h4 a).mpr (.inl rfl))).trans h2,h2',h3,h4,eY.frame t ds B xs h5 λb q=>f b ((h4 b).mpr (.inr q))⟩
 | .dt ks ds,A,v,h,f=>by
  unfold Ow at h ⊢
  obtain⟨a,xs,B,h1,h2,h2',h3,h4,h5⟩:=h
  exact⟨a,xs,B,h1,(f a ((h4 a).mpr (.inl rfl))).trans h2,h2',h3,h4,eY.frame t ds B xs h5 λb q=>f b ((h4 b).mpr (.inr q))⟩
 | .ins C nm ds,A,v,h,f=>by
  unfold Ow at h ⊢
  obtain⟨a,dx,xs,B,h1,h2,h2',h3,h3',h3'',h4,h5⟩:=h
  exact⟨a,dx,xs,B,h1,(f a ((h4 a).mpr (.inl (.inl rfl)))).trans h2,(f dx ((h4 dx).mpr (.inl (.inr rfl)))).trans h2',h3,h3',h3'',h4,eY.frame t ds B xs h5 λb q=>f b ((h4 b).mpr (.inr q))⟩
theorem eY.frame{K:aD}{H H':Hp}(t:Bm K H H'):∀(ds:List D)(A:Fp)(ys:List V),eY K H ds A ys→(∀a,A a→H' a=H a)→eY K H' ds A ys
 | [],A,ys,h,f=>by unfold eY at h ⊢;exact h
 | d::ds,A,ys,h,f=>by
  unfold eY at h ⊢
  obtain⟨y,yt,A1,A2,h1,h2,h3,h4,h5⟩:=h
  exact⟨y,yt,A1,A2,h1,h2,h3,Ow.frame t d A1 y h4 λb q=>f b ((h3 b).mpr (.inl q)),eY.frame t ds A2 yt h5 λb q=>f b ((h3 b).mpr (.inr q))⟩
end
mutual
theorem Ow.rv{K:aD}{H:Hp}:∀(d:D)(A:Fp)(v:V),Ow K H d A v→Rv K H d v
 | .non,A,v,h=>by unfold Ow at h;unfold Rv;exact h.2
 | .bl _,A,v,h=>by unfold Ow at h;unfold Rv;exact h.2
 | .int _,A,v,h=>by unfold Ow at h;unfold Rv;exact h.2
 | .str _,A,v,h=>by unfold Ow at h;unfold Rv;exact h.2
 | .lst ds,A,v,h=>by unfold Ow at h;unfold Rv;obtain⟨a,xs,B,h1,h2,h3,h4,h5⟩:=h;exact⟨a,xs,h1,pY.of h2,eY.rv ds B xs h5⟩
 | .tup ds,A,v,h=>by unfold Ow at h;unfold Rv;obtain⟨a,xs,h1,h2,h3⟩:=h;exact⟨a,xs,h1,h2,eY.rv ds A xs h3⟩
 | .dk ks ds,A,v,h=>by unfold Ow at h;unfold Rv;obtain⟨a,xs,B,h1,h2,h2',h3,h4,h5⟩:=h;exact⟨a,xs,h1,.inl h2,h2',eY.rv ds B xs h5⟩
 | .dt ks ds,A,v,h=>by unfold Ow at h;unfold Rv;obtain⟨a,xs,B,h1,h2,h2',h3,h4,h5⟩:=h;exact⟨a,xs,h1,.inl h2,h2',eY.rv ds B xs h5⟩
 | .ins C nm ds,A,v,h=>by unfold Ow at h;unfold Rv;obtain⟨a,dx,xs,B,h1,h2,h2',h3,h3',h3'',h4,h5⟩:=h;exact⟨a,dx,xs,h1,h2,h3,eY.rv ds B xs h5⟩
theorem eY.rv{K:aD}{H:Hp}:∀(ds:List D)(A:Fp)(ys:List V),eY K H ds A ys→eE K H ds ys
 | [],A,ys,h=>by unfold eY at h;unfold eE;exact h.2
 | d::ds,A,ys,h=>by unfold eY at h;unfold eE;obtain⟨y,yt,A1,A2,h1,h2,h3,h4,h5⟩:=h;exact⟨y,yt,h1,Ow.rv d A1 y h4,eY.rv ds A2 yt h5⟩
end
def nM(H:Hp)(a:Addr):Prop:=(∃o,H a=some o)∧vC H a
mutual
theorem Ow.cells{K:aD}{H:Hp}:∀(d:D)(A:Fp)(v:V),Ow K H d A v→∀a,A a→nM H a
 | .non,A,v,h,a,q=>by unfold Ow at h;exact absurd q (h.1 a)
 | .bl _,A,v,h,a,q=>by unfold Ow at h;exact absurd q (h.1 a)
 | .int _,A,v,h,a,q=>by unfold Ow at h;exact absurd q (h.1 a)
 | .str _,A,v,h,a,q=>by unfold Ow at h;exact absurd q (h.1 a)
 | .lst ds,A,v,h,a,q=>by
  unfold Ow at h
  obtain⟨p,xs,B,h1,h2,h3,h4,h5⟩:=h
  rcases(h4 a).mp q with z | z
  ·cases z;exact⟨⟨_,h2⟩,tM h2⟩
  ·exact eY.cells ds B xs h5 a z
 | .tup ds,A,v,h,a,q=>by unfold Ow at h;obtain⟨p,xs,h1,h2,h3⟩:=h;exact eY.cells ds A xs h3 a q
 | .dk ks ds,A,v,h,a,q=>by
  unfold Ow at h
  obtain⟨p,xs,B,h1,h2,h2',h3,h4,h5⟩:=h
  rcases(h4 a).mp q with z | z
  ·cases z;exact⟨⟨_,h2⟩,Jt h2⟩
  ·exact eY.cells ds B xs h5 a z
 | .dt ks ds,A,v,h,a,q=>by
  unfold Ow at h
  obtain⟨p,xs,B,h1,h2,h2',h3,h4,h5⟩:=h
  rcases(h4 a).mp q with z | z
  ·cases z;exact⟨⟨_,h2⟩,λys e=>(by rw[h2]at e;cases e),λo ys e=>(by rw[h2]at e;cases e)⟩
  ·exact eY.cells ds B xs h5 a z
 | .ins C nm ds,A,v,h,a,q=>by
  unfold Ow at h
  obtain⟨p,dx,xs,B,h1,h2,h2',h3,h3',h3'',h4,h5⟩:=h
  rcases(h4 a).mp q with (z | z) | z
  ·cases z;exact⟨⟨_,h2⟩,λys e=>(by rw[h2]at e;cases e),λo ys e=>(by rw[h2]at e;cases e)⟩
  ·cases z;exact⟨⟨_,h2'⟩,λys e=>(by rw[h2']at e;cases e),λo ys e=>(by rw[h2']at e;cases e)⟩
  ·exact eY.cells ds B xs h5 a z
theorem eY.cells{K:aD}{H:Hp}:∀(ds:List D)(A:Fp)(ys:List V),eY K H ds A ys→∀a,A a→nM H a
 | [],A,ys,h,a,q=>by unfold eY at h;exact absurd q (h.1 a)
 | d::ds,A,ys,h,a,q=>by
  unfold eY at h
  obtain⟨y,yt,A1,A2,h1,h2,h3,h4,h5⟩:=h
  rcases(h3 a).mp q with z | z
  ·exact Ow.cells d A1 y h4 a z
  ·exact eY.cells ds A2 yt h5 a z
end
mutual
def D.iI:D→Bool
  | .non=>true | .bl _=>true | .int _=>true | .str _=>true
  | .tup ds=>D.fZ ds
  | _=>false
def D.fZ:List D→Bool
  | []=>true
  | d::ds=>D.iI d&&D.fZ ds
end
abbrev nil:Fp:=λ_=>False
mutual
theorem wF{K:aD}{H:Hp}:∀(d:D)(v:V),d.iI=true→Rv K H d v→Ow K H d nil v
 | .non,v,_,h=>by unfold Rv at h;unfold Ow;exact⟨λ_ z=>z,h⟩
 | .bl _,v,_,h=>by unfold Rv at h;unfold Ow;exact⟨λ_ z=>z,h⟩
 | .int _,v,_,h=>by unfold Rv at h;unfold Ow;exact⟨λ_ z=>z,h⟩
 | .str _,v,_,h=>by unfold Rv at h;unfold Ow;exact⟨λ_ z=>z,h⟩
 | .tup ds,v,i,h=>by unfold D.iI at i;unfold Rv at h;unfold Ow;obtain⟨a,xs,h1,h2,h3⟩:=h;exact⟨a,xs,h1,h2,Bo ds xs i h3⟩
 | .lst ds,v,i,h=>by unfold D.iI at i;cases i
 | .dk _ ds,v,i,h=>by unfold D.iI at i;cases i
 | .dt _ ds,v,i,h=>by unfold D.iI at i;cases i
 | .ins _ _ ds,v,i,h=>by unfold D.iI at i;cases i
theorem Bo{K:aD}{H:Hp}:∀(ds:List D)(ys:List V),D.fZ ds=true→eE K H ds ys→eY K H ds nil ys
 | [],ys,_,h=>by unfold eE at h;unfold eY;exact⟨λ_ z=>z,h⟩
 | d::ds,ys,i,h=>by
  unfold D.fZ at i
  rw[L6]at i
  unfold eE at h
  unfold eY
  obtain⟨y,yt,h1,h2,h3⟩:=h
  exact⟨y,yt,nil,nil,h1,λ_ z _=>z,λx=>⟨False.elim,λz=>z.elim id id⟩,wF d y i.1 h2,Bo ds yt i.2 h3⟩
end
open Classical in
noncomputable def out(H:Hp)(A:Fp):Hp:=λa=>if A a then none else H a
theorem aDv{H:Hp}{A:Fp}{a:Addr}(h:¬A a):out H A a=H a:=by unfold out;rw[if_neg h]
theorem bD{H:Hp}{A:Fp}{a:Addr}{o:HO}:out H A a=some o↔¬A a∧H a=some o:=by
 unfold out
 split
 ·rename_i h;exact⟨λz=>(by cases z),λz=>absurd h z.1⟩
 ·rename_i h;exact⟨λz=>⟨h,z⟩,λz=>z.2⟩
theorem jK(H:Hp)(A:Fp):aU (out H A) H:=λb o h=>(bD.mp h).2
theorem Ud{K:aD}{H:Hp}{A:Fp}(h:∀a,A a→vC H a):Bm K H (out H A):=λa xs q=>by
 rcases q with (q | ⟨o,q⟩) | q
 ·exact .inl (.inl (bD.mpr ⟨λz=>(h a z).1 _ q,q⟩))
 ·exact .inl (.inr ⟨o,bD.mpr ⟨λz=>(h a z).2 _ _ q,q⟩⟩)
 ·exact .inr q
theorem Ow.out{K:aD}{H:Hp}{d:D}{A A':Fp}{v:V}(h:Ow K H d A' v)(ap:Apart A' A)(c:∀a,A a→vC H a):Rv K (out H A) d v:=
 Ow.rv d A' v (Ow.frame (Ud c) d A' v h λa q=>aDv (ap a q))
end L2


namespace L2
open PySem PySem.Spec PyProof.Rows
abbrev DE:=List (Option D)
abbrev FE:=DE→Option D
abbrev FA:=DE→Option (List D)
abbrev FT:=DE→Option Bool
def yV(K:aD)(H:Hp)(e:DE)(σ:St):Prop:=∀(i:Nat)(d:D),e[i]?=some (some d)→∃v,σ[i]?=some (some v)∧Rv K H d v
theorem yV.same{K:aD}{H H':Hp}{e:DE}{σ:St}(h:yV K H e σ)(s:aU H H'):yV K H' e σ:=λi d q=>let ⟨v,h1,h2⟩:=h i d q;⟨v,h1,s.rv _ _ h2⟩
structure Zn(K:aD)(N:Fp)(Z H:Hp):Prop where
 sm:aU Z H
 tk:Bm K H Z
 no:∀a,N a→Z a=none∧¬H a=none
theorem Zn.self(K:aD)(H:Hp):Zn K nil H H:=⟨aU.refl _,λ_ _ h=>h,λ_ z=>z.elim⟩
theorem Bm.trans{K:aD}{H H1 H2:Hp}(a:Bm K H H1)(b:Bm K H1 H2):Bm K H H2:=λp xs h=>b p xs (a p xs h)
theorem Ow.same{K:aD}{H H':Hp}{d:D}{A:Fp}{v:V}(h:Ow K H d A v)(s:aU H H'):Ow K H' d A v:=
 Ow.frame s.tk d A v h λa q=>by
  obtain⟨⟨o,e⟩,_⟩:=Ow.cells d A v h a q
  rw[e];exact s a o e
theorem eY.same{K:aD}{H H':Hp}{ds:List D}{A:Fp}{vs:List V}(h:eY K H ds A vs)(s:aU H H'):eY K H' ds A vs:=
 eY.frame s.tk ds A vs h λa q=>by
  obtain⟨⟨o,e⟩,_⟩:=eY.cells ds A vs h a q
  rw[e];exact s a o e
def Nu(K:aD)(H H':Hp)(d:D)(v:V):Prop:=∃A,Ow K H' d A v∧∀a,A a→H a=none
def Ue(K:aD)(H H':Hp)(ds:List D)(vs:List V):Prop:=∃A,eY K H' ds A vs∧∀a,A a→H a=none
theorem Nu.rv{K:aD}{H H':Hp}{d:D}{v:V}(h:Nu K H H' d v):Rv K H' d v:=let ⟨A,o,_⟩:=h;Ow.rv d A v o
theorem Ue.rv{K:aD}{H H':Hp}{ds:List D}{vs:List V}(h:Ue K H H' ds vs):eE K H' ds vs:=let ⟨A,o,_⟩:=h;eY.rv ds A vs o
theorem Nu.same{K:aD}{H H' H2:Hp}{d:D}{v:V}(h:Nu K H H' d v)(s:aU H' H2):Nu K H H2 d v:=let ⟨A,o,f⟩:=h;⟨A,o.same s,f⟩
theorem Nu.back{K:aD}{H0 H H':Hp}{d:D}{v:V}(h:Nu K H H' d v)(s:aU H0 H):Nu K H0 H' d v:=let ⟨A,o,f⟩:=h;⟨A,o,λa q=>s.free (f a q)⟩
theorem Nu.iI{K:aD}{H H':Hp}{d:D}{v:V}(i:d.iI=true)(h:Rv K H' d v):Nu K H H' d v:=⟨nil,wF d v i h,λ_ z=>z.elim⟩
theorem Ue.fZ{K:aD}{H H':Hp}{ds:List D}{vs:List V}(i:D.fZ ds=true)(h:eE K H' ds vs):Ue K H H' ds vs:=⟨nil,Bo ds vs i h,λ_ z=>z.elim⟩
open Classical in
noncomputable def Xc(Z H H':Hp):Hp:=λa=>if H a=none then H' a else Z a
theorem Bp{Z H H':Hp}{a:Addr}(h:H a=none):Xc Z H H' a=H' a:=by unfold Xc;rw[if_pos h]
theorem Jv{Z H H':Hp}{a:Addr}(h:¬H a=none):Xc Z H H' a=Z a:=by unfold Xc;rw[if_neg h]
theorem Qp{K:aD}{N:Fp}{Z H H':Hp}(z:Zn K N Z H):aU Z (Xc Z H H'):=λb o e=>by
 rw[Jv (by rw[z.sm b o e];intro q;cases q)];exact e
theorem NK{K:aD}{N:Fp}{Z H H':Hp}(z:Zn K N Z H)(s:aU H H'):Zn K N (Xc Z H H') H' where
  sm:=λb o e=>by
    by_cases c:H b=none
    · rw[Bp c]at e;exact e
    · rw[Jv c]at e;exact s b o (z.sm b o e)
  tk:=λa xs h=>by
    by_cases c:H a=none
    · rcases h with (h | ⟨o,h⟩) | h
      · exact .inl (.inl (by rw[Bp c];exact h))
      · exact .inl (.inr ⟨o,by rw[Bp c];exact h⟩)
      · exact .inr h
    · have q:vU K H a xs:=by
        rcases h with (h | ⟨o,h⟩) | h
        · cases e:H a with
          | none=>exact absurd e c
          | some o=>have:=s a o e;rw[h]at this;cases this;exact .inl (.inl e)
        · cases e:H a with
          | none=>exact absurd e c
          | some o=>have:=s a o e;rw[h]at this;cases this;exact .inl (.inr ⟨_,e⟩)
        · exact .inr h
      exact(Qp z).tup (z.tk a xs q)
  no:=λa q=>⟨by rw[Jv (z.no a q).2];exact(z.no a q).1,λh=>(z.no a q).2 (s.free h)⟩
theorem Nu.zone{K:aD}{N:Fp}{Z H H':Hp}{d:D}{v:V}(h:Nu K H H' d v)(z:Zn K N Z H)(s:aU H H'):Rv K (Xc Z H H') d v:=by
 obtain⟨A,o,f⟩:=h
 exact Ow.rv d A v (Ow.frame (NK z s).tk d A v o λa q=>Bp (f a q))
def Ea(K:aD)(t:TE)(f:FE):Prop:=∀{N:Fp}(σ:St)(H Z:Hp)(e:DE)(d:D)(Q:VK),Zn K N Z H→yV K Z e σ→f e=some d →
 (∀v H' Z',aU H H'→aU Z Z'→Zn K N Z' H'→Rv K Z' d v→Q v H')→t σ H Q
def Nv(K:aD)(t:TE)(f:FE):Prop:=∀(σ:St)(H:Hp)(e:DE)(d:D)(Q:VK),yV K H e σ→f e=some d →
 (∀v H',aU H H'→Nu K H H' d v→Q v H')→t σ H Q
def FJ(K:aD)(t:TT)(f:FT):Prop:=∀(σ:St)(H:Hp)(e:DE)(b:Bool)(Q:Bool→Hp→Prop),yV K H e σ→f e=some b→(∀H',aU H H'→Q b H')→t σ H Q
def EvA(K:aD)(t:TA)(f:FA):Prop:=∀{N:Fp}(σ:St)(H Z:Hp)(e:DE)(ds:List D)(Q:List V→Hp→Prop),Zn K N Z H→yV K Z e σ→f e=some ds →
 (∀vs H' Z',aU H H'→aU Z Z'→Zn K N Z' H'→eE K Z' ds vs→Q vs H')→t σ H Q
def EvB(K:aD)(t:TA)(f:FA):Prop:=∀(σ:St)(H:Hp)(e:DE)(ds:List D)(Q:List V→Hp→Prop),yV K H e σ→f e=some ds →
 (∀vs H',aU H H'→Ue K H H' ds vs→Q vs H')→t σ H Q
theorem Nv.r{K:aD}{t:TE}{f:FE}(h:Nv K t f):Ea K t f:=λσ H Z e d Q z r q k=>
 h σ H e d Q (r.same z.sm) q λv H' s n=>k v H' (Xc Z H H') s (Qp z) (NK z s) (n.zone z s)
def dH(f:FE):FE:=λe=>(f e).bind λd=>if d.iI=true then some d else none
theorem Qq{f:FE}{e:DE}{d:D}:dH f e=some d↔f e=some d∧d.iI=true:=by
 unfold dH
 cases q:f e with
 | none=>simp
 | some a=>
  simp only[B7]
  split
  ·rename_i h;constructor
   ·intro z;cases z;exact⟨rfl,h⟩
   ·rintro⟨z,_⟩;exact z
  ·rename_i h;constructor
   ·intro z;cases z
   ·rintro⟨z,z2⟩;cases z;exact absurd z2 h
theorem Ea.n{K:aD}{t:TE}{f:FE}(h:Ea K t f):Nv K t (dH f):=λσ H e d Q r q k=>by
 obtain⟨q1,q2⟩:=Qq.mp q
 exact h σ H H e d Q (Zn.self K H) r q1 λv H' Z' s1 s2 z' rv=>k v H' s1 (.iI q2 (z'.sm.rv _ _ rv))
def aG(i:Nat):FE:=λe=>(e[i]?).getD none
theorem aDx{K:aD}(i:Nat):Ea K (pN i) (aG i):=λσ H Z e d Q z r q k=>by
 have e1:e[i]?=some (some d):=by
  unfold aG at q
  cases h:e[i]? with
  | none=>rw[h]at q;cases q
  | some o=>rw[h]at q;cases q;rfl
 obtain⟨v,h1,h2⟩:=r i d e1
 exact⟨v,h1,k v H Z (aU.refl _) (aU.refl _) z h2⟩
def fC(d:D):FE:=λ_=>some d
theorem jd{K:aD}(i:Int):Nv K (tC (.int i)) (fC (.int i)):=λσ H e d Q r q k=>by cases q;exact k _ H (aU.refl _) (.iI rfl (by unfold Rv;rfl))
theorem aFG{K:aD}(i:Bool):Nv K (tC (.bl i)) (fC (.bl i)):=λσ H e d Q r q k=>by cases q;exact k _ H (aU.refl _) (.iI rfl (by unfold Rv;rfl))
theorem aDy{K:aD}:Nv K (tC .non) (fC .non):=λσ H e d Q r q k=>by cases q;exact k _ H (aU.refl _) (.iI rfl (by unfold Rv;rfl))
theorem aDz{K:aD}(i:Str):Nv K (tC (.str i)) (fC (.str i)):=λσ H e d Q r q k=>by cases q;exact k _ H (aU.refl _) (.iI rfl (by unfold Rv;rfl))
def f2(φ:D→D→Option D)(f g:FE):FE:=λe=>(f e).bind λa=>(g e).bind λb=>φ a b
theorem Ug{φ:D→D→Option D}{f g:FE}{e:DE}{d:D}(h:f2 φ f g e=some d):∃a b,f e=some a∧g e=some b∧φ a b=some d:=by
 unfold f2 at h
 obtain⟨a,h1,h2⟩:=aX h
 obtain⟨b,h3,h4⟩:=aX h2
 exact⟨a,b,h1,h3,h4⟩
def OpD(K:aD)(r:R2)(φ:D→D→Option D):Prop:=∀{N:Fp}(x y:V)(H Z:Hp)(a b d:D)(Q:VK),Zn K N Z H→Rv K Z a x→Rv K Z b y→φ a b=some d →
 (∀v H' Z',aU H H'→aU Z Z'→Zn K N Z' H'→Rv K Z' d v→Q v H')→r x y H Q
def Xd(K:aD)(r:R2)(φ:D→D→Option D):Prop:=∀(x y:V)(H:Hp)(a b d:D)(Q:VK),Rv K H a x→Rv K H b y→φ a b=some d →
 (∀v H',aU H H'→Nu K H H' d v→Q v H')→r x y H Q
theorem aFH{K:aD}{r:R2}{φ:D→D→Option D}{ta tb:TE}{f g:FE}(o:OpD K r φ)(ha:Ea K ta f)(hb:Ea K tb g):Ea K (Pz r ta tb) (f2 φ f g):=λσ H Z e d Q z re q k=>by
 obtain⟨a,b,h1,h2,h3⟩:=Ug q
 refine ha σ H Z e a _ z re h1 λx H1 Z1 s1 t1 z1 rx=>hb σ H1 Z1 e b _ z1 (re.same t1) h2 λy H2 Z2 s2 t2 z2 ry=>?_
 exact o x y H2 Z2 a b d Q z2 (t2.rv _ _ rx) ry h3 λv H3 Z3 s3 t3 z3 rv=>k v H3 Z3 (s1.trans (s2.trans s3)) (t1.trans (t2.trans t3)) z3 rv
theorem aCf{K:aD}{r:R2}{φ:D→D→Option D}{ta tb:TE}{f g:FE}(o:Xd K r φ)(ha:Ea K ta f)(hb:Ea K tb g):Nv K (Pz r ta tb) (f2 φ f g):=λσ H e d Q re q k=>by
 obtain⟨a,b,h1,h2,h3⟩:=Ug q
 refine ha σ H H e a _ (Zn.self K H) re h1 λx H1 Z1 s1 t1 z1 rx=>hb σ H1 Z1 e b _ z1 (re.same t1) h2 λy H2 Z2 s2 t2 z2 ry=>?_
 exact o x y H2 a b d Q (z2.sm.rv _ _ (t2.rv _ _ rx)) (z2.sm.rv _ _ ry) h3 λv H3 s3 n=>k v H3 (s1.trans (s2.trans s3)) (n.back (s1.trans s2))
def Jw(C:Int→Int→Prop) [∀i j,Decidable (C i j)] (g:Int→Int→D):D→D→Option D
 | .int i,.int j=>if C i j then some (g i j)else none
 | _,_=>none
theorem Jx{C:Int→Int→Prop} [∀i j,Decidable (C i j)] {g:Int→Int→D} {a b d:D} (h:Jw C g a b=some d):∃i j,a=.int i∧b=.int j∧C i j∧d=g i j:=by
 unfold Jw at h
 split at h
 ·split at h
  ·rename_i i j c;cases h;exact⟨i,j,rfl,rfl,c,rfl⟩
  ·cases h
 ·cases h
theorem Uh{K:aD}{C:Int→Int→Prop} [∀i j,Decidable (C i j)] {C':Int→Int→Prop} (hC:∀i j,C i j→C' i j) {g:Int→Int→Int}:Xd K (rI C' λi j=>.int (g i j)) (Jw C λi j=>.int (g i j)):=λx y H a b d Q ra rb q k=>by
 obtain⟨i,j,rfl,rfl,c,rfl⟩:=Jx q
 unfold Rv at ra rb
 exact⟨i,j,ra,rb,hC i j c,k _ H (aU.refl _) (.iI rfl (by unfold Rv;rfl))⟩
theorem aAX{K:aD}{g:Int→Int→Int}:Xd K (ZQ λi j=>.int (g i j)) (Jw (λ_ _=>True) λi j=>.int (g i j)):=λx y H a b d Q ra rb q k=>by
 obtain⟨i,j,rfl,rfl,c,rfl⟩:=Jx q
 unfold Rv at ra rb
 exact⟨i,j,ra,rb,k _ H (aU.refl _) (.iI rfl (by unfold Rv;rfl))⟩
theorem uI{K:aD}{g:Int→Int→Bool}:Xd K (ZQ λi j=>.bl (g i j)) (Jw (λ_ _=>True) λi j=>.bl (g i j)):=λx y H a b d Q ra rb q k=>by
 obtain⟨i,j,rfl,rfl,c,rfl⟩:=Jx q
 unfold Rv at ra rb
 exact⟨i,j,ra,rb,k _ H (aU.refl _) (.iI rfl (by unfold Rv;rfl))⟩
def aK:FA:=λ_=>some []
def aB(f:FE)(fs:FA):FA:=λe=>(f e).bind λa=>(fs e).bind λr=>some (a::r)
theorem Gh{f:FE}{fs:FA}{e:DE}{ds:List D}(h:aB f fs e=some ds):∃a r,f e=some a∧fs e=some r∧ds=a::r:=by
 unfold aB at h
 obtain⟨a,h1,h2⟩:=aX h
 obtain⟨b,h3,h4⟩:=aX h2
 cases h4
 exact⟨a,b,h1,h3,rfl⟩
theorem je{K:aD}:EvA K mJ aK:=λσ H Z e ds Q z re q k=>by cases q;exact k [] H Z (aU.refl _) (aU.refl _) z (by unfold eE;rfl)
theorem aAY{K:aD}{te:TE}{t:TA}{f:FE}{fs:FA}(h:Ea K te f)(hs:EvA K t fs):EvA K (fJ te t) (aB f fs):=λσ H Z e ds Q z re q k=>by
 obtain⟨a,r,h1,h2,rfl⟩:=Gh q
 refine h σ H Z e a _ z re h1 λx H1 Z1 s1 t1 z1 rx=>hs σ H1 Z1 e r _ z1 (re.same t1) h2 λvs H2 Z2 s2 t2 z2 rs=>?_
 exact k _ H2 Z2 (s1.trans s2) (t1.trans t2) z2 (by unfold eE;exact⟨x,vs,rfl,t2.rv _ _ rx,rs⟩)
theorem aDA{K:aD}:EvB K mJ aK:=λσ H e ds Q re q k=>by cases q;exact k [] H (aU.refl _) (.fZ rfl (by unfold eE;rfl))
theorem aAZ{K:aD}{te:TE}{t:TA}{f:FE}{fs:FA}(h:Nv K te f)(hs:EvB K t fs):EvB K (fJ te t) (aB f fs):=λσ H e ds Q re q k=>by
 obtain⟨a,r,h1,h2,rfl⟩:=Gh q
 refine h σ H e a _ re h1 λx H1 s1 n1=>hs σ H1 e r _ (re.same s1) h2 λvs H2 s2 n2=>?_
 refine k _ H2 (s1.trans s2) ?_
 obtain⟨A,oA,fA⟩:=n1
 obtain⟨B,oB,fB⟩:=n2
 refine⟨fH A B,?_,λp q=>q.elim (fA p) λz=>s1.free (fB p z)⟩
 unfold eY
 refine⟨x,vs,A,B,rfl,λp qa qb=>?_,λ_=>Iff.rfl,oA.same s2,oB⟩
 obtain⟨⟨o,e1⟩,_⟩:=Ow.cells _ _ _ oA p qa
 rw[fB p qb]at e1;cases e1
def cap(n:Nat)(d:D):Option D:=if n≤100000 then some d else none
theorem Jy{n:Nat}{d d':D}(h:cap n d=some d'):n≤100000∧d'=d:=by
 unfold cap at h
 split at h
 ·rename_i c;cases h;exact⟨c,rfl⟩
 ·cases h
theorem Qt{n:Nat}(h:n≤100000):n≤sizeLine:=by rw[sizeLine_eq];omega
theorem Qu{n:Nat}(h:n≤100000):n<sizeLine:=by rw[sizeLine_eq];omega
def lK(fs:FA):FE:=λe=>(fs e).bind λds=>cap ds.length (.lst ds)
def vN(fs:FA):FE:=λe=>(fs e).bind λds=>cap ds.length (.tup ds)
theorem rB{K:aD}{H H1:Hp}{ds:List D}{xs:List V}{p:Addr}(s:aU H H1)(n:Ue K H H1 ds xs)(hp:H1 p=none):Nu K H (upd H1 p (.lst xs)) (.lst ds) (.ref p):=by
 obtain⟨A,o,f⟩:=n
 refine⟨fH (·=p) A,?_,λa q=>q.elim (λz=>by cases z;exact s.free hp) (f a)⟩
 unfold Ow
 refine⟨p,xs,A,rfl,bW,λz=>?_,λ_=>Iff.rfl,o.same (cT hp _)⟩
 obtain⟨⟨u,e⟩,_⟩:=eY.cells _ _ _ o p z
 rw[hp]at e;cases e
theorem NP{K:aD}{H H1:Hp}{ds:List D}{xs:List V}{p:Addr}(n:Ue K H H1 ds xs)(hp:H1 p=none):Nu K H (upd H1 p (.tup xs)) (.tup ds) (.ref p):=by
 obtain⟨A,o,f⟩:=n
 refine⟨A,?_,f⟩
 unfold Ow
 exact⟨p,xs,rfl,vU.of bW,o.same (cT hp _)⟩
theorem aDB{K:aD}{t:TA}{fs:FA}(h:EvB K t fs):Nv K (di t) (lK fs):=λσ H e d Q re q k=>by
 unfold lK at q
 obtain⟨ds,h1,h2⟩:=aX q
 obtain⟨hc,rfl⟩:=Jy h2
 refine h σ H e ds _ re h1 λxs H1 s1 n=>⟨Qt (by rw[n.rv.length];exact hc),λp hp=>?_⟩
 exact k _ _ (s1.trans (cT hp _)) (rB s1 n hp)
theorem aDC{K:aD}{t:TA}{fs:FA}(h:EvB K t fs):Nv K (aAA t) (vN fs):=λσ H e d Q re q k=>by
 unfold vN at q
 obtain⟨ds,h1,h2⟩:=aX q
 obtain⟨hc,rfl⟩:=Jy h2
 refine h σ H e ds _ re h1 λxs H1 s1 n=>⟨Qt (by rw[n.rv.length];exact hc),λp hp=>?_⟩
 exact k _ _ (s1.trans (cT hp _)) (NP n hp)
theorem aDD{K:aD}{N:Fp}{Z H:Hp}{p:Addr}{o:HO}(z:Zn K N Z H)(hp:H p=none):aU Z (upd Z p o)∧Zn K N (upd Z p o) (upd H p o):=by
 have hz:Z p=none:=z.sm.free hp
 refine⟨cT hz o,⟨λb u e=>?_,λa xs h=>?_,λa q=>?_⟩⟩
 ·by_cases c:b=p
  ·subst c;rw[bW]at e;rw[bW];exact e
  ·rw[bL c]at e;rw[bL c];exact z.sm b u e
 ·by_cases c:a=p
  ·subst c
   rcases h with (h | ⟨u,h⟩) | h
   ·rw[bW]at h;exact .inl (.inl (by rw[bW];exact h))
   ·rw[bW]at h;exact .inl (.inr ⟨u,by rw[bW];exact h⟩)
   ·exact .inr h
  ·have q:vU K H a xs:=by
    rcases h with (h | ⟨u,h⟩) | h
    ·rw[bL c]at h;exact .inl (.inl h)
    ·rw[bL c]at h;exact .inl (.inr ⟨u,h⟩)
    ·exact .inr h
   exact(cT hz o).tup (z.tk a xs q)
 ·have c:a≠p:=λz'=>(z.no a q).2 (by rw[z'];exact hp)
  rw[bL c,bL c];exact z.no a q
theorem aDE{K:aD}{t:TA}{fs:FA}(h:EvA K t fs):Ea K (di t) (lK fs):=λσ H Z e d Q z re q k=>by
 unfold lK at q
 obtain⟨ds,h1,h2⟩:=aX q
 obtain⟨hc,rfl⟩:=Jy h2
 refine h σ H Z e ds _ z re h1 λxs H1 Z1 s1 t1 z1 rs=>⟨Qt (by rw[rs.length];exact hc),λp hp=>?_⟩
 obtain⟨a1,a2⟩:=aDD (o:=.lst xs) z1 hp
 exact k _ _ _ (s1.trans (cT hp _)) (t1.trans a1) a2 (by unfold Rv;exact⟨p,xs,rfl,pY.of bW,a1.NB _ _ rs⟩)
end L2


namespace L2
open PySem PySem.Spec PyProof.Rows
structure XR(K:aD)(X:Cx)(e:Expr)(t:TE)(f:FE):Prop where
 hk:X.K=K
 pe:PE X e t
 ev:Ea K t f
structure XN(K:aD)(X:Cx)(e:Expr)(t:TE)(f:FE):Prop where
 hk:X.K=K
 pe:PE X e t
 ev:Nv K t f
structure XT(K:aD)(X:Cx)(e:Expr)(t:TT)(f:FT):Prop where
 hk:X.K=K
 pt:PT X e t
 ev:FJ K t f
structure XW(K:aD)(X:Cx)(e:Expr)(t:TT)(f:FT):Prop where
 hk:X.K=K
 pw:PW X e t
 ev:FJ K t f
structure XA(K:aD)(X:Cx)(es:List Expr)(t:TA)(f:FA):Prop where
 hk:X.K=K
 pa:PA X es t
 ev:EvA K t f
structure XB(K:aD)(X:Cx)(es:List Expr)(t:TA)(f:FA):Prop where
 hk:X.K=K
 pa:PA X es t
 ev:EvB K t f
section
variable{K:aD}{X:Cx}{e a b c:Expr}{es:List Expr}{t ta tb:TE}{f g:FE}{tA:TA}{fs:FA}{pos:Pos}
theorem XN.r(h:XN K X e t f):XR K X e t f:=⟨h.hk,h.pe,h.ev.r⟩
theorem XR.n(h:XR K X e t f):XN K X e t (dH f):=⟨h.hk,h.pe,Ea.n h.ev⟩
theorem aH{i:Nat}(h:PE X e (pN i))(hk:X.K=K:=by rfl):XR K X e (pN i) (aG i):=⟨hk,h,aDx i⟩
theorem aM{i:Int}{j:Nat}(hk:X.K=K:=by rfl):XN K X (.Constant (.int i) j pos) (tC (.int i)) (fC (.int i)):=⟨hk,aCP,jd i⟩
theorem Jz{i:Bool}{j:Nat}(hk:X.K=K:=by rfl):XN K X (.Constant (.bool i) j pos) (tC (.bl i)) (fC (.bl i)):=⟨hk,aFi,aFG i⟩
theorem Ka{j:Nat}(hk:X.K=K:=by rfl):XN K X (.Constant .none j pos) (tC .non) (fC .non):=⟨hk,aCQ,aDy⟩
theorem pA{x:Str}{j:Nat}(hk:X.K=K:=by rfl):XN K X (.Constant (.str x) j pos) (tC (.str x)) (fC (.str x)):=⟨hk,aCR,aDz x⟩
theorem Qv{op:Operator}{r:R2}{φ:D→D→Option D}(ho:sY X (binaryOp op) r)(hd:Xd K r φ)(ha:XR K X a ta f)(hb:XR K X b tb g):XN K X (.BinOp a op b pos) (Pz r ta tb) (f2 φ f g):=⟨ha.hk,aFp ho ha.pe hb.pe,aCf hd ha.ev hb.ev⟩
def aA0:D→D→Option D:=Jw (λ_ _=>True) λi j=>.int (i-j)
instance (i j:Int):Decidable (Tj i j):=by unfold Tj;exact inferInstance
instance (i j:Int):Decidable (TQ i j):=by unfold TQ;exact inferInstance
instance (i j:Int):Decidable (TV i j):=by unfold TV;exact inferInstance
def vO:D→D→Option D:=Jw Tj λi j=>.int (i*j)
def yW:D→D→Option D:=Jw TQ λi j=>.int (i/j)
def jJ:D→D→Option D:=Jw (λ_ j=>0<j) λi j=>.int (i%j)
def Od:D→D→Option D:=Jw TV λi j=>.int (i ^ j.toNat)
theorem aDF(ha:XR K X a ta f)(hb:XR K X b tb g):XN K X (.BinOp a .Sub b pos) (Pz (ZQ λi j=>.int (i-j)) ta tb) (f2 aA0 f g):=Qv aC3 aAX ha hb
theorem nO(ha:XR K X a ta f)(hb:XR K X b tb g):XN K X (.BinOp a .Mult b pos) (Pz (rI Tj λi j=>.int (i*j)) ta tb) (f2 vO f g):=Qv aC4 (Uh λ_ _ h=>h) ha hb
theorem qF(ha:XR K X a ta f)(hb:XR K X b tb g):XN K X (.BinOp a .FloorDiv b pos) (Pz (rI TQ λi j=>.int (i/j)) ta tb) (f2 yW f g):=Qv aAw (Uh λ_ _ h=>h) ha hb
theorem cU(ha:XR K X a ta f)(hb:XR K X b tb g):XN K X (.BinOp a .Mod b pos) (Pz (rI (λ_ j=>0<j) λi j=>.int (i%j)) ta tb) (f2 jJ f g):=Qv aC5 (Uh λ_ _ h=>h) ha hb
theorem Kc(ha:XR K X a ta f)(hb:XR K X b tb g):XN K X (.BinOp a .Pow b pos) (Pz (rI TV λi j=>.int (i ^ j.toNat)) ta tb) (f2 Od f g):=Qv aC6 (Uh λ_ _ h=>h) ha hb
def fB(f:FE):FT:=λe=>(f e).bind λd=>match d with | .bl b=>some b | _=>none
theorem NQ{f:FE}{e:DE}{b:Bool}(h:fB f e=some b):f e=some (.bl b):=by
 unfold fB at h
 obtain⟨d,h1,h2⟩:=aX h
 split at h2
 ·cases h2;exact h1
 ·cases h2
theorem aA1(h:Ea K t f):FJ K (Qa t) (fB f):=λσ H e b Q re q k=>h σ H H e _ _ (Zn.self K H) re (NQ q) λv H' Z' s1 s2 z rv=>by
 unfold Rv at rv
 exact⟨b,rv,k H' s1⟩
theorem aFI(h:Ea K t f):FJ K (tB t) (fB f):=λσ H e b Q re q k=>h σ H H e _ _ (Zn.self K H) re (NQ q) λv H' Z' s1 s2 z rv=>by
 unfold Rv at rv
 exact⟨b,rv,k H' s1⟩
theorem gA{op:CmpOp}{r:R2}{φ:D→D→Option D}(ho:sY X (compareOp op) r)(hd:Xd K r φ)(ha:XR K X a ta f)(hb:XR K X b tb g)(hm:behindInMarks op b=false):XT K X (.Compare a [op] [b] pos) (Qa (Pz r ta tb)) (fB (f2 φ f g)):=⟨ha.hk,KZ ho ha.pe hb.pe hm,aA1 (aCf hd ha.ev hb.ev).r⟩
def dLt:D→D→Option D:=Jw (λ_ _=>True) λi j=>.bl (decide (i<j))
def dLe:D→D→Option D:=Jw (λ_ _=>True) λi j=>.bl (decide (i≤j))
def dGt:D→D→Option D:=Jw (λ_ _=>True) λi j=>.bl (decide (j<i))
def dGe:D→D→Option D:=Jw (λ_ _=>True) λi j=>.bl (decide (j≤i))
def toV:D→Option V
  | .non=>some .non | .bl b=>some (.bl b) | .int i=>some (.int i) | .str x=>some (.str x)
  | _=>none
theorem Eh{H:Hp}{d:D}{v x:V}(h:toV d=some v)(r:Rv K H d x):x=v:=by
 cases d<;>unfold toV at h<;>first | (cases h;unfold Rv at r;exact r) | cases h
mutual
def eG:D→Option DV
 | .int i=>some (.int i)
 | .non=>some .non
 | .lst ds=>(fO ds).map DV.lst
 | .tup ds=>(fO ds).map DV.tup
 | _=>none
def fO:List D→Option (List DV)
 | []=>some []
 | d::ds=>(eG d).bind λx=>(fO ds).bind λxs=>some (x::xs)
end
mutual
theorem uJ{H:Hp}:∀(d:D)(x:DV)(v:V),eG d=some x→Rv K H d v→Reads K H x v
 | .int i,x,v,h,r=>by unfold eG at h;cases h;unfold Rv at r;unfold Reads;exact r
 | .lst ds,x,v,h,r=>by
  unfold eG at h
  obtain⟨xs,h1,rfl⟩:=mF h
  unfold Rv at r;unfold Reads
  obtain⟨a,vs,r1,r2,r3⟩:=r
  exact⟨a,vs,r1,r2,Kd ds xs vs h1 r3⟩
 | .tup ds,x,v,h,r=>by
  unfold eG at h
  obtain⟨xs,h1,rfl⟩:=mF h
  unfold Rv at r;unfold Reads
  obtain⟨a,vs,r1,r2,r3⟩:=r
  exact⟨a,vs,r1,r2,Kd ds xs vs h1 r3⟩
 | .non,x,v,h,r=>by unfold eG at h;cases h;unfold Rv at r;unfold Reads;exact r
 | .bl _,x,v,h,r=>by unfold eG at h;cases h
 | .str _,x,v,h,r=>by unfold eG at h;cases h
 | .dk _ _,x,v,h,r=>by unfold eG at h;cases h
 | .dt _ _,x,v,h,r=>by unfold eG at h;cases h
 | .ins _ _ _,x,v,h,r=>by unfold eG at h;cases h
theorem Kd{H:Hp}:∀(ds:List D)(xs:List DV)(vs:List V),fO ds=some xs→eE K H ds vs→cP K H xs vs
 | [],xs,vs,h,r=>by unfold fO at h;cases h;unfold eE at r;unfold cP;exact r
 | d::ds,xs,vs,h,r=>by
  unfold fO at h
  obtain⟨x,h1,h2⟩:=aX h
  obtain⟨xt,h3,h4⟩:=aX h2
  cases h4
  unfold eE at r;unfold cP
  obtain⟨y,ys,r1,r2,r3⟩:=r
  exact⟨y,ys,r1,uJ d x y h1 r2,Kd ds xt ys h3 r3⟩
end
mutual
theorem jf:∀(d e:D)(x:DV),eG d=some x→eG e=some x→d=e
 | .int i,e,x,h,h'=>by
  unfold eG at h;cases h
  cases e<;>unfold eG at h'<;>first | (cases h';rfl) | cases h' | (obtain⟨xs,q1,q2⟩:=mF h';cases q2)
 | .lst ds,e,x,h,h'=>by
  unfold eG at h
  obtain⟨xs,h1,rfl⟩:=mF h
  cases e with
  | lst es=>unfold eG at h';obtain⟨ys,q1,q2⟩:=mF h';cases q2;rw[Ei ds es xs h1 q1]
  | tup es=>unfold eG at h';obtain⟨ys,q1,q2⟩:=mF h';cases q2
  | _=>unfold eG at h';cases h'
 | .tup ds,e,x,h,h'=>by
  unfold eG at h
  obtain⟨xs,h1,rfl⟩:=mF h
  cases e with
  | tup es=>unfold eG at h';obtain⟨ys,q1,q2⟩:=mF h';cases q2;rw[Ei ds es xs h1 q1]
  | lst es=>unfold eG at h';obtain⟨ys,q1,q2⟩:=mF h';cases q2
  | _=>unfold eG at h';cases h'
 | .non,e,x,h,h'=>by
  unfold eG at h;cases h
  cases e<;>unfold eG at h'<;>first | (cases h';rfl) | cases h' | (obtain⟨xs,q1,q2⟩:=mF h';cases q2)
 | .bl _,e,x,h,h'=>by unfold eG at h;cases h
 | .str _,e,x,h,h'=>by unfold eG at h;cases h
 | .dk _ _,e,x,h,h'=>by unfold eG at h;cases h
 | .dt _ _,e,x,h,h'=>by unfold eG at h;cases h
 | .ins _ _ _,e,x,h,h'=>by unfold eG at h;cases h
theorem Ei:∀(ds es:List D)(xs:List DV),fO ds=some xs→fO es=some xs→ds=es
 | [],[],xs,h,h'=>rfl
 | [],e::es,xs,h,h'=>by
  unfold fO at h h'
  cases h
  obtain⟨x,h1,h2⟩:=aX h'
  obtain⟨xt,h3,h4⟩:=aX h2
  cases h4
 | d::ds,[],xs,h,h'=>by
  unfold fO at h h'
  cases h'
  obtain⟨x,h1,h2⟩:=aX h
  obtain⟨xt,h3,h4⟩:=aX h2
  cases h4
 | d::ds,e::es,xs,h,h'=>by
  unfold fO at h h'
  obtain⟨x,h1,h2⟩:=aX h
  obtain⟨xt,h3,h4⟩:=aX h2
  cases h4
  obtain⟨y,k1,k2⟩:=aX h'
  obtain⟨yt,k3,k4⟩:=aX k2
  cases k4
  rw[jf d e x h1 k1,Ei ds es xt h3 k3]
end
noncomputable def Gi(a b:D):Option D:=match toV a,toV b with
 | some x,some y=>if Wr x y=true then some (.bl (decide (x=y)))else none
 | _,_=>match eG a,eG b with
  | some x,some y=>if x.depth≤32 then some (.bl (wD x y))else none
  | _,_=>none
theorem zM:Xd K (λx y H Q=>rEq x y H Q∨aDp K false x y H Q) Gi:=λx y H a b d Q ra rb q k=>by
 unfold Gi at q
 split at q
 ·rename_i u v h1 h2
  split at q
  ·rename_i hs
   cases q
   rw[Eh h1 ra,Eh h2 rb]
   exact .inl ⟨hs,k _ H (aU.refl _) (.iI rfl (by unfold Rv;rfl))⟩
  ·cases q
 ·split at q
  ·rename_i u v h1 h2
   split at q
   ·rename_i hs
    cases q
    exact .inr ⟨u,v,uJ a u x h1 ra,uJ b v y h2 rb,hs,k _ H (aU.refl _) (.iI rfl (by unfold Rv;rfl))⟩
   ·cases q
  ·cases q
noncomputable def Hv(a b:D):Option D:=match toV a,toV b with
 | some x,some y=>if Wr x y=true then some (.bl (!decide (x=y)))else none
 | _,_=>match eG a,eG b with
  | some (.lst x),some (.lst y)=>if bQ x≤32 then some (.bl (!wD (.lst x) (.lst y)))else none
  | some (.tup x),some (.tup y)=>if bQ x≤32 then some (.bl (!wD (.tup x) (.tup y)))else none
  | _,_=>none
def aFJ(K:aD):R2:=λx y H Q=>rNe x y H Q∨(∃ds es,Reads K H (.lst ds) x∧Reads K H (.lst es) y∧bQ ds≤32∧Q (.bl (!wD (.lst ds) (.lst es))) H)∨(∃ds es,Reads K H (.tup ds) x∧Reads K H (.tup es) y∧bQ ds≤32∧Q (.bl (!wD (.tup ds) (.tup es))) H)
theorem Gj:Xd K (aFJ K) Hv:=λx y H a b d Q ra rb q k=>by
 unfold Hv at q
 split at q
 ·rename_i u v h1 h2
  split at q
  ·rename_i hs
   cases q
   rw[Eh h1 ra,Eh h2 rb]
   exact .inl ⟨hs,k _ H (aU.refl _) (.iI rfl (by unfold Rv;rfl))⟩
  ·cases q
 ·split at q
  ·rename_i u v h1 h2
   split at q
   ·rename_i hs
    cases q
    exact .inr (.inl ⟨u,v,uJ a _ x h1 ra,uJ b _ y h2 rb,hs,k _ H (aU.refl _) (.iI rfl (by unfold Rv;rfl))⟩)
   ·cases q
  ·rename_i u v h1 h2
   split at q
   ·rename_i hs
    cases q
    exact .inr (.inr ⟨u,v,uJ a _ x h1 ra,uJ b _ y h2 rb,hs,k _ H (aU.refl _) (.iI rfl (by unfold Rv;rfl))⟩)
   ·cases q
  ·cases q
theorem or_eq(hu:X.A.units+64<cLine)(hk:X.K=K):sY X (compareOp .Eq) (λx y H Q=>rEq x y H Q∨aDp K false x y H Q):=by subst hk;exact aFs.or (aDq hu)
theorem Gk(hu:X.A.units+64<cLine)(hk:X.K=K):sY X (compareOp .NotEq) (aFJ K):=by subst hk;exact aFt.or ((aDr hu).or (aDu hu))
def Xe:List D→Option (List V)
 | []=>some []
 | d::ds=>(toV d).bind λx=>(Xe ds).bind λxs=>some (x::xs)
theorem NT{H:Hp}:∀{ds:List D} {vs xs:List V},Xe ds=some vs→eE K H ds xs→xs=vs
 | [],vs,xs,h,r=>by unfold Xe at h;cases h;unfold eE at r;exact r
 | d::ds,vs,xs,h,r=>by
  unfold Xe at h
  obtain⟨x,h1,h2⟩:=aX h
  obtain⟨xt,h3,h4⟩:=aX h2
  cases h4
  unfold eE at r
  obtain⟨y,ys,rfl,r2,r3⟩:=r
  rw[Eh h1 r2,NT h3 r3]
def vP:D→Option (List D)
 | .lst ds=>some ds
 | .tup ds=>some ds
 | _=>none
theorem Hw{H:Hp}{d:D}{ds:List D}{v:V}(h:vP d=some ds)(r:Rv K H d v):∃p xs,v=.ref p∧(pY K H p xs∨vU K H p xs)∧eE K H ds xs:=by
 cases d with
 | lst es=>unfold vP at h;cases h;unfold Rv at r;obtain⟨p,xs,r1,r2,r3⟩:=r;exact⟨p,xs,r1,.inl r2,r3⟩
 | tup es=>unfold vP at h;cases h;unfold Rv at r;obtain⟨p,xs,r1,r2,r3⟩:=r;exact⟨p,xs,r1,.inr r2,r3⟩
 | _=>unfold vP at h;cases h
def dIn(neg:Bool)(a b:D):Option D:=(toV a).bind λx=>(vP b).bind λds=>(Xe ds).bind λxs=>if vZ x=true∧xs.all vZ=true then some (.bl (if neg then !inV x xs else inV x xs))else none
theorem aCg(neg:Bool):Xd K (rIn K neg) (dIn neg):=λx y H a b d Q ra rb q k=>by
 unfold dIn at q
 obtain⟨u,h1,q⟩:=aX q
 obtain⟨ds,h2,q⟩:=aX q
 obtain⟨us,h3,q⟩:=aX q
 split at q
 ·rename_i c
  cases q
  obtain⟨p,xs,rfl,r2,r3⟩:=Hw h2 rb
  have:=NT h3 r3
  subst this
  rw[Eh h1 ra]
  exact⟨p,xs,rfl,r2,c.1,c.2,k _ H (aU.refl _) (.iI rfl (by unfold Rv;rfl))⟩
 ·cases q
theorem aFK(hk:X.K=K):sY X (compareOp .In) (rIn K false):=by subst hk;exact UL
theorem jg(hk:X.K=K):sY X (compareOp .NotIn) (rIn K true):=by subst hk;exact Tt
end
section
variable{κ:Type} [DecidableEq κ] {K:aD} {H:Hp}
def posK:List κ→κ→Option Nat
 | [],_=>none
 | a::ks,k=>if a=k then some 0 else(posK ks k).map (·+1)
theorem qG:∀{ks:List κ} {xs:List V} {k:κ},ks.length=xs.length→uH (ks.zip xs) k=(posK ks k).bind λj=>xs[j]?
 | [],xs,k,h=>by unfold posK;rfl
 | a::ks,[],k,h=>by simp at h
 | a::ks,x::xs,k,h=>by
  have ih:=qG (ks:=ks) (xs:=xs) (k:=k) (by simpa using h)
  unfold posK
  rw[P9]
  unfold uH at ih ⊢
  rw[N9]
  by_cases c:a=k
  ·rw[if_pos c,decide_eq_true c];rfl
  ·rw[if_neg c,decide_eq_false c]
   show Option.map _ (List.find? _ (ks.zip xs))=_
   rw[ih]
   cases posK ks k<;>rfl
theorem pP:∀{ks:List κ} {k:κ} {j:Nat},posK ks k=some j→j<ks.length∧ks[j]?=some k
 | [],k,j,h=>by unfold posK at h;cases h
 | a::ks,k,j,h=>by
  unfold posK at h
  split at h
  ·rename_i c;cases h;exact⟨by simp,by simp[c]⟩
  ·obtain⟨i,h1,rfl⟩:=mF h
   obtain⟨a1,a2⟩:=pP h1
   exact⟨by simpa using a1,by simpa using a2⟩
theorem Ej:∀{ks:List κ} {k:κ},posK ks k=none↔k∉ks
  | [],k=>by unfold posK;simp
  | a::ks,k=>by
    unfold posK
    have ih:=Ej (ks:=ks) (k:=k)
    split
    · rename_i c;simp[c]
    · rename_i c
      rw[Option.map_eq_none_iff,ih,C6]
      constructor
      · rintro h (q | q)
        · exact c q.symm
        · exact h q
      · intro h q;exact h (.inr q)
def kW(ks:List κ)(k:κ):List κ:=if(posK ks k).isSome then ks else ks++[k]
def putD{β:Type}(ks:List κ)(ds:List β)(k:κ)(d:β):List β:=if(posK ks k).isSome then R3 (λk' d'=>if k'=k then d else d') ks ds else ds++[d]
theorem tO{β:Type}{ks:List κ}{ds:List β}{k:κ}{d:β}(h:ks.length=ds.length):(kW ks k).length=(putD ks ds k d).length:=by
 unfold kW putD
 split
 ·rw[List.length_zipWith,h,b8]
 ·rw[D4,D4,h];rfl
theorem Xf{ks:List κ}{xs:List V}{k:κ}{v:V}(h:ks.length=xs.length):putK (ks.zip xs) k v=(kW ks k).zip (putD ks xs k v):=by
 have ha:((ks.zip xs).any λkv=>decide (kv.1=k))=(posK ks k).isSome:=by
  rw[Jl,qG h]
  cases q:posK ks k with
  | none=>rfl
  | some j=>
   obtain⟨h1,h2⟩:=pP q
   rw[B7,B6 (by omega)]
   rfl
 unfold putK kW putD
 rw[ha]
 by_cases c:(posK ks k).isSome=true
 ·rw[if_pos c,if_pos c,if_pos c]
  clear ha c
  induction ks generalizing xs with
  | nil=>rfl
  | cons a ks ih=>
   cases xs with
   | nil=>simp at h
   | cons x xs=>
    rw[P9,D2,J0,P9,ih (by simpa using h)]
    split<;>rfl
 ·rw[if_neg c,if_neg c,if_neg c,List.zip_append h]
  rfl
end
def Oe:D→Option Key
 | .int i=>some (.inl i)
 | .str x=>some (.inr x)
 | _=>none
theorem Hx{K:aD}{H:Hp}{d:D}{k:Key}{v:V}(h:Oe d=some k)(r:Rv K H d v):v=kV k:=by
 cases d<;>unfold Oe at h<;>first | (cases h;unfold Rv at r;exact r) | cases h
def kD:Key→D
 | .inl i=>.int i
 | .inr x=>.str x
section
variable{K:aD}{X:Cx}{e a b c:Expr}{es:List Expr}{t ta tb:TE}{f g:FE}{pos:Pos}
def VL(neg:Bool)(k d:D):Option D:=match d with
 | .dk ks ds=>(Oe k).bind λk=>some (.bl (if neg then !(posK ks k).isSome else(posK ks k).isSome))
 | _=>none
def aIO(d k:D):Option D:=match d with
 | .dk ks ds=>(Oe k).bind λk=>(posK ks k).bind λj=>ds[j]?
 | _=>none
theorem FN{ks:List Key}{xs:List V}{k:Key}(h:ks.length=xs.length):(uH (ks.zip xs) k).isSome=(posK ks k).isSome:=by
 rw[qG h]
 cases q:posK ks k with
 | none=>rfl
 | some j=>
  obtain⟨h1,h2⟩:=pP q
  rw[B7,B6 (by omega)]
  rfl
theorem jh{H:Hp}{x y:V}{ka d r:D}{neg:Bool}(h:VL neg ka d=some r)(rk:Rv K H ka y)(rd:Rv K H d x):∃p o,x=.ref p∧Jo H p y o∧r=.bl (if neg then !o.isSome else o.isSome):=by
 unfold VL at h
 split at h
 ·rename_i ks ds
  obtain⟨k,h1,h2⟩:=aX h
  cases h2
  unfold Rv at rd
  obtain⟨p,xs,r1,r2,r3,r4⟩:=rd
  refine⟨p,uH (ks.zip xs) k,r1,.inl ⟨_,k,r2,Hx h1 rk,rfl⟩,?_⟩
  rw[FN r3]
 ·cases h
theorem VM(hu:X.A.units+1<cLine)(ha:XR K X a ta f)(hb:XR K X b tb g)(h1:behindInMarks .NotIn b=false:=by first | exact nobehind _ (by decide) (by decide) | rfl):XN K X (.Compare a [.NotIn] [b] pos) (Tz ta tb) (f2 (VL true) f g):=
 ⟨ha.hk,aj (Ql hu ha.pe hb.pe) h1,λσ H e d Q re q k=>by
  obtain⟨da,db,q1,q2,q3⟩:=Ug q
  refine ha.ev σ H H e da _ (Zn.self K H) re q1 λx H1 Z1 s1 t1 z1 rx=>hb.ev σ H1 Z1 e db _ z1 (re.same t1) q2 λy H2 Z2 s2 t2 z2 ry=>?_
  obtain⟨p,o,e1,e2,e3⟩:=jh q3 (z2.sm.rv _ _ (t2.rv _ _ rx)) (z2.sm.rv _ _ ry)
  subst e3
  exact⟨p,o,e1,e2,k _ H2 (s1.trans s2) (.iI rfl (by unfold Rv;rfl))⟩⟩
theorem aCh{op:CmpOp}(h:XN K X (.Compare a [op] [b] pos) t f)(pc:PC X op a b t)(h1:behindInMarks op b=false):XT K X (.Compare a [op] [b] pos) (tB t) (fB f):=⟨h.hk,aCS pc h1,aFI h.ev.r⟩
theorem VN(hu:X.A.units+1<cLine)(ha:XR K X a ta f)(hb:XR K X b tb g)(h1:behindInMarks .NotIn b=false:=by first | exact nobehind _ (by decide) (by decide) | rfl):XT K X (.Compare a [.NotIn] [b] pos) (tB (Tz ta tb)) (fB (f2 (VL true) f g)):=aCh (VM hu ha hb h1) (Ql hu ha.pe hb.pe) h1
def lD(a i:D):Option D:=match i with
 | .int i=>(vP a).bind λds=>LK ds i
 | _=>none
theorem aCi{H:Hp}{ds:List D}{xs:List V}{i:Int}{d:D}(r:eE K H ds xs)(h:LK ds i=some d):∃v,LK xs i=some v∧Rv K H d v:=by
 unfold LK at h ⊢
 obtain⟨j,h1,h2⟩:=aX h
 rw[r.length,h1]
 exact r.get h2
theorem aCj(hk:X.K=K):fj X (rIx K):=by subst hk;exact aDe
theorem dU(ha:XR K X a ta f)(hb:XR K X b tb g)(hs:Ht b):XR K X (.Subscript a b pos) (Pz (rIx K) ta tb) (f2 lD f g):=
 ⟨ha.hk,gf (aCj ha.hk) ha.pe hb.pe hs,aFH (λx y H Z da db d Q z ra rb q k=>by
  unfold lD at q
  split at q
  ·rename_i i
   obtain⟨ds,h1,h2⟩:=aX q
   unfold Rv at rb
   cases da with
   | lst es=>
    unfold vP at h1;cases h1
    unfold Rv at ra
    obtain⟨p,xs,r1,r2,r3⟩:=ra
    obtain⟨v,e1,e2⟩:=aCi r3 h2
    exact .inl ⟨p,xs,i,v,r1,rb,z.sm.seq r2,e1,k v H Z (aU.refl _) (aU.refl _) z e2⟩
   | tup es=>
    unfold vP at h1;cases h1
    unfold Rv at ra
    obtain⟨p,xs,r1,r2,r3⟩:=ra
    obtain⟨v,e1,e2⟩:=aCi r3 h2
    exact .inr (.inl ⟨p,xs,i,v,r1,rb,z.sm.tup r2,e1,k v H Z (aU.refl _) (aU.refl _) z e2⟩)
   | _=>unfold vP at h1;cases h1
  ·cases q) ha.ev hb.ev⟩
end
end L2


namespace L2
open PySem PySem.Spec PyProof.Rows
section
variable{K:aD}{X:Cx}{e a b c:Expr}{es rest:List Expr}{t ta tb:TE}{f g:FE}{tA:TA}{fs:FA}{pos:Pos}{tc:TT}{fc fd:FT}{td:TT}
theorem aP(hk:X.K=K:=by rfl):XA K X [] mJ aK:=⟨hk,kO,je⟩
theorem aF(h:XR K X e t f)(hs:XA K X es tA fs)(hst:starEach (e::es) X.env=(false,eval e X.env)::starEach es X.env:=by rfl):XA K X (e::es) (fJ t tA) (aB f fs):=⟨h.hk,eO h.pe hs.pa hst,aAY h.ev hs.ev⟩
theorem iY(hk:X.K=K:=by rfl):XB K X [] mJ aK:=⟨hk,kO,aDA⟩
theorem bF(h:XN K X e t f)(hs:XB K X es tA fs)(hst:starEach (e::es) X.env=(false,eval e X.env)::starEach es X.env:=by rfl):XB K X (e::es) (fJ t tA) (aB f fs):=⟨h.hk,eO h.pe hs.pa hst,aAZ h.ev hs.ev⟩
theorem wG(h:XB K X es tA fs):XN K X (.List es pos) (di tA) (lK fs):=⟨h.hk,dq h.pa,aDB h.ev⟩
theorem nP(h:XA K X es tA fs):XR K X (.List es pos) (di tA) (lK fs):=⟨h.hk,dq h.pa,aDE h.ev⟩
theorem rW{x1:Nat}(h:XB K X es tA fs):XN K X (.Tuple es x1 pos) (aAA tA) (vN fs):=⟨h.hk,dm h.pa,aDC h.ev⟩
theorem aA3:Nv K DP (fC (.dk [] [])):=λσ H e d Q re q k=>by
 cases q
 intro p hp
 refine k _ _ (cT hp _) ⟨(·=p),?_,λa q=>by cases q;exact hp⟩
 unfold Ow
 exact⟨p,[],nil,rfl,bW,rfl,λz=>z,λx=>⟨.inl,λz=>z.elim id False.elim⟩,by unfold eY;exact⟨λ_ z=>z,rfl⟩⟩
theorem Bq(hk:X.K=K:=by rfl):XN K X (.Dict [] [] pos) DP (fC (.dk [] [])):=⟨hk,il,aA3⟩
def Ui(f g:FT):FT:=λe=>(f e).bind λc=>if c=true then g e else some false
def fOr(f g:FT):FT:=λe=>(f e).bind λc=>if c=true then some true else g e
def Xg(f:FT):FT:=λe=>(f e).map λc=>!c
theorem aDH(h1:FJ K tc fc)(h2:FJ K td fd):FJ K (aCT tc td) (Ui fc fd):=λσ H e b Q re q k=>by
 unfold Ui at q
 obtain⟨c,q1,q2⟩:=aX q
 refine h1 σ H e c _ re q1 λH1 s1=>?_
 cases c with
 | true=>rw[if_pos rfl]at q2 ⊢;exact h2 σ H1 e b Q (re.same s1) q2 λH2 s2=>k H2 (s1.trans s2)
 | false=>rw[if_neg (by decide)]at q2 ⊢;cases q2;exact k H1 s1
theorem aFL(h1:FJ K tc fc)(h2:FJ K td fd):FJ K (tOr tc td) (fOr fc fd):=λσ H e b Q re q k=>by
 unfold fOr at q
 obtain⟨c,q1,q2⟩:=aX q
 refine h1 σ H e c _ re q1 λH1 s1=>?_
 cases c with
 | false=>rw[if_neg (by decide)]at q2 ⊢;exact h2 σ H1 e b Q (re.same s1) q2 λH2 s2=>k H2 (s1.trans s2)
 | true=>rw[if_pos rfl]at q2 ⊢;cases q2;exact k H1 s1
theorem aDI(h1:FJ K tc fc):FJ K (aCU tc) (Xg fc):=λσ H e b Q re q k=>by
 unfold Xg at q
 obtain⟨c,q1,rfl⟩:=mF q
 exact h1 σ H e c _ re q1 k
theorem XW.xt(h:XW K X e tc fc):XT K X e tc fc:=⟨h.hk,h.pw.pt,h.ev⟩
theorem aA4(h:XT K X a tc fc):XW K X (.BoolOp .And [a] pos) tc fc:=⟨h.hk,aAp h.pt,h.ev⟩
theorem aDJ(h:XT K X a tc fc):XW K X (.BoolOp .Or [a] pos) tc fc:=⟨h.hk,ak h.pt,h.ev⟩
theorem aDK(h:XT K X a tc fc)(h2:XW K X (.BoolOp .And (b::rest) pos) td fd):XW K X (.BoolOp .And (a::b::rest) pos) (aCT tc td) (Ui fc fd):=⟨h.hk,aCV h.pt h2.pw,aDH h.ev h2.ev⟩
theorem aFM(h:XT K X a tc fc)(h2:XW K X (.BoolOp .Or (b::rest) pos) td fd):XW K X (.BoolOp .Or (a::b::rest) pos) (tOr tc td) (fOr fc fd):=⟨h.hk,aB5 h.pt h2.pw,aFL h.ev h2.ev⟩
theorem FQ(h:XT K X a tc fc):XT K X (.UnaryOp .Not a pos) (aCU tc) (Xg fc):=⟨h.hk,aCW h.pt,aDI h.ev⟩
def aIP(f g:FE):FE:=λe=>(fB f e).bind λc=>if c=true then some (.bl true)else g e
def fIf(c:FT)(f g:FE):FE:=λe=>(c e).bind λb=>if b=true then f e else g e
theorem aCl(hc:XT K X c tc fc)(ha:XN K X a ta f)(hb:XN K X b tb g):XN K X (.IfExp c a b pos) (tIf tc ta tb) (fIf fc f g):=⟨ha.hk,ao hc.pt ha.pe hb.pe,λσ H e d Q re q k=>by
 unfold fIf at q
 obtain⟨c,q1,q2⟩:=aX q
 refine hc.ev σ H e c _ re q1 λH1 s1=>?_
 cases c with
 | true=>rw[if_pos rfl]at q2 ⊢;exact ha.ev σ H1 e d Q (re.same s1) q2 λv H2 s2 n=>k v H2 (s1.trans s2) (n.back s1)
 | false=>rw[if_neg (by decide)]at q2 ⊢;exact hb.ev σ H1 e d Q (re.same s1) q2 λv H2 s2 n=>k v H2 (s1.trans s2) (n.back s1)⟩
theorem aDL(ha:XR K X a ta f):XN K X (.UnaryOp .USub a pos) (tUn (rU λi=>.int (-i)) ta) (λe=>(f e).bind λd=>match d with | .int i=>some (.int (-i)) | _=>none):=⟨ha.hk,aFq aC7 ha.pe,λσ H e d Q re q k=>by
 obtain⟨c,q1,q2⟩:=aX q
 split at q2
 ·rename_i i
  cases q2
  refine ha.ev σ H H e _ _ (Zn.self K H) re q1 λv H1 Z1 s1 t1 z1 rv=>?_
  unfold Rv at rv
  exact⟨i,rv,k _ H1 s1 (.iI rfl (by unfold Rv;rfl))⟩
 ·cases q2⟩
def fL(φ:List D→Option D)(fs:FA):FE:=λe=>(fs e).bind φ
def wH(K:aD)(r:List V→Hp→VK→Prop)(φ:List D→Option D):Prop:=∀(vs:List V)(H:Hp)(ds:List D)(d:D)(Q:VK),eE K H ds vs→φ ds=some d →
 (∀v H',aU H H'→Nu K H H' d v→Q v H')→r vs H Q
theorem aCm{r:List V→Hp→VK→Prop}{φ:List D→Option D}(o:wH K r φ)(h:EvA K tA fs):Nv K (tCB r tA) (fL φ fs):=λσ H e d Q re q k=>by
 obtain⟨ds,q1,q2⟩:=aX q
 exact h σ H H e ds _ (Zn.self K H) re q1 λvs H1 Z1 s1 t1 z1 rs=>o vs H1 ds d Q (z1.sm.NB _ _ rs) q2 λv H2 s2 n=>k v H2 (s1.trans s2) (n.back s1)
theorem mK{r:List V→Hp→VK→Prop}{φ:List D→Option D}{x:Str}{id:String}{p:Pos}(o:wH K r φ)(hc:lV X (.builtin id) r)(hg:Gl X x)(hm:X.mg x=none)(hv:bootBuiltins x=some (.builtin id))(ha:XA K X (e::es) tA fs)(hn:x ≠ "__name__" := by decide) (hdb:(x==("__debug__" : Str))=false:=by decide)
  (he:starEach (e::es) X.env=(false,eval e X.env)::starEach es X.env:=by rfl) (hpl:(backTo pos (starEach es X.env)).any (·.1)=false:=by rfl):XN K X (.Call (.Name x p) (e::es) [] pos) (tCB r tA) (fL φ fs):=⟨ha.hk,Wu hc hg hm hv ha.pa hn hdb he hpl,aCm o ha.ev⟩
theorem Gm{r:List V→Hp→VK→Prop}{φ:List D→Option D}{x:Str}{id:String}{p:Pos}(o:wH K r φ)(hc:lV X (.type id) r)(hg:Gl X x)(hm:X.mg x=none)(hv:bootBuiltins x=some (.type id))(ha:XA K X (e::es) tA fs)(hn:x ≠ "__name__" := by decide) (hdb:(x==("__debug__" : Str))=false:=by decide)
  (he:starEach (e::es) X.env=(false,eval e X.env)::starEach es X.env:=by rfl) (hpl:(backTo pos (starEach es X.env)).any (·.1)=false:=by rfl):XN K X (.Call (.Name x p) (e::es) [] pos) (tCB r tA) (fL φ fs):=⟨ha.hk,Qh hc hg hm hv ha.pa hn hdb he hpl,aCm o ha.ev⟩
theorem qH{H:Hp}{d:D}{vs:List V}(h:eE K H [d] vs):∃v,vs=[v]∧Rv K H d v:=by
 unfold eE at h
 obtain⟨y,ys,rfl,h1,h2⟩:=h
 unfold eE at h2
 subst h2
 exact⟨y,rfl,h1⟩
theorem aDM{H:Hp}{d d':D}{vs:List V}(h:eE K H [d,d'] vs):∃v v',vs=[v,v']∧Rv K H d v∧Rv K H d' v':=by
 unfold eE at h
 obtain⟨y,ys,rfl,h1,h2⟩:=h
 obtain⟨v,rfl,h3⟩:=qH h2
 exact⟨y,v,rfl,h1,h3⟩
def pQ:List D→Option D
 | [d]=>(vP d).map λds=>.int ds.length
 | _=>none
def aFN(K:aD):List V→Hp→VK→Prop:=λxs H Q=>∃p ys,xs=[.ref p]∧(pY K H p ys∨vU K H p ys)∧Q (.int ys.length) H
theorem lM:wH K (aFN K) pQ:=λvs H ds d Q rs q k=>by
 unfold pQ at q
 split at q
 ·rename_i d0
  obtain⟨es,q1,rfl⟩:=mF q
  obtain⟨v,rfl,r⟩:=qH rs
  obtain⟨p,xs,rfl,r2,r3⟩:=Hw q1 r
  refine⟨p,xs,rfl,r2,k _ H (aU.refl _) (.iI rfl ?_)⟩
  rw[r3.length];unfold Rv;rfl
 ·cases q
theorem lN(hk:X.K=K):lV X (.builtin "len") (aFN K):=by subst hk;exact Tu
def dList:List D→Option D
 | [d]=>(vP d).bind λds=>if D.fZ ds=true then some (.lst ds)else none
 | _=>none
def aCn(K:aD):List V→Hp→VK→Prop:=λxs H Q=>∃p ys,xs=[.ref p]∧(pY K H p ys∨vU K H p ys)∧∀l,H l=none→Q (.ref l) (upd H l (.lst ys))
theorem xY:wH K (aCn K) dList:=λvs H ds d Q rs q k=>by
 unfold dList at q
 split at q
 ·rename_i d0
  obtain⟨es,q1,q2⟩:=aX q
  split at q2
  ·rename_i hi
   cases q2
   obtain⟨v,rfl,r⟩:=qH rs
   obtain⟨p,xs,rfl,r2,r3⟩:=Hw q1 r
   exact⟨p,xs,rfl,r2,λl hl=>k _ _ (cT hl _) (rB (aU.refl _) (.fZ hi r3) hl)⟩
  ·cases q2
 ·cases q
theorem xZ(hk:X.K=K):lV X (.type "list") (aCn K):=by subst hk;exact Tv
def FW:List D→Option D
 | [.dk ks ds]=>some (.lst (ks.map kD))
 | _=>none
theorem Qw:∀ks:List Key,D.fZ (ks.map kD)=true
 | []=>by rw[F8];unfold D.fZ;rfl
 | k::ks=>by rw[D2];unfold D.fZ;rw[Qw ks];cases k<;>(unfold kD D.iI;rfl)
theorem Xh{H:Hp}:∀ks:List Key,eE K H (ks.map kD) (ks.map kV)
 | []=>by rw[F8,F8];unfold eE;rfl
 | k::ks=>by rw[D2,D2];unfold eE;exact⟨_,_,rfl,by cases k<;>(unfold kD kV Rv;rfl),Xh ks⟩
def aDN:List V→Hp→VK→Prop:=λxs H Q=>∃p kvs,xs=[.ref p]∧Rd H p (.dK kvs)∧∀l,H l=none→Q (.ref l) (upd H l (.lst (kvs.map λkv=>kV kv.1)))
theorem ji{ks:List Key}{xs:List V}(h:ks.length=xs.length):((ks.zip xs).map λkv=>kV kv.1)=ks.map kV:=by
 have:((ks.zip xs).map λkv=>kV kv.1)=((ks.zip xs).map Prod.fst).map kV:=by rw[K0];rfl
 rw[this,g6 (by omega)]
theorem jj:wH K aDN FW:=λvs H ds d Q rs q k=>by
 unfold FW at q
 split at q
 ·rename_i ks es
  cases q
  obtain⟨v,rfl,r⟩:=qH rs
  unfold Rv at r
  obtain⟨p,xs,rfl,r2,r3,r4⟩:=r
  refine⟨p,_,rfl,r2,λl hl=>?_⟩
  rw[ji r3]
  exact k _ _ (cT hl _) (rB (aU.refl _) (.fZ (Qw ks) (Xh ks)) hl)
 ·cases q
def Ke:List D→Option D
 | [d]=>(vP d).bind λds=>if D.fZ ds=true then some (.tup ds)else none
 | _=>none
def jk(K:aD):List V→Hp→VK→Prop:=λxs H Q=>∃p ys,xs=[.ref p]∧((pY K H p ys∧∀l,H l=none→Q (.ref l) (upd H l (.tup ys)))∨(vU K H p ys∧Q (.ref p) H))
theorem jl:wH K (jk K) Ke:=λvs H ds d Q rs q k=>by
 unfold Ke at q
 split at q
 ·rename_i d0
  obtain⟨es,q1,q2⟩:=aX q
  split at q2
  ·rename_i hi
   cases q2
   obtain⟨v,rfl,r⟩:=qH rs
   obtain⟨p,xs,rfl,r2,r3⟩:=Hw q1 r
   refine⟨p,xs,rfl,?_⟩
   rcases r2 with r2 | r2
   ·exact .inl ⟨r2,λl hl=>k _ _ (cT hl _) (NP (.fZ hi r3) hl)⟩
   ·exact .inr ⟨r2,k _ H (aU.refl _) (.iI (by unfold D.iI;exact hi) (by unfold Rv;exact⟨p,xs,rfl,r2,r3⟩))⟩
  ·cases q2
 ·cases q
theorem jm(hk:X.K=K):lV X (.type "tuple") (jk K):=by subst hk;exact Ob
def intsOf:List D→Option (List Int)
 | []=>some []
 | .int i::ds=>(intsOf ds).map (i::·)
 | _=>none
theorem jL:∀ns:List Int,intsOf (ns.map D.int)=some ns
 | []=>rfl
 | n::ns=>by rw[D2];unfold intsOf;rw[jL ns];rfl
theorem rC:∀{ds:List D} {ns:List Int},intsOf ds=some ns→ds=ns.map D.int
 | [],ns,h=>by unfold intsOf at h;cases h;rfl
 | d::ds,ns,h=>by
  cases d with
  | int i=>
   unfold intsOf at h
   obtain⟨ms,h1,rfl⟩:=mF h
   rw[D2,←rC h1]
  | _=>unfold intsOf at h;cases h
theorem gZ{H:Hp}:∀{ns:List Int} {xs:List V},eE K H (ns.map D.int) xs↔xs=ns.map V.int
 | [],xs=>by rw[F8,F8];unfold eE;rfl
 | n::ns,xs=>by
  rw[D2,D2]
  unfold eE
  constructor
  ·rintro⟨y,ys,rfl,h1,h2⟩
   unfold Rv at h1
   rw[h1,gZ.mp h2]
  ·rintro rfl
   exact⟨_,_,rfl,by unfold Rv;rfl,gZ.mpr rfl⟩
theorem cV:∀ns:List Int,D.fZ (ns.map D.int)=true
 | []=>by rw[F8];unfold D.fZ;rfl
 | n::ns=>by rw[D2];unfold D.fZ D.iI;rw[cV ns];rfl
theorem wI{H:Hp}{ds:List D}{ns:List Int}{v:V}(h:intsOf ds=some ns)(r:Rv K H (.lst ds) v):∃p,v=.ref p∧pY K H p (ns.map V.int):=by
 rw[rC h]at r
 unfold Rv at r
 obtain⟨p,xs,r1,r2,r3⟩:=r
 rw[gZ.mp r3]at r2
 exact⟨p,r1,r2⟩
def sortI(ns:List Int):List Int:=ns.mergeSort λa b=>decide (a≤b)
theorem pR(ns:List Int):rising ns (sortI ns):=⟨List.mergeSort_perm _ _,by
 have h:=List.pairwise_mergeSort (le:=λa b:Int=>decide (a≤b)) (λa b c h1 h2=>decide_eq_true (Int.le_trans (of_decide_eq_true h1) (of_decide_eq_true h2))) (λa b=>by
  rw[i3,decide_eq_true_iff,decide_eq_true_iff];exact Int.le_total a b) ns
 exact h.imp λh=>of_decide_eq_true h⟩
theorem Qx:∀{l m:List Int},l.Pairwise (·≤·)→m.Pairwise (·≤·)→l.Perm m→l=m
  | [],m,_,_,p=>(List.Perm.nil_eq p)
  | a::l,[],_,_,p=>absurd p.symm (by simp)
  | a::l,b::m,h1,h2,p=>by
    obtain⟨h1a,h1b⟩:=G1.mp h1
    obtain⟨h2a,h2b⟩:=G1.mp h2
    have e:a=b:=by
      have q1:a∈b::m:=p.mem_iff.mp D1
      have q2:b∈a::l:=p.mem_iff.mpr D1
      rcases C6.mp q1 with q1 | q1
      · exact q1
      · rcases C6.mp q2 with q2 | q2
        · exact q2.symm
        · have:=h1a b q2
          have:=h2a a q1
          omega
    subst e
    rw[Qx h1b h2b (List.Perm.cons_inv p)]
theorem Br{ns ms:List Int}(h:rising ns ms):ms=sortI ns:=Qx h.2 (pR ns).2 (h.1.trans (pR ns).1.symm)
def Hy:List D→Option D
 | [.lst ds]=>(intsOf ds).bind λns=>if ns.length<64 then some (.lst ((sortI ns).map D.int))else none
 | _=>none
def NZ(K:aD):List V→Hp→VK→Prop:=λxs H Q=>∃(p:Addr)(ns:List Int),xs=[.ref p]∧pY K H p (ns.map V.int)∧ns.length<64∧∀l ms,H l=none→rising ns ms→Q (.ref l) (upd H l (.lst (ms.map V.int)))
theorem VP:wH K (NZ K) Hy:=λvs H ds d Q rs q k=>by
 unfold Hy at q
 split at q
 ·obtain⟨ns,q1,q2⟩:=aX q
  split at q2
  ·rename_i hl
   cases q2
   obtain⟨v,rfl,r⟩:=qH rs
   obtain⟨p,rfl,r2⟩:=wI q1 r
   refine⟨p,ns,rfl,r2,hl,λl ms hl hr=>?_⟩
   rw[Br hr]
   exact k _ _ (cT hl _) (rB (aU.refl _) (.fZ (cV _) (gZ.mpr rfl)) hl)
  ·cases q2
 ·cases q
theorem VR(hk:X.K=K):lV X (.builtin "sorted") (NZ K):=by subst hk;exact Wz
def aHZ:List D→Option D
 | [.int i,.int j]=>some (.int (if j > i then j else i))
 | _=>none
def aH0:List D→Option D
 | [.int i,.int j]=>some (.int (if j<i then j else i))
 | _=>none
def FZ:List Int→Int
 | []=>0
 | [a]=>a
 | a::b::l=>let m:=FZ (b::l);if m<a then m else a
theorem zZ:∀{ns:List Int},0<ns.length→Hu ns (FZ ns)
 | [],h=>absurd h (by simp)
 | [a],_=>⟨E8.mpr rfl,λb hb=>by rw[E8.mp hb];exact f6 _⟩
 | a::b::l,_=>by
  obtain⟨h1,h2⟩:=zZ (ns:=b::l) (by simp)
  unfold FZ
  dsimp only
  split
  ·rename_i c
   refine⟨C7 _ h1,λx hx=>?_⟩
   rcases C6.mp hx with q | q
   ·omega
   ·exact h2 x q
  ·rename_i c
   refine⟨D1,λx hx=>?_⟩
   rcases C6.mp hx with q | q
   ·omega
   ·have:=h2 x q;omega
theorem GC{ns:List Int}{m:Int}(h:Hu ns m):m=FZ ns:=by
 obtain⟨h1,h2⟩:=zZ (List.length_pos_of_mem h.1)
 have:=h.2 _ h1
 have:=h2 _ h.1
 omega
def OD:List D→Option D
 | [.lst ds]=>(intsOf ds).bind λns=>if 0<ns.length then some (.int (FZ ns))else none
 | _=>none
def aCo(K:aD):List V→Hp→VK→Prop:=λxs H Q=>∃(p:Addr)(ns:List Int),xs=[.ref p]∧pY K H p (ns.map V.int)∧0<ns.length∧∀m,Hu ns m→Q (.int m) H
theorem aA5:wH K (aCo K) OD:=λvs H ds d Q rs q k=>by
 unfold OD at q
 split at q
 ·obtain⟨ns,q1,q2⟩:=aX q
  split at q2
  ·rename_i hl
   cases q2
   obtain⟨v,rfl,r⟩:=qH rs
   obtain⟨p,rfl,r2⟩:=wI q1 r
   refine⟨p,ns,rfl,r2,hl,λm hm=>?_⟩
   rw[GC hm]
   exact k _ H (aU.refl _) (.iI rfl (by unfold Rv;rfl))
  ·cases q2
 ·cases q
theorem aA6(hk:X.K=K)(hc:X.calm=true:=by rfl):lV X (.builtin "min") (aCo K):=by subst hk;exact VJ hc
end
end L2


namespace L2
open PySem PySem.Spec PyProof.Rows
section
variable{K:aD}{X:Cx}{e a b c:Expr}{es rest:List Expr}{t ta tb:TE}{f g:FE}{tA:TA}{fs:FA}{pos:Pos}{tc:TT}{fc fd:FT}{td:TT}
abbrev FO:=DE→Option (Option Int)
def EvO(K:aD)(t:TO)(f:FO):Prop:=∀(σ:St)(H:Hp)(e:DE)(o:Option Int)(Q:Option Int→Hp→Prop),yV K H e σ→f e=some o→(∀H',aU H H'→Q o H')→t σ H Q
structure XO(K:aD)(X:Cx)(e:Option Expr)(t:TO)(f:FO):Prop where
 po:PO X e t
 ev:EvO K t f
variable{lo hi:Option Expr}{tl th:TO}{fl fh:FO}{p2:Pos}
def jn(K:aD):R2:=λx y H Q=>∃l b xs zs,x=.ref l∧y=.ref b∧pY K H l xs∧pY K H b zs∧xs.length+zs.length≤sizeLine∧∀p,H p=none→Q (.ref p) (upd H p (.lst (xs++zs)))
theorem aA7(hk:X.K=K):sY X (binaryOp .Add) (jn K):=by
 subst hk
 intro pins s σ H x y v u Q I rx ry h
 obtain⟨l,b,xs,zs,rfl,rfl,h1,h2,hz,q⟩:=h
 cases rx
 cases ry
 obtain⟨its,r,pl,_⟩:=I.list h1
 obtain⟨its2,r2,Xa,_⟩:=I.list h2
 obtain⟨⟨cl,dd,da,sl⟩,ho,hc,n,hd⟩:=pl.isList
 obtain⟨⟨cl2,dd2,da2,sl2⟩,ho2,hc2,n2,hd2⟩:=Xa.isList
 dsimp only at hc hd hc2 hd2
 subst hc hd hc2 hd2
 have hlen:its.toArray.size+its2.toArray.size≤sizeLine:=by rw[C9,C9,←r.length,←r2.length];exact hz
 have ea:its.toArray++its2.toArray=(its++its2).toArray:=by simp
 refine concat_meets ⟨_,ho,rfl⟩ ⟨_,ho2,rfl⟩ noFill_list_add seq_list_add PySem.F.slot_list_add PySem.F.entry_list_add (PySem.F.args_list_add_2 _ _)
  (list_addW l b its.toArray its2.toArray n n2 dd dd2 sl sl2 hlen) ⟨ho,ho2,?_⟩
 rw[ea]
 exact⟨.ref _,_,I.aFA (t':=s.toks) (r.append r2) (by rw[D4];exact hz),rfl,q _ I.fresh⟩
def fP(a b:D):Option D:=match a,b with
 | .int i,.int j=>some (.int (i+j))
 | .lst x,.lst y=>if D.fZ (x++y)=true∧x.length+y.length≤100000 then some (.lst (x++y))else none
 | _,_=>none
theorem eE.append{H:Hp}:∀{ds es:List D} {xs ys:List V},eE K H ds xs→eE K H es ys→eE K H (ds++es) (xs++ys)
 | [],es,xs,ys,h,h'=>by unfold eE at h;subst h;exact h'
 | d::ds,es,xs,ys,h,h'=>by unfold eE at h;obtain⟨y,yt,rfl,h1,h2⟩:=h;rw[P5,P5];unfold eE;exact⟨y,_,rfl,h1,eE.append h2 h'⟩
theorem aA8:Xd K (λx y H Q=>ZQ (λi j=>.int (i+j)) x y H Q∨jn K x y H Q) fP:=λx y H a b d Q ra rb q k=>by
 unfold fP at q
 split at q
 ·cases q;unfold Rv at ra rb;exact .inl ⟨_,_,ra,rb,k _ H (aU.refl _) (.iI rfl (by unfold Rv;rfl))⟩
 ·split at q
  ·rename_i c
   cases q
   unfold Rv at ra rb
   obtain⟨p,xs,rfl,r2,r3⟩:=ra
   obtain⟨p',xs',rfl,r2',r3'⟩:=rb
   refine .inr ⟨p,p',xs,xs',rfl,rfl,r2,r2',Qt (by rw[r3.length,r3'.length];exact c.2),λl hl=>?_⟩
   exact k _ _ (cT hl _) (rB (aU.refl _) (.fZ c.1 (r3.append r3')) hl)
  ·cases q
 ·cases q
theorem cO(ha:XR K X a ta f)(hb:XR K X b tb g):XN K X (.BinOp a .Add b pos) (Pz (λx y H Q=>ZQ (λi j=>.int (i+j)) x y H Q∨jn K x y H Q) ta tb) (f2 fP f g):=Qv (aC2.or (aA7 ha.hk)) aA8 ha hb
def EvI(K:aD)(wi:TI)(fi:FA):Prop:=∀{N:Fp}(σ:St)(H Z:Hp)(e:DE)(ds:List D)(R:It→Hp→Prop),Zn K N Z H→yV K Z e σ→fi e=some ds →
 (∀J H' Z' P vs,aU H H'→aU Z Z'→Zn K N Z' H'→JIs J P vs→(∀H2,aU Z' H2→P H2)→eE K Z' ds vs→R J H')→wi σ H R
structure XI(K:aD)(X:Cx)(tg iter:Expr)(wi:TI)(fi:FA):Prop where
 hk:X.K=K
 pi:PI X tg iter wi
 ev:EvI K wi fi
def yX(f:FE):FA:=λe=>(f e).bind vP
def aDO(K:aD)(t:TE):TI:=λσ H R=>aB9 K t σ H R∨aFn K t σ H R
theorem wJ{tg:Expr}(h:XR K X e t f):XI K X tg e (aDO K t) (yX f):=⟨h.hk,by
 have hk:=h.hk
 subst hk
 exact λpins s σ H R I q=>q.elim (KN h.pe pins s σ H R I) (bh h.pe pins s σ H R I),λσ H Z e ds R z re q k=>by
 unfold yX at q
 obtain⟨d,q1,q2⟩:=aX q
 cases d with
 | lst es=>
  unfold vP at q2;cases q2
  refine .inl (h.ev σ H Z e _ _ z re q1 λv H1 Z1 s1 t1 z1 rv=>?_)
  unfold Rv at rv
  obtain⟨p,xs,rfl,r2,r3⟩:=rv
  exact⟨p,rfl,⟨xs,z1.sm.seq r2⟩,k _ H1 Z1 _ xs s1 t1 z1 Wy (λH2 s=>s.seq r2) r3⟩
 | tup es=>
  unfold vP at q2;cases q2
  refine .inr (h.ev σ H Z e _ _ z re q1 λv H1 Z1 s1 t1 z1 rv=>?_)
  unfold Rv at rv
  obtain⟨p,xs,rfl,r2,r3⟩:=rv
  exact⟨p,rfl,⟨xs,z1.sm.tup r2⟩,k _ H1 Z1 _ xs s1 t1 z1 aAR (λH2 s=>s.tup r2) r3⟩
 | _=>unfold vP at q2;cases q2⟩
def iB(lo:Int)(n:Nat):List D:=(D5 n).map λi:Nat=>D.int (lo+(i:Int))
theorem Ek{H:Hp}(lo:Int)(n:Nat):eE K H (iB lo n) ((D5 n).map λi:Nat=>V.int (lo+(i:Int))):=by
 unfold iB
 refine eE.of (by simp) λi d x h1 h2=>?_
 rw[C5]at h1 h2
 cases q:(D5 n)[i]? with
 | none=>rw[q]at h1;cases h1
 | some j=>rw[q]at h1 h2;cases h1;cases h2;unfold Rv;rfl
def lim(i:Int):Bool:=decide (-100000≤i∧i≤100000)
def pK(fs:FA):FA:=λe=>(fs e).bind λds=>match ds with
 | [.int n]=>if lim n=true then some (iB 0 n.toNat)else none
 | _=>none
def Xi(fs:FA):FA:=λe=>(fs e).bind λds=>match ds with
 | [.int i,.int j]=>if lim i=true∧lim j=true then some (iB i (j-i).toNat)else none
 | _=>none
theorem Uj{i:Int}(h:lim i=true):-100000≤i∧i≤100000:=of_decide_eq_true h
theorem El{tg:Expr}{p:Pos}(hg:Gl X "range") (hm:X.mg "range" = none) (ha:XA K X [a] tA fs) (hs:starEach [a] X.env=[(false,eval a X.env)]:=by rfl):XI K X tg (.Call (.Name "range" p) [a] [] pos) (bj tA) (pK fs):=⟨ha.hk,Py hg hm ha.pa hs,λσ H Z e ds R z re q k=>by
 unfold pK at q
 obtain⟨es,q1,q2⟩:=aX q
 split at q2
 ·rename_i n
  split at q2
  ·rename_i hl
   cases q2
   have hl:=Uj hl
   refine ha.ev σ H Z e _ _ z re q1 λvs H1 Z1 s1 t1 z1 rs=>?_
   obtain⟨v,rfl,r⟩:=qH rs
   unfold Rv at r
   subst r
   exact⟨n,rfl,by omega,by omega,k _ H1 Z1 _ _ s1 t1 z1 Ef (λ_ _=>True.intro) (Ek 0 n.toNat)⟩
  ·cases q2
 ·cases q2⟩
def rF(e:DE)(fr:List Nat):DE:=fr.map λi=>(e[i]?).getD none
theorem aA9{H:Hp}{e:DE}{σ:St}{fr:List Nat}{d:D}{x:V}(re:yV K H e σ)(r:Rv K H d x):yV K H (some d::rF e fr) (some x::DR σ fr):=λi d' h=>by
 cases i with
 | zero=>simp at h;subst h;exact⟨x,rfl,r⟩
 | succ i=>
  rw[List.getElem?_cons_succ]at h ⊢
  unfold rF at h
  unfold DR
  rw[C5]at h ⊢
  cases q:fr[i]? with
  | none=>rw[q]at h;cases h
  | some j=>
   rw[q]at h
   have h:(e[j]?).getD none=some d':=F0 h
   have h2:e[j]?=some (some d'):=by
    cases q2:e[j]? with
    | none=>rw[q2]at h;cases h
    | some o=>rw[q2]at h;rw[show o=some d' from h]
   obtain⟨v,h3,h4⟩:=re j d' h2
   refine⟨v,?_,h4⟩
   show some (σ.getD j none)=_
   rw[C4,h3]
   rfl
def mL(c:D→Option Bool)(el:D→Option D):List D→Option (List D)
 | []=>some []
 | x::xs=>(c x).bind λb=>if b=true then(el x).bind λy=>(mL c el xs).map (y::·)else mL c el xs
def jM(fi:FA)(fr:List Nat)(fc:FT)(fe:FE):FE:=λe=>(fi e).bind λxs=>if xs.length≤100000 then(mL (λx=>fc (some x::rF e fr)) (λx=>fe (some x::rF e fr)) xs).map D.lst else none
theorem rY{H:Hp}{p:Addr}{o:HO}(n:vC H p):Bm K H (upd H p o):=λa xs h=>h.upd n
theorem OJ{wi:TI}{fi:FA}{fr:List Nat}{te:TE}{fe:FE}(hi:EvI K wi fi)(hc:FJ K tc fc)(he:Nv K te fe):Nv K (Ww wi 1 fr (fY 0) tc te) (jM fi fr fc fe):=by
 intro σ H e d Q re q k
 unfold jM at q
 obtain⟨xs,q1,q⟩:=aX q
 split at q
 ·rename_i hlen
  obtain⟨ds,q2,rfl⟩:=mF q
  refine hi σ H H e xs _ (Zn.self K H) re q1 λJ H1 Z1 P vs s1 t1 z1 hJ hP rvs=>?_
  intro D0 hD
  have hl:=rvs.length
  have hHD:H D0=none:=s1.free hD
  generalize hcc:(λx=>fc (some x::rF e fr))=cc at q2
  generalize hel:(λx=>fe (some x::rF e fr))=el at q2
  refine⟨λi m ys H2=>∃ds1 ds2 A,m=vs.length-i∧i≤vs.length∧ds=ds1++ds2∧mL cc el (xs.drop i)=some ds2∧aU H1 H2∧H2 D0=some (.lst ys)∧eY K H2 ds1 A ys∧(∀a,A a→H1 a=none∧a≠D0)∧ys.length≤i,
   ⟨vs.length,[],ds,nil,by simp,M3 _,rfl,by simpa using q2,cT hD _,bW,by unfold eY;exact⟨λ_ z=>z,rfl⟩,λ_ z=>z.elim,C8 _⟩,?_⟩
  rintro i m ys H2 ⟨ds1,ds2,A,rfl,hi',hds,hcl,s2,hD2,ow,fr2,hyl⟩
  obtain⟨j1,j2,j3⟩:=hJ i H2 (hP H2 (z1.sm.trans s2))
  refine⟨hD2,?_⟩
  by_cases hlt:i<vs.length
  ·refine .inr ⟨j1 hlt,λx H' y=>?_⟩
   obtain⟨e1,ex⟩:=j2 x H' y
   subst e1
   have hx:=ex hlt
   have hxi:i<xs.length:=by omega
   have hxs:xs.drop i=xs[i]::xs.drop (i+1):=P0 hxi
   obtain⟨x',hx',rx⟩:=rvs.get (B6 hxi)
   rw[hx]at hx'
   cases hx'
   rw[hxs]at hcl
   unfold mL at hcl
   obtain⟨bb,c1,c2⟩:=aX hcl
   show Kp 1 σ fr (some x::DR σ fr)∧_
   refine⟨⟨by simp[blk],λj v hv=>?_⟩,?_⟩
   ·cases j with
    | zero=>simp[blk]at hv
    | succ j=>simpa[blk]using hv
   have re2:yV K H' (some xs[i]::rF e fr) (some x::DR σ fr):=aA9 (re.same (s1.trans s2)) ((z1.sm.trans s2).rv _ _ rx)
   refine hc _ H' _ bb _ re2 (by rw[←hcc]at c1;exact c1) λH3 s3=>?_
   have hD3:=s3 _ _ hD2
   cases bb with
   | false=>
    rw[if_neg (by decide)]at c2 ⊢
    exact⟨vs.length-(i+1),by omega,ds1,ds2,A,rfl,by omega,hds,c2,s2.trans s3,hD3,ow.same s3,fr2,by omega⟩
   | true=>
    rw[if_pos rfl]at c2 ⊢
    obtain⟨dy,c3,c4⟩:=aX c2
    obtain⟨ds3,c5,rfl⟩:=mF c4
    refine he _ H3 _ dy _ (re2.same s3) (by rw[←hel]at c3;exact c3) λyv H4 s4 n4=>?_
    have hD4:=s4 _ _ hD3
    refine⟨hD4,Qu (by omega),vs.length-(i+1),by omega,ds1++[dy],ds3,?_⟩
    obtain⟨B,oB,fB⟩:=n4
    have hB:∀a,B a→H1 a=none∧a≠D0:=λa qa=>⟨(s2.trans s3).free (fB a qa),λz=>by have q0:=fB a qa;rw[z,hD3]at q0;cases q0⟩
    refine⟨fH A B,rfl,by omega,by rw[hds];simp,c5,λb o eb=>?_,bW,?_,λa qa=>qa.elim (fr2 a) (hB a),by rw[D4];simp;exact hyl⟩
    ·rw[bL (fX eb hD)]
     exact(s2.trans (s3.trans s4)) b o eb
    ·have o4:=(ow.same s3).same s4
     have ap:Apart A B:=λa qa qb=>by
      obtain⟨⟨u,eu⟩,_⟩:=eY.cells _ _ _ (ow.same s3) a qa
      rw[fB a qb]at eu;cases eu
     have all:eY K H4 (ds1++[dy]) (fH A B) (ys++[yv]):=cN.mpr ((cN.mp o4).snoc oB ap)
     exact eY.frame (rY (tM hD4)) _ _ _ all λa qa=>bL (qa.elim (λz=>(fr2 a z).2) λz=>(hB a z).2)
  ·have ei:i=vs.length:=by omega
   subst ei
   have:xs.drop vs.length=[]:=List.drop_eq_nil_of_le (by omega)
   rw[this]at hcl
   unfold mL at hcl
   cases hcl
   rw[G0]at hds
   subst hds
   refine .inl ⟨j3 (C8 _),k _ H2 (s1.trans s2) ⟨fH (·=D0) A,?_,λa qa=>qa.elim (λz=>by cases z;exact hHD) λz=>s1.free (fr2 a z).1⟩⟩
   unfold Ow
   exact⟨D0,ys,A,rfl,hD2,λz=>(fr2 D0 z).2 rfl,λ_=>Iff.rfl,ow⟩
 ·cases q
def qI:FT:=λ_=>some true
structure XTs(K:aD)(X:Cx)(ifs:List Expr)(t:TT)(f:FT):Prop where
 pts:PTs X ifs t
 ev:FJ K t f
theorem uK:XTs K X [] aFE qI:=⟨aAL,λσ H e b Q re q k=>by cases q;exact k H (aU.refl _)⟩
theorem Uk(h:XT K X c tc fc):XTs K X [c] tc fc:=⟨aAM h.pt,h.ev⟩
theorem rG{tg elt iter:Expr}{ifs:List Expr}{scope:Scope}{wi:TI}{fi:FA}{te:TE}{fe:FE}(N:List Str)(fr:List Nat)(hcalm:X.calm=true)(B:iQ X.env.scope scope X.N N 1 fr)(hi:XI K X tg iter wi fi)
  (hg:∀cl fp s H C,PG (iW X scope N cl fp s H C) tg (fY 0)) (hc:∀cl fp s H C,XTs K (iW X scope N cl fp s H C) ifs tc fc) (he:∀cl fp s H C,XN K (iW X scope N cl fp s H C) elt te fe)
  (hs:∀x,foldedSetIterable iter X.env x=pure x:=by intro _;rfl):XN K X (.ListComp elt [⟨tg,iter,ifs,0⟩] scope pos) (Ww wi 1 fr (fY 0) tc te) (jM fi fr fc fe):=
 ⟨hi.hk,aAP N 1 fr hcalm B hi.pi hg (λcl fp s H C=>(hc cl fp s H C).pts) (λcl fp s H C=>(he cl fp s H C).pe) hs,
  OJ hi.ev (hc [] [] X.s₀ X.H₀ 0).ev (he [] [] X.s₀ X.H₀ 0).ev⟩
def gP(K:aD)(n:Nat)(F:List D→Option D):Sp:=λvs H Q _=>∃ds d,ds.length=n∧eE K H ds vs∧F ds=some d∧∀v H',aU H H'→Nu K H H' d v→Q v H'
def cM(n:Nat)(F:List D→Option D)(fs:FA):FE:=λe=>(fs e).bind λds=>if ds.length=n then F ds else none
theorem bY{x:Str}{k n:Nat}{F:List D→Option D}{p:Pos}(C:sW X.prog X.w X.K X.mg X.base x k n (gP K n F))(hr:gD k X.A)(hg:Gl X x)(ha:XA K X (e::es) tA fs)(hdb:(x==("__debug__" : Str))=false:=by decide)
  (he:starEach (e::es) X.env=(false,eval e X.env)::starEach es X.env:=by rfl) (hpl:(backTo pos (starEach es X.env)).any (·.1)=false:=by rfl):XN K X (.Call (.Name x p) (e::es) [] pos) (Qc (gP K n F) [] E0 tA) (cM n F fs):=
 ⟨ha.hk,jc C hr hg ha.pa hdb he hpl,λσ H e d Q re q k=>by
  unfold cM at q
  obtain⟨ds,q1,q2⟩:=aX q
  split at q2
  ·rename_i hl
   refine call_of (ha.ev σ H H e ds _ (Zn.self K H) re q1 λvs H1 Z1 s1 t1 z1 rs=>?_)
   exact⟨ds,d,hl,z1.sm.NB _ _ rs,q2,λv H2 s2 n=>k v H2 (s1.trans s2) (n.back s1)⟩
  ·cases q2⟩
end
end L2


namespace L2
open PySem PySem.Spec PyProof.Rows
inductive SD where
  | no | fro (d:D) | own (d:D) | inn (v:V) (d:D)
def SD.z:SD→Option D
 | .fro d=>some d
 | .own d=>if d.iI=true then some d else none
 | .inn _ d=>if d.iI=true then some d else none
 | .no=>none
def SD.r:SD→Option D
 | .fro d=>some d
 | .own d=>some d
 | .inn _ d=>some d
 | .no=>none
abbrev EN:=List SD
def zE(env:EN):DE:=env.map SD.z
def rE(env:EN):DE:=env.map SD.r
def jD(K:aD)(H Z:Hp):SD→Fp→Option V→Prop
 | .no,A,_=>None A
 | .fro d,A,y=>None A∧∃v,y=some v∧Rv K Z d v
 | .own d,A,y=>∃v,y=some v∧Ow K H d A v
 | .inn v d,A,y=>y=some v∧Ow K H d A v
def Rel(K:aD)(B:Hp)(env:EN)(σ:St)(H:Hp):Prop:=∃A,gY (jD K H (out H A)) env A σ∧aU B (out H A)
section
variable{K:aD}{B B' H H' Z Z':Hp}{env:EN}{σ:St}{A:Fp}
theorem gY.all{α β:Type}{R:α→Fp→β→Prop}{Pr:Addr→Prop}:∀{ds:List α} {A:Fp} {ys:List β},gY R ds A ys→(∀d B y,R d B y→∀a,B a→Pr a)→∀a,A a→Pr a
 | [],A,ys,h,_,a,q=>absurd q (h.1 a)
 | d::ds,A,ys,⟨y,yt,A1,A2,h1,h2,h3,h4,h5⟩,m,a,q=>((h3 a).mp q).elim (m _ _ _ h4 a) (gY.all h5 m a)
theorem jD.cells{s:SD}{y:Option V}(h:jD K H Z s A y):∀a,A a→nM H a:=by
 cases s with
 | no=>exact λa q=>absurd q (h a)
 | fro d=>exact λa q=>absurd q (h.1 a)
 | own d=>obtain⟨v,_,o⟩:=h;exact Ow.cells d A v o
 | inn v d=>exact Ow.cells d A v h.2
theorem iT(h:gY (jD K H Z) env A σ):∀a,A a→nM H a:=gY.all h λ_ _ _ q=>q.cells
theorem Rel.len(h:Rel K B env σ H):σ.length=env.length:=let ⟨_,s,_⟩:=h;s.len
theorem Rel.mono(h:Rel K B' env σ H)(s:aU B B'):Rel K B env σ H:=let ⟨A,a,b⟩:=h;⟨A,a,s.trans b⟩
theorem bU{A A':Fp}(s:aU H H')(h:∀a,A' a→A a∨H a=none):aU (out H A) (out H' A'):=λb o e=>by
 obtain⟨e1,e2⟩:=bD.mp e
 refine bD.mpr ⟨λq=>?_,s b o e2⟩
 rcases h b q with q | q
 ·exact e1 q
 ·rw[q]at e2;cases e2
theorem jD.same{s:SD}{y:Option V}(h:jD K H Z s A y)(e:aU H H')(z:aU Z Z'):jD K H' Z' s A y:=by
 cases s with
 | no=>exact h
 | fro d=>obtain⟨h1,v,h2,h3⟩:=h;exact⟨h1,v,h2,z.rv _ _ h3⟩
 | own d=>obtain⟨v,h1,h2⟩:=h;exact⟨v,h1,h2.same e⟩
 | inn v d=>exact⟨h.1,h.2.same e⟩
theorem Rel.same(h:Rel K B env σ H)(s:aU H H'):Rel K B env σ H':=by
 obtain⟨A,a,b⟩:=h
 have g:aU (out H A) (out H' A):=bU s λa q=>.inl q
 exact⟨A,a.mono λe C z _ q=>q.same s g,b.trans g⟩
theorem Kf(h:gY (jD K H (out H A)) env A σ):Zn K A (out H A) H:=⟨jK H A,Ud λa q=>(iT h a q).2,λa q=>⟨by
 unfold out;rw[if_pos q],λz=>by obtain⟨⟨o,e⟩,_⟩:=iT h a q;rw[z]at e;cases e⟩⟩
theorem Rel.r(h:Rel K B env σ H):yV K H (rE env) σ:=λi d q=>by
 obtain⟨A,a,b⟩:=h
 unfold rE at q
 rw[C5]at q
 cases e:env[i]? with
 | none=>rw[e]at q;cases q
 | some s=>
  rw[e]at q
  obtain⟨y,A1,C,h1,h2,h3,h4,_⟩:=a.focus e
  cases s with
  | no=>cases q
  | fro d0=>cases q;obtain⟨_,v,rfl,h5⟩:=h4;exact⟨v,h1,(jK H A).rv _ _ h5⟩
  | own d0=>cases q;obtain⟨v,rfl,h5⟩:=h4;exact⟨v,h1,Ow.rv _ _ _ h5⟩
  | inn v d0=>cases q;obtain⟨rfl,h5⟩:=h4;exact⟨v,h1,Ow.rv _ _ _ h5⟩
theorem aCp(a:gY (jD K H (out H A)) env A σ):yV K (out H A) (zE env) σ:=λi d q=>by
 unfold zE at q
 rw[C5]at q
 cases e:env[i]? with
 | none=>rw[e]at q;cases q
 | some s=>
  rw[e]at q
  obtain⟨y,A1,C,h1,h2,h3,h4,_⟩:=a.focus e
  cases s with
  | no=>cases q
  | fro d0=>cases q;obtain⟨_,v,rfl,h5⟩:=h4;exact⟨v,h1,h5⟩
  | own d0=>
   obtain⟨v,rfl,h5⟩:=h4
   have q:(if d0.iI=true then some d0 else none)=some d:=F0 q
   split at q
   ·rename_i im
    cases q
    exact⟨v,h1,(wF _ v im (Ow.rv _ _ _ h5)).out (λ_ z=>z.elim) λx hx=>(iT a x hx).2⟩
   ·cases q
  | inn v d0=>
   obtain⟨rfl,h5⟩:=h4
   have q:(if d0.iI=true then some d0 else none)=some d:=F0 q
   split at q
   ·rename_i im
    cases q
    exact⟨v,h1,(wF _ v im (Ow.rv _ _ _ h5)).out (λ_ z=>z.elim) λx hx=>(iT a x hx).2⟩
   ·cases q
theorem Rel.own{i:Nat}{d:D}{v:V}(h:Rel K B env σ H)(hi:i<env.length)(s:aU H H')(n:Nu K H H' d v):Rel K B (env.set i (.own d)) (σ.set i (some v)) H':=by
 obtain⟨A,a,b⟩:=h
 obtain⟨N,o,f⟩:=n
 have cl:=iT a
 obtain⟨y,A1,C,h1,h2,h3,h4,k⟩:=a.focus (B6 hi)
 have g:aU (out H A) (out H' (fH N C)):=bU s λx q=>q.elim (λq=>.inr (f x q)) λq=>.inl ((h3 x).mpr (.inr q))
 refine⟨fH N C,k (jD K H' (out H' (fH N C))) (λe D z _ q=>q.same s g) (.own d) (some v) N (λx q c=>?_) ⟨v,rfl,o⟩,b.trans g⟩
 obtain⟨⟨u,e⟩,_⟩:=cl x ((h3 x).mpr (.inr c))
 rw[f x q]at e;cases e
theorem Hz{i:Nat}{d:D}{v:V}(a:gY (jD K H (out H A)) env A σ)(b:aU B (out H A))(hi:i<env.length)(s:aU H H')(t:aU (out H A) Z')(z:Zn K A Z' H')(r:Rv K Z' d v):Rel K B (env.set i (.fro d)) (σ.set i (some v)) H':=by
 obtain⟨y,A1,C,h1,h2,h3,h4,k⟩:=a.focus (B6 hi)
 have hC:∀x,fH nil C x→A x:=λx q=>q.elim False.elim λq=>(h3 x).mpr (.inr q)
 have g:aU (out H A) (out H' (fH nil C)):=bU s λx q=>.inl (hC x q)
 have g2:aU Z' (out H' (fH nil C)):=λx o e=>bD.mpr ⟨λq=>(by rw[(z.no x (hC x q)).1]at e;cases e),z.sm x o e⟩
 exact⟨fH nil C,k (jD K H' (out H' (fH nil C))) (λe D z _ q=>q.same s g) (.fro d) (some v) nil (λx q c=>q) ⟨λ_ z=>z,v,rfl,g2.rv _ _ r⟩,b.trans g⟩
def jo(env:EN)(j:Nat):EN:=match env[j]? with
 | some (.own d)=>env.set j (.fro d)
 | _=>env
def Bf(js:List Nat)(env:EN):EN:=js.foldl jo env
theorem set_same{α:Type}{l:List α}{i:Nat}{x:α}(h:l[i]?=some x):l.set i x=l:=by
 apply M6
 intro j
 rw[L3]
 by_cases c:i=j
 ·subst c
  rw[if_pos rfl,h]
  split
  ·rfl
  ·rename_i q;rw[G2 (by omega)]at h;cases h
 ·rw[if_neg c]
theorem Rel.jo{j:Nat}(h:Rel K B env σ H):Rel K B (jo env j) σ H:=by
 unfold L2.jo
 cases e:env[j]? with
 | none=>exact h
 | some s=>
  cases s with
  | no=>exact h
  | fro d=>exact h
  | inn v d=>exact h
  | own d=>
   obtain⟨A,a,b⟩:=h
   have cl:=iT a
   obtain⟨y,A1,C,h1,h2,h3,h4,k⟩:=a.focus e
   obtain⟨v,rfl,o⟩:=h4
   have g:aU (out H A) (out H (fH nil C)):=bU (aU.refl _) λx q=>q.elim False.elim λq=>.inl ((h3 x).mpr (.inr q))
   have:=k (jD K H (out H (fH nil C))) (λe D z _ q=>q.same (aU.refl _) g) (.fro d) (some v) nil (λx q c=>q)
    ⟨λ_ z=>z,v,rfl,o.out (λx q c=>h2 x q (c.elim False.elim id)) λx q=>(cl x ((h3 x).mpr (.inr (q.elim False.elim id)))).2⟩
   rw[set_same h1]at this
   exact⟨fH nil C,this,b.trans g⟩
theorem Rel.Bf{js:List Nat}(h:Rel K B env σ H):Rel K B (Bf js env) σ H:=by
 unfold L2.Bf
 induction js generalizing env with
 | nil=>exact h
 | cons j js ih=>exact ih h.jo
end
inductive SR where
  | next (env:EN) | ret (d:D) | brk (env:EN) | cont (env:EN) | bad | rete (d:D) (env:EN)
def Em(K:aD)(B:Hp)(E:Ends):SR→Prop
 | .next env=>∀σ H,Rel K B env σ H→E.nx σ H
 | .ret d=>∀v H A,aU B (out H A)→Ow K H d A v→E.rt v H
 | .brk env=>∀σ H,Rel K B env σ H→E.bk σ H
 | .cont env=>∀σ H,Rel K B env σ H→E.ct σ H
 | .bad=>False
 | .rete d env=>∀v σ H,Rel K B (env++[.own d]) (σ++[some v]) H→E.rt v H
theorem Em.mono{K:aD}{B B':Hp}{E:Ends}{r:SR}(h:Em K B E r)(s:aU B B'):Em K B' E r:=by
 cases r with
 | next env=>exact λσ H q=>h σ H (q.mono s)
 | ret d=>exact λv H A q=>h v H A (s.trans q)
 | brk env=>exact λσ H q=>h σ H (q.mono s)
 | cont env=>exact λσ H q=>h σ H (q.mono s)
 | bad=>exact h
 | rete d env=>exact λv σ H q=>h v σ H (q.mono s)
abbrev GS:=EN→SR
def DS(K:aD)(t:TS)(g:GS):Prop:=∀(B:Hp)(E:Ends)(σ:St)(H:Hp)(env:EN),Rel K B env σ H→Em K B E (g env)→t E σ H
def aFO(K:aD)(B:Hp)(E:Ends)(σ:St):SR→Prop
 | .next env=>∀H,Rel K B env σ H→E.nx σ H
 | r=>Em K B E r
def ZV(K:aD)(t:TS)(g:GS):Prop:=∀(B:Hp)(E:Ends)(σ:St)(H:Hp)(env:EN),Rel K B env σ H→aFO K B E σ (g env)→t E σ H
theorem ZV.ds{K:aD}{t:TS}{g:GS}(h:ZV K t g):DS K t g:=λB E σ H env r p=>h B E σ H env r (by
 cases q:g env with
 | next e=>rw[q]at p;exact λH' r'=>p σ H' r'
 | ret d=>rw[q]at p;exact p
 | brk e=>rw[q]at p;exact p
 | cont e=>rw[q]at p;exact p
 | bad=>rw[q]at p;exact p
 | rete d e=>rw[q]at p;exact p)
structure YS(K:aD)(X:Cx)(st:Stmt)(t:TS)(g:GS):Prop where
 ps:PS X st t
 ev:DS K t g
structure YB(K:aD)(X:Cx)(st:List Stmt)(t:TS)(g:GS):Prop where
 ps:Wf X st t
 ev:DS K t g
section
variable{K:aD}{X:Cx}{st:Stmt}{sts:List Stmt}{t u:TS}{g g1 g2:GS}{e a b c:Expr}{te ta tb:TE}{f fa fb:FE}{tc:TT}{fc:FT}{pos:Pos}
def aW(g1 g2:GS):GS:=λenv=>match g1 env with
 | .next env'=>g2 env'
 | r=>r
theorem aDP(h1:DS K t g1)(h2:DS K u g2):DS K (aAq t u) (aW g1 g2):=λB E σ H env r p=>by
 unfold aW at p
 refine h1 B {E with nx:=u E} σ H env r ?_
 cases q:g1 env with
 | next env'=>rw[q]at p;exact λσ' H' r'=>h2 B E σ' H' env' r' p
 | ret d=>rw[q]at p;exact p
 | brk d=>rw[q]at p;exact p
 | cont d=>rw[q]at p;exact p
 | bad=>rw[q]at p;exact p
 | rete d e=>rw[q]at p;exact p
def iC:GS:=λenv=>.next env
theorem iJ:YB K X [] aB6 iC:=⟨aAr,λB E σ H env r p=>p σ H r⟩
theorem aV(h:YS K X st t g):YB K X [st] t g:=⟨KJ h.ps,h.ev⟩
theorem aO(h:YS K X st t g1)(h2:YB K X sts u g2):YB K X (st::sts) (aAq t u) (aW g1 g2):=⟨Wn h.ps h2.ps,aDP h.ev h2.ev⟩
def cW(i:Nat)(f:FE):GS:=λenv=>match f (rE env)with
 | some d=>if i<env.length then .next (env.set i (.own d))else .bad
 | none=>.bad
theorem jq{i:Nat}(h:Nv K te f):DS K (sX te (fY i)) (cW i f):=λB E σ H env r p=>by
 unfold cW at p
 split at p
 ·rename_i d q
  split at p
  ·rename_i hi
   exact h σ H (rE env) d _ r.r q λv H' s n=>p _ _ (r.own hi s n)
  ·exact p.elim
 ·exact p.elim
def Kg(i:Nat)(f:FE):GS:=λenv=>match f (zE env)with
 | some d=>if i<env.length then .next (env.set i (.fro d))else .bad
 | none=>.bad
theorem aBa{i:Nat}(h:Ea K te f):DS K (sX te (fY i)) (Kg i f):=λB E σ H env r p=>by
 unfold Kg at p
 split at p
 ·rename_i d q
  split at p
  ·rename_i hi
   obtain⟨A,a,b⟩:=r
   exact h σ H (out H A) (zE env) d _ (Kf a) (aCp a) q λv H' Z' s t z rv=>p _ _ (Hz a b hi s t z rv)
  ·exact p.elim
 ·exact p.elim
theorem bN{i:Nat}{x:Str}{pos':Pos}(h:XN K X e te f)(hp:PE X e te→PS X (.Assign [.Name x pos'] e pos) (sX te (fY i))):YS K X (.Assign [.Name x pos'] e pos) (sX te (fY i)) (cW i f):=⟨hp h.pe,jq h.ev⟩
theorem aBb{i:Nat}{x:Str}{pos':Pos}(h:XR K X e te f)(hp:PE X e te→PS X (.Assign [.Name x pos'] e pos) (sX te (fY i))):YS K X (.Assign [.Name x pos'] e pos) (sX te (fY i)) (Kg i f):=⟨hp h.pe,aBa h.ev⟩
def gU(f:FE):GS:=λenv=>match f (rE env)with
 | some d=>.ret d
 | none=>.bad
theorem cB(h:XN K X e te f):YS K X (.Return (some e) pos) (SQ te) (gU f):=⟨Je h.pe,λB E σ H env r p=>by
 unfold gU at p
 split at p
 ·rename_i d q
  refine h.ev σ H (rE env) d _ r.r q λv H' s ⟨N,o,fr⟩=>p v H' N (λx u ex=>?_) o
  obtain⟨A,a,b⟩:=r
  have h1:=(bD.mp (b x u ex)).2
  exact bD.mpr ⟨λz=>(by rw[fr x z]at h1;cases h1),s x u h1⟩
 ·exact p.elim⟩
def wK(i:Nat):GS:=λenv=>match env[i]? with
 | some (.own d)=>.ret d
 | some (.fro d)=>if d.iI=true then .ret d else .bad
 | _=>.bad
theorem Ib{i:Nat}(h:PE X e (pN i)):YS K X (.Return (some e) pos) (SQ (pN i)) (wK i):=⟨Je h,λB E σ H env r p=>by
 unfold wK at p
 obtain⟨A,a,b⟩:=r
 split at p
 ·rename_i d q
  obtain⟨y,A1,C,h1,h2,h3,h4,_⟩:=a.focus q
  obtain⟨v,rfl,o⟩:=h4
  exact⟨v,h1,p v H A1 (b.trans (bU (aU.refl _) λx z=>.inl ((h3 x).mpr (.inl z)))) o⟩
 ·rename_i d q
  split at p
  ·rename_i im
   obtain⟨y,A1,C,h1,h2,h3,h4,_⟩:=a.focus q
   obtain⟨_,v,rfl,rv⟩:=h4
   exact⟨v,h1,p v H nil (b.trans (bU (aU.refl _) λx z=>z.elim)) (wF d v im ((jK H A).rv _ _ rv))⟩
  ·exact p.elim
 ·exact p.elim⟩
def wL(f:FE):GS:=λenv=>match f (rE env)with
 | some _=>.next env
 | none=>.bad
theorem aBc(h:Ea K te f):DS K (lU te) (wL f):=λB E σ H env r p=>by
 unfold wL at p
 split at p
 ·rename_i d q
  exact h σ H H (rE env) d _ (Zn.self K H) r.r q λv H' Z' s t z rv=>p _ _ (r.same s)
 ·exact p.elim
def zN(f:FT)(g1 g2:GS):GS:=λenv=>match f (rE env)with
 | some true=>g1 env
 | some false=>g2 env
 | none=>.bad
theorem pL{s1 s2:List Stmt}(hc:XT K X c tc fc)(h1:YB K X s1 t g1)(h2:YB K X s2 u g2):YS K X (.If c s1 s2 pos) (aAs tc t u) (zN fc g1 g2):=⟨aq hc.pt h1.ps h2.ps,λB E σ H env r p=>by
 unfold zN at p
 split at p
 ·rename_i q
  refine hc.ev σ H (rE env) true _ r.r q λH' s=>?_
  rw[if_pos rfl]
  exact h1.ev B E σ H' env (r.same s) p
 ·rename_i q
  refine hc.ev σ H (rE env) false _ r.r q λH' s=>?_
  rw[if_neg (by decide)]
  exact h2.ev B E σ H' env (r.same s) p
 ·exact p.elim⟩
def Aa(i:Nat)(g:GS):List D→EN→SR
 | [],env=>.next env
 | x::xs,env=>if i<env.length then match g (env.set i (.fro x))with
   | .next env'=>Aa i g xs env'
   | .cont env'=>Aa i g xs env'
   | .brk env'=>.next env'
   | r=>r
  else .bad
def Xj(js:List Nat)(i:Nat)(fi:FA)(g:GS):GS:=λenv=>match fi (zE (Bf js env))with
 | some xs=>Aa i g xs (Bf js env)
 | none=>.bad
theorem aDQ{js:List Nat}{i:Nat}{wi:TI}{fi:FA}{tb:TS}(hi:EvI K wi fi)(h:DS K tb g):DS K (CN wi (fY i) tb) (Xj js i fi g):=λB E σ H env r p=>by
 unfold Xj at p
 have r':Rel K B (Bf js env) σ H:=r.Bf
 generalize Bf js env=Gz at r' p
 split at p
 ·rename_i xs q
  obtain⟨A,a,b⟩:=r'
  refine hi σ H (out H A) (zE Gz) xs _ (Kf a) (aCp a) q λJ H1 Z1 P vs s t z hJ hP rvs=>?_
  have hl:=rvs.length
  have g0:aU Z1 (out H1 A):=λx o e=>bD.mpr ⟨λqa=>(by rw[(z.no x qa).1]at e;cases e),z.sm x o e⟩
  have aHh:Rel K Z1 Gz σ H1:=⟨A,a.mono λe D y _ qq=>qq.same s (bU s λx q=>.inl q),g0⟩
  have bz:aU B Z1:=b.trans t
  have p':=p.mono bz
  refine Ub hJ (λk σ2 H2=>∃cY,Rel K Z1 cY σ2 H2∧Em K Z1 E (Aa i g (xs.drop k) cY)) ⟨Gz,aHh,by simpa using p'⟩ (λk σ2 H2 _ ⟨cY,⟨A2,a2,b2⟩,_⟩=>hP H2 (b2.trans (jK H2 A2))) ?_ ?_
  ·rintro k x σ2 H2 hx ⟨cY,r2,p2⟩
   have hk:k<xs.length:=by
    have:=D3.mp hx
    obtain⟨h1,_⟩:=this
    omega
   rw[P0 hk]at p2
   unfold Aa at p2
   obtain⟨x',hx',rx⟩:=rvs.get (B6 hk)
   rw[hx]at hx'
   cases hx'
   split at p2
   ·rename_i hlen
    obtain⟨A2,a2,b2⟩:=r2
    have r3:Rel K Z1 (cY.set i (.fro xs[k])) (σ2.set i (some x)) H2:=Hz a2 b2 hlen (aU.refl _) (aU.refl _) (Kf a2) (b2.rv _ _ rx)
    refine h Z1 _ _ H2 _ r3 ?_
    split at p2
    ·rename_i env' q2;rw[q2];exact λσ' H' r'=>⟨env',r',p2⟩
    ·rename_i env' q2;rw[q2];exact λσ' H' r'=>⟨env',r',p2⟩
    ·rename_i env' q2;rw[q2];exact p2
    ·rename_i n1 n2 n3
     cases q2:g (cY.set i (.fro xs[k]))with
     | next e=>exact absurd q2 (n1 e)
     | cont e=>exact absurd q2 (n2 e)
     | brk e=>exact absurd q2 (n3 e)
     | ret d=>rw[q2]at p2;exact p2
     | bad=>rw[q2]at p2;exact p2
     | rete d e=>rw[q2]at p2;exact p2
   ·exact p2.elim
  ·rintro σ2 H2 ⟨cY,r2,p2⟩
   rw[hl,W3]at p2
   exact p2 σ2 H2 r2
 ·exact p.elim
def mO(c:FT)(g:GS):Nat→EN→SR
 | 0,_=>.bad
 | n+1,env=>match c (rE env)with
  | some true=>(match g env with
   | .next env'=>mO c g n env'
   | .cont env'=>mO c g n env'
   | .brk env'=>.next env'
   | r=>r)
  | some false=>.next env
  | none=>.bad
theorem jr{n:Nat}{tb:TS}(hc:FJ K tc fc)(h:DS K tb g):DS K (CG tc tb) (mO fc g n):=λB E σ H env r p=>by
 refine⟨λm σ2 H2=>∃cY,Rel K B cY σ2 H2∧Em K B E (mO fc g m cY),⟨n,env,r,p⟩,?_⟩
 rintro m σ2 H2 ⟨cY,r2,p2⟩
 cases m with
 | zero=>exact p2.elim
 | succ m=>
  unfold mO at p2
  split at p2
  ·rename_i q
   refine hc σ2 H2 (rE cY) true _ r2.r q λH3 s=>?_
   rw[if_pos rfl]
   refine⟨λσ' H'=>∃env',Rel K B env' σ' H'∧Em K B E (mO fc g m env'),λσ' H' ⟨env',a1,a2⟩=>⟨m,N3 m,env',a1,a2⟩,?_⟩
   refine h B _ σ2 H3 cY (r2.same s) ?_
   split at p2
   ·rename_i env' q2;rw[q2];exact λσ' H' r'=>⟨env',r',p2⟩
   ·rename_i env' q2;rw[q2];exact λσ' H' r'=>⟨env',r',p2⟩
   ·rename_i env' q2;rw[q2];exact p2
   ·rename_i n1 n2 n3
    cases q2:g cY with
    | next e=>exact absurd q2 (n1 e)
    | cont e=>exact absurd q2 (n2 e)
    | brk e=>exact absurd q2 (n3 e)
    | ret d=>rw[q2]at p2;exact p2
    | bad=>rw[q2]at p2;exact p2
    | rete d e=>rw[q2]at p2;exact p2
  ·rename_i q
   refine hc σ2 H2 (rE cY) false _ r2.r q λH3 s=>?_
   rw[if_neg (by decide)]
   exact p2 σ2 H3 (r2.same s)
  ·exact p2.elim
theorem jt{tg iter:Expr}{body:List Stmt}{wi:TI}{fi:FA}{tb:TS}{i:Nat}(js:List Nat)(hp:PassesOwn (model X.prog X.w) X.A X.env X.xe)(WD:X.calm=true)(hi:XI K X tg iter wi fi)(hg:PG X tg (fY i))(hb:YB K X body tb g)
  (hs:∀x,foldedSetIterable iter X.env x=pure x:=by intro _;rfl):YS K X (.For tg iter body [] pos) (CN wi (fY i) tb) (Xj js i fi g):=⟨CP hp WD hi.pi hg hb.ps hs,aDQ hi.ev hb.ev⟩
theorem Kh{body:List Stmt}{tb:TS}(n:Nat)(hp:PassesOwn (model X.prog X.w) X.A X.env X.xe)(hc:XT K X c tc fc)(hb:YB K X body tb g):YS K X (.While c body [] pos) (CG tc tb) (mO fc g n):=⟨bc hp hc.pt hb.ps,jr hc.ev hb.ev⟩
end
end L2


namespace L2
open PySem PySem.Spec PyProof.Rows
inductive Step where
  | ix (k:Nat) | key (k:Key) | fld (C:Addr) (f:Str)
def kids:D→List D
 | .lst ds=>ds
 | .dk _ ds=>ds
 | .ins _ _ ds=>ds
 | _=>[]
def Bu:D→List D→D
 | .lst _,ds=>.lst ds
 | .dk ks _,ds=>.dk ks ds
 | .ins C nm _,ds=>.ins C nm ds
 | d,_=>d
def yZ:Step→D→Option Nat
 | .ix k,.lst ds=>some k
 | .key k,.dk ks _=>posK ks k
 | .fld C f,.ins C' nm _=>if C'=C then posK nm f else none
 | _,_=>none
def fD:List Step→D→Option D
 | [],d=>some d
 | s::p,d=>(yZ s d).bind λj=>((kids d)[j]?).bind (fD p)
def eN:List Step→D→D→D
 | [],_,d'=>d'
 | s::p,d,d'=>match yZ s d with
  | some j=>(match (kids d)[j]? with
   | some c=>Bu d ((kids d).set j (eN p c d'))
   | none=>d)
  | none=>d
def stepV(H:Hp)(s:Step)(v:V):Option V:=match v with
 | .ref a=>(match s,H a with
  | .ix k,some (.lst xs)=>xs[k]?
  | .key k,some (.dK kvs)=>uH kvs k
  | .fld C f,some (.ins C' _ fs)=>if C'=C then fs.lookup f else none
  | _,_=>none)
 | _=>none
def Hf(H:Hp):List Step→V→Option V
 | [],v=>some v
 | s::p,v=>(stepV H s v).bind (Hf H p)
theorem GD{H H':Hp}(e:aU H H'){s:Step}{v w:V}(h:stepV H s v=some w):stepV H' s v=some w:=by
 cases v with
 | ref a=>
  unfold stepV at h ⊢
  dsimp only at h ⊢
  cases q:H a with
  | none=>rw[q]at h;cases s<;>cases h
  | some o=>rw[e a o q];rw[q]at h;exact h
 | _=>unfold stepV at h;cases h
theorem wM{H H':Hp}(e:aU H H'):∀{p:List Step} {v w:V},Hf H p v=some w→Hf H' p v=some w
 | [],v,w,h=>h
 | s::p,v,w,h=>by
  unfold Hf at h ⊢
  obtain⟨u,h1,h2⟩:=aX h
  rw[GD e h1]
  exact wM e h2
theorem Ab{nm:List Str}{xs:List V}{f:Str}(h:nm.length=xs.length):(nm.zip xs).lookup f=(posK nm f).bind λj=>xs[j]?:=by
 induction nm generalizing xs with
 | nil=>unfold posK;rfl
 | cons a nm ih=>
  cases xs with
  | nil=>simp at h
  | cons x xs=>
   have ih:=ih (xs:=xs) (by simpa using h)
   unfold posK
   rw[P9,S5]
   by_cases c:a=f
   ·subst c;simp
   ·have c2:(f==a)=false:=by
     rw[beq_eq_false_iff_ne];exact λz=>c z.symm
    rw[c2,if_neg c,ih]
    cases posK nm f<;>rfl
theorem Ow.kids{K:aD}{H:Hp}{d:D}{A:Fp}{v:V}{s:Step}{j:Nat}(h:Ow K H d A v)(q:yZ s d=some j):∃xs T Bt,(∀x,xs[j]?=some x→stepV H s v=some x)∧eY K H (kids d) Bt xs∧Is A (fH T Bt)∧Apart T Bt ∧
  ∀H' ds' B',ds'.length=(kids d).length→eY K H' ds' B' xs→(∀a,T a→H' a=H a)→Apart T B'→Ow K H' (Bu d ds') (fH T B') v:=by
 cases d with
 | lst ds=>
  unfold Ow at h
  obtain⟨a,xs,B,rfl,h2,h3,h4,h5⟩:=h
  cases s with
  | ix k=>
   unfold yZ at q
   cases q
   refine⟨xs,(·=a),B,λx hx=>?_,h5,h4,λx qx qb=>h3 (qx▸qb),λH' ds' B' hl o f ap=>?_⟩
   ·unfold stepV;dsimp only;rw[h2];exact hx
   ·show Ow K H' (.lst ds') _ _
    unfold Ow
    exact⟨a,xs,B',rfl,(f a rfl).trans h2,ap a rfl,λ_=>Iff.rfl,o⟩
  | _=>unfold yZ at q;cases q
 | dk ks ds=>
  unfold Ow at h
  obtain⟨a,xs,B,rfl,h2,h2',h3,h4,h5⟩:=h
  cases s with
  | key k=>
   have q:posK ks k=some j:=q
   refine⟨xs,(·=a),B,λx hx=>?_,h5,h4,λx qx qb=>h3 (qx▸qb),λH' ds' B' hl o f ap=>?_⟩
   ·unfold stepV;dsimp only;rw[h2];show uH (ks.zip xs) k=_;rw[qG h2',q];exact hx
   ·show Ow K H' (.dk ks ds') _ _
    unfold Ow
    exact⟨a,xs,B',rfl,(f a rfl).trans h2,h2',ap a rfl,λ_=>Iff.rfl,o⟩
  | _=>unfold yZ at q;cases q
 | ins C nm ds=>
  unfold Ow at h
  obtain⟨a,dx,xs,B,rfl,h2,h2',h3,h3',h3'',h4,h5⟩:=h
  cases s with
  | fld C0 k=>
   have q:(if C=C0 then posK nm k else none)=some j:=q
   by_cases hc:C=C0
   rotate_left
   ·rw[if_neg hc]at q;cases q
   rw[if_pos hc]at q
   refine⟨xs,(λx=>x=a∨x=dx),B,λx hx=>?_,h5,h4,λx qx qb=>qx.elim (λz=>h3' (z▸qb)) λz=>h3'' (z▸qb),λH' ds' B' hl o f ap=>?_⟩
   ·unfold stepV;dsimp only;rw[h2];show (if C=C0 then(nm.zip xs).lookup k else none)=_;rw[if_pos hc,Ab h3,q];exact hx
   ·show Ow K H' (.ins C nm ds') _ _
    unfold Ow
    exact⟨a,dx,xs,B',rfl,(f a (.inl rfl)).trans h2,(f dx (.inr rfl)).trans h2',h3,ap a (.inl rfl),ap dx (.inr rfl),λ_=>Iff.rfl,o⟩
  | _=>unfold yZ at q;cases q
 | _=>cases s<;>(unfold yZ at q;cases q)
theorem Ow.at{K:aD}{H:Hp}:∀{p:List Step} {d d1:D} {A:Fp} {v:V},Ow K H d A v→fD p d=some d1→∃w A1 C,Hf H p v=some w∧Apart A1 C∧Is A (fH A1 C)∧Ow K H d1 A1 w ∧
    ∀H' d' A',Apart A' C→(∀a,C a→H' a=H a)→Bm K H H'→Ow K H' d' A' w→Ow K H' (eN p d d') (fH A' C) v
  | [],d,d1,A,v,h,q=>by
    unfold fD at q
    cases q
    exact⟨v,A,nil,rfl,λ_ _ z=>z,λx=>⟨.inl,λz=>z.elim id False.elim⟩,h,λH' d' A' _ _ _ o=>o.congr λx=>⟨.inl,λz=>z.elim id False.elim⟩⟩
  | s::p,d,d1,A,v,h,q=>by
    unfold fD at q
    obtain⟨j,q1,q2⟩:=aX q
    obtain⟨c,q3,q4⟩:=aX q2
    obtain⟨xs,T,Bt,k1,k2,k3,k4,k5⟩:=h.kids q1
    obtain⟨y,B1,C1,f1,f2,f3,f4,f5⟩:=(cN.mp k2).focus q3
    obtain⟨w,A1,C2,g1,g2,g3,g4,g5⟩:=Ow.at f4 q4
    refine⟨w,A1,fH T (fH C1 C2),?_,?_,?_,g4,λH' d' A' ap fr tk o=>?_⟩
    · unfold Hf
      rw[k1 y f1]
      exact g1
    · intro x qx qc
      have b1:B1 x:=(g3 x).mpr (.inl qx)
      rcases qc with qc | qc | qc
      · exact k4 x qc ((f3 x).mpr (.inl b1))
      · exact f2 x b1 qc
      · exact g2 x qx qc
    · intro x
      rw[k3 x]
      constructor
      · rintro(z | z)
        · exact .inr (.inl z)
        · rcases(f3 x).mp z with z | z
          · rcases(g3 x).mp z with z | z
            · exact .inl z
            · exact .inr (.inr (.inr z))
          · exact .inr (.inr (.inl z))
      · rintro(z | z | z | z)
        · exact .inr ((f3 x).mpr (.inl ((g3 x).mpr (.inl z))))
        · exact .inl z
        · exact .inr ((f3 x).mpr (.inr z))
        · exact .inr ((f3 x).mpr (.inl ((g3 x).mpr (.inr z))))
    · have o1:Ow K H' (eN p c d') (fH A' C2) y:=g5 H' d' A' (λx a b=>ap x a (.inr (.inr b))) (λa z=>fr a (.inr (.inr z))) tk o
      have ap1:Apart (fH A' C2) C1:=λx a b=>a.elim (λz=>ap x z (.inr (.inl b))) λz=>f2 x ((g3 x).mpr (.inr z)) b
      have o2:=f5 (Ow K H') (λe B z hb qq=>Ow.frame tk e B z qq λa za=>fr a (.inr (.inl (hb a za)))) (eN p c d') y (fH A' C2) ap1 o1
      rw[set_same f1]at o2
      have o3:=k5 H' ((L2.kids d).set j (eN p c d')) _ (by rw[M8]) (cN.mpr o2) (λa z=>fr a (.inl z)) (λx a b=>by
        rcases b with (b | b) | b
        · exact ap x b (.inl a)
        · exact k4 x a ((f3 x).mpr (.inl ((g3 x).mpr (.inr b))))
        · exact k4 x a ((f3 x).mpr (.inr b)))
      have e:eN (s::p) d d'=Bu d ((L2.kids d).set j (eN p c d')):=by
        show (match yZ s d with | some j=>_ | none=>_)=_
        rw[q1]
        show (match (L2.kids d)[j]? with | some c=>_ | none=>_)=_
        rw[q3]
      rw[e]
      refine o3.congr λx=>?_
      show (T x∨(A' x∨C2 x)∨C1 x)↔(A' x∨T x∨C1 x∨C2 x)
      constructor
      · rintro(z | (z | z) | z)
        · exact .inr (.inl z)
        · exact .inl z
        · exact .inr (.inr (.inr z))
        · exact .inr (.inr (.inl z))
      · rintro(z | z | z | z)
        · exact .inr (.inl (.inl z))
        · exact .inl z
        · exact .inr (.inr z)
        · exact .inr (.inl (.inr z))
section
variable{K:aD}{B H:Hp}{env:EN}{σ:St}
theorem Rel.at{i:Nat}{p:List Step}{d0 d:D}(h:Rel K B env σ H)(e:env[i]?=some (.own d0))(q:fD p d0=some d):∃v0 w A1 C,σ[i]?=some (some v0)∧Hf H p v0=some w∧Ow K H d A1 w∧Apart A1 C∧(∀a,C a→nM H a) ∧
    ∀H' d' A',Apart A' C→(∀a,C a→H' a=H a)→Bm K H H'→Ow K H' d' A' w→aU (out H (fH A1 C)) (out H' (fH A' C))→Rel K B (env.set i (.own (eN p d0 d'))) σ H':=by
  obtain⟨A,a,b⟩:=h
  have cl:=iT a
  obtain⟨y,A1,C,h1,h2,h3,h4,k⟩:=a.focus e
  obtain⟨v0,rfl,o⟩:=h4
  obtain⟨w,B1,C1,g1,g2,g3,g4,g5⟩:=o.at q
  refine⟨v0,w,B1,fH C1 C,h1,g1,g4,λx z1 z2=>?_,λx z=>?_,λH' d' A' ap fr tk o' sm=>?_⟩
  · exact z2.elim (g2 x z1) (h2 x ((g3 x).mpr (.inl z1)))
  · exact cl x ((h3 x).mpr (z.elim (λz=>.inl ((g3 x).mpr (.inr z))) .inr))
  · have o2:=g5 H' d' A' (λx z1 z2=>ap x z1 (.inl z2)) (λx z=>fr x (.inl z)) tk o'
    have ap2:Apart (fH A' C1) C:=λx z1 z2=>z1.elim (λz=>ap x z (.inr z2)) λz=>h2 x ((g3 x).mpr (.inr z)) z2
    have hA:Is A (fH B1 (fH C1 C)):=λx=>by
      rw[h3 x]
      constructor
      · rintro(z | z)
        · exact((g3 x).mp z).elim .inl λz=>.inr (.inl z)
        · exact .inr (.inr z)
      · rintro(z | z | z)
        · exact .inl ((g3 x).mpr (.inl z))
        · exact .inl ((g3 x).mpr (.inr z))
        · exact .inr z
    have g:aU (out H A) (out H' (fH (fH A' C1) C)):=λx u ex=>by
      obtain⟨e1,e2⟩:=bD.mp ex
      have:=sm x u (bD.mpr ⟨λz=>e1 ((hA x).mpr z),e2⟩)
      obtain⟨e3,e4⟩:=bD.mp this
      exact bD.mpr ⟨λz=>e3 (z.elim (λz=>z.elim .inl λz=>.inr (.inl z)) λz=>.inr (.inr z)),e4⟩
    have s:=k (jD K H' (out H' (fH (fH A' C1) C))) (λs D z hb qq=>by
      cases s with
      | no=>exact qq
      | fro d=>obtain⟨q1,v,q2,q3⟩:=qq;exact⟨q1,v,q2,g.rv _ _ q3⟩
      | inn v d=>exact⟨qq.1,Ow.frame tk _ _ _ qq.2 λx zx=>fr x (.inr (hb x zx))⟩
      | own d=>obtain⟨v,q1,q2⟩:=qq;exact⟨v,q1,Ow.frame tk _ _ _ q2 λx zx=>fr x (.inr (hb x zx))⟩) (.own (eN p d0 d')) (some v0) (fH A' C1) ap2 ⟨v0,rfl,o2⟩
    rw[set_same h1]at s
    exact⟨_,s,b.trans g⟩
theorem Rel.GF{i:Nat}{p:List Step}{d0:D}{ds:List D}(h:Rel K B env σ H)(e:env[i]?=some (.own d0))(q:fD p d0=some (.lst ds)):∃v0 a xs Bs,σ[i]?=some (some v0)∧Hf H p v0=some (.ref a)∧H a=some (.lst xs)∧¬Bs a∧eY K H ds Bs xs ∧
    ∀H2 ds' xs' Bn,aU H H2→eY K H2 ds' Bn xs'→(∀b,Bn b→Bs b∨H b=none)→Rel K B (env.set i (.own (eN p d0 (.lst ds')))) σ (upd H2 a (.lst xs')):=by
  obtain⟨v0,w,A1,C,h1,h2,h3,h4,h5,h6⟩:=h.at e q
  unfold Ow at h3
  obtain⟨a,xs,Bs,rfl,o2,o3,o4,o5⟩:=h3
  refine⟨v0,a,xs,Bs,h1,h2,o2,o3,o5,λH2 ds' xs' Bn s o hb=>?_⟩
  have ju:¬Bn a:=λz=>(hb a z).elim o3 λz=>by rw[o2]at z;cases z
  have hC:∀x,C x→¬x=a:=λx z y=>h4 x ((o4 x).mpr (.inl y)) z
  have Og:H2 a=some (.lst xs):=s a _ o2
  refine h6 _ (.lst ds') (fH (·=a) Bn) (λx z1 z2=>?_) (λx z=>?_) (s.tk.trans (rY (tM Og))) ?_ (λx u ex=>?_)
  · rcases z1 with z1 | z1
    · exact hC x z2 z1
    · rcases hb x z1 with z | z
      · exact h4 x ((o4 x).mpr (.inr z)) z2
      · obtain⟨⟨u,eu⟩,_⟩:=h5 x z2
        rw[z]at eu;cases eu
  · obtain⟨⟨u,eu⟩,_⟩:=h5 x z
    rw[bL (hC x z),eu,s x u eu]
  · unfold Ow
    refine⟨a,xs',Bn,rfl,bW,ju,λ_=>Iff.rfl,eY.frame (rY (tM Og)) _ _ _ o λx zx=>bL λy=>ju (y▸zx)⟩
  · obtain⟨e1,e2⟩:=bD.mp ex
    have na:x≠a:=λy=>e1 (.inl ((o4 x).mpr (.inl y)))
    refine bD.mpr ⟨λz=>?_,by rw[bL na];exact s x u e2⟩
    rcases z with (z | z) | z
    · exact na z
    · rcases hb x z with z | z
      · exact e1 (.inl ((o4 x).mpr (.inr z)))
      · rw[z]at e2;cases e2
    · exact e1 (.inr z)
theorem Rel.aHj{i:Nat}{p:List Step}{d0:D}{ks:List Key}{ds:List D}(h:Rel K B env σ H)(e:env[i]?=some (.own d0))(q:fD p d0=some (.dk ks ds)):∃v0 a xs Bs,σ[i]?=some (some v0)∧Hf H p v0=some (.ref a)∧H a=some (.dK (ks.zip xs))∧ks.length=xs.length∧¬Bs a∧eY K H ds Bs xs ∧
    ∀H2 ks' ds' xs' Bn,aU H H2→ks'.length=xs'.length→eY K H2 ds' Bn xs'→(∀b,Bn b→Bs b∨H b=none)→Rel K B (env.set i (.own (eN p d0 (.dk ks' ds')))) σ (upd H2 a (.dK (ks'.zip xs'))):=by
  obtain⟨v0,w,A1,C,h1,h2,h3,h4,h5,h6⟩:=h.at e q
  unfold Ow at h3
  obtain⟨a,xs,Bs,rfl,o2,o2',o3,o4,o5⟩:=h3
  refine⟨v0,a,xs,Bs,h1,h2,o2,o2',o3,o5,λH2 ks' ds' xs' Bn s hl o hb=>?_⟩
  have ju:¬Bn a:=λz=>(hb a z).elim o3 λz=>by rw[o2]at z;cases z
  have hC:∀x,C x→¬x=a:=λx z y=>h4 x ((o4 x).mpr (.inl y)) z
  have Og:H2 a=some (.dK (ks.zip xs)):=s a _ o2
  refine h6 _ (.dk ks' ds') (fH (·=a) Bn) (λx z1 z2=>?_) (λx z=>?_) (s.tk.trans (rY (Jt Og))) ?_ (λx u ex=>?_)
  · rcases z1 with z1 | z1
    · exact hC x z2 z1
    · rcases hb x z1 with z | z
      · exact h4 x ((o4 x).mpr (.inr z)) z2
      · obtain⟨⟨u,eu⟩,_⟩:=h5 x z2
        rw[z]at eu;cases eu
  · obtain⟨⟨u,eu⟩,_⟩:=h5 x z
    rw[bL (hC x z),eu,s x u eu]
  · unfold Ow
    refine⟨a,xs',Bn,rfl,bW,hl,ju,λ_=>Iff.rfl,eY.frame (rY (Jt Og)) _ _ _ o λx zx=>bL λy=>ju (y▸zx)⟩
  · obtain⟨e1,e2⟩:=bD.mp ex
    have na:x≠a:=λy=>e1 (.inl ((o4 x).mpr (.inl y)))
    refine bD.mpr ⟨λz=>?_,by rw[bL na];exact s x u e2⟩
    rcases z with (z | z) | z
    · exact na z
    · rcases hb x z with z | z
      · exact e1 (.inl ((o4 x).mpr (.inr z)))
      · rw[z]at e2;cases e2
    · exact e1 (.inr z)
end
end L2


namespace L2
open PySem PySem.Spec PyProof.Rows
abbrev FP:=DE→Option (List Step)
def EvP(K:aD)(t:TE)(i:Nat)(π:FP):Prop:=∀(σ:St)(H:Hp)(e:DE)(v0:V)(p:List Step)(v:V)(Q:VK),yV K H e σ→σ[i]?=some (some v0)→π e=some p→Hf H p v0=some v→(∀H',aU H H'→Q v H')→t σ H Q
structure XP(K:aD)(X:Cx)(e:Expr)(t:TE)(i:Nat)(π:FP):Prop where
 hk:X.K=K
 pe:PE X e t
 ev:EvP K t i π
theorem Kl{H:Hp}{s:Step}:∀{p:List Step} {v0 v:V},Hf H (p++[s]) v0=some v→∃w,Hf H p v0=some w∧stepV H s w=some v
 | [],v0,v,h=>by
  rw[X5]at h
  unfold Hf at h
  obtain⟨w,h1,h2⟩:=aX h
  unfold Hf at h2
  cases h2
  exact⟨v0,rfl,h1⟩
 | s'::p,v0,v,h=>by
  rw[P5]at h
  unfold Hf at h
  obtain⟨u,h1,h2⟩:=aX h
  obtain⟨w,h3,h4⟩:=Kl h2
  refine⟨w,?_,h4⟩
  unfold Hf
  rw[h1]
  exact h3
theorem jw{H:Hp}{k:Nat}{w v:V}(h:stepV H (.ix k) w=some v):∃a xs,w=.ref a∧H a=some (.lst xs)∧xs[k]?=some v:=by
 cases w with
 | ref a=>
  unfold stepV at h
  dsimp only at h
  cases q:H a with
  | none=>rw[q]at h;cases h
  | some o=>
   rw[q]at h
   cases o with
   | lst xs=>exact⟨a,xs,rfl,q,h⟩
   | _=>cases h
 | _=>unfold stepV at h;cases h
def fG:FP:=λ_=>some []
def WK(π:FP)(g:FE):FP:=λe=>(π e).bind λp=>(g e).bind λd=>match d with
 | .int k=>if 0≤k then some (p++[.ix k.toNat])else none
 | _=>none
section
variable{K:aD}{X:Cx}{e a b c:Expr}{es:List Expr}{t ta tb te:TE}{f g:FE}{tA:TA}{fs:FA}{pos:Pos}{i j:Nat}{π:FP}{st:Stmt}
theorem iZ(h:PE X e (pN i))(hk:X.K=K:=by rfl):XP K X e (pN i) i fG:=⟨hk,h,λσ H e v0 p v Q re h1 h2 h3 k=>by
 cases h2
 unfold Hf at h3
 cases h3
 exact⟨v0,h1,k H (aU.refl _)⟩⟩
theorem PB(h:XP K X a ta i π)(hb:XR K X b tb g)(hs:Ht b):XP K X (.Subscript a b pos) (Pz (rIx K) ta tb) i (WK π g):=⟨h.hk,gf (aCj h.hk) h.pe hb.pe hs,λσ H e v0 p v Q re h1 h2 h3 k=>by
 unfold WK at h2
 obtain⟨p0,q1,q2⟩:=aX h2
 obtain⟨d,q3,q4⟩:=aX q2
 split at q4
 ·rename_i n
  split at q4
  ·rename_i hn
   cases q4
   obtain⟨w,w1,w2⟩:=Kl h3
   obtain⟨ad,xs,rfl,w3,w4⟩:=jw w2
   refine h.ev σ H e v0 p0 _ _ re h1 q1 w1 λH1 s1=>hb.ev σ H1 H1 e _ _ (Zn.self K H1) (re.same s1) q3 λy H2 Z2 s2 t2 z2 ry=>?_
   unfold Rv at ry
   exact .inl ⟨ad,xs,n,v,rfl,ry,pY.of (s2 _ _ (s1 _ _ w3)),aFF hn w4,k H2 (s1.trans s2)⟩
  ·cases q4
 ·cases q4⟩
def Bv(i:Nat)(π:FP)(f:FE):GS:=λenv=>match env[i]?,π (rE env),f (rE env)with
 | some (.own d0),some p,some d=>(match fD p d0 with
  | some (.lst ds)=>if ds.length<100000 then .next (env.set i (.own (eN p d0 (.lst (ds++[d])))))else .bad
  | _=>.bad)
 | _,_,_=>.bad
theorem Ul{H H1:Hp}{A:Fp}{ds:List D}{xs:List V}{N:Fp}(o:eY K H ds A xs)(fr:∀a,N a→H a=none):Apart A N:=λx q1 q2=>by
 obtain⟨⟨u,eu⟩,_⟩:=eY.cells _ _ _ o x q1
 rw[fr x q2]at eu;cases eu
theorem jx(h:EvP K ta i π)(he:Nv K te f):ZV K (lU (Qi K "list" pO ta (fJ te mJ))) (Bv i π f):=λB E σ H env r p=>by
 unfold Bv at p
 split at p
 ·rename_i d0 pp d q1 q2 q3
  split at p
  ·rename_i ds q4
   split at p
   ·rename_i hl
    obtain⟨v0,a,xs,Bs,k1,k2,k3,k4,k5,k6⟩:=r.GF q1 q4
    refine h σ H (rE env) v0 pp _ _ r.r k1 q2 k2 λH1 s1=>⟨.inl ⟨rfl,xs,pY.of (s1 _ _ k3)⟩,?_⟩
    refine he σ H1 (rE env) d _ (r.r.same s1) q3 λy H2 s2 n=>?_
    obtain⟨N,o,fr⟩:=n.back s1
    have s12:=s1.trans s2
    refine⟨a,xs,y,rfl,rfl,s12 _ _ k3,Qu (by rw[(eY.rv _ _ _ k5).length];omega),p _ ?_⟩
    exact k6 H2 (ds++[d]) (xs++[y]) (fH Bs N) s12 (cN.mpr ((cN.mp (k5.same s12)).snoc o (Ul (H1:=H) k5 fr))) λb z=>z.imp id (fr b)
   ·exact p.elim
  ·exact p.elim
 ·exact p.elim
theorem jy{m:Str}{apos cpos:Pos}(h:XP K X a ta i π)(he:XN K X e te f)(hp:PE X a ta→PE X e te→PS X (.Expr (.Call (.Attribute a m apos) [e] [] cpos) pos) (lU (Qi K "list" pO ta (fJ te mJ)))):YS K X (.Expr (.Call (.Attribute a m apos) [e] [] cpos) pos) (lU (Qi K "list" pO ta (fJ te mJ))) (Bv i π f):=⟨hp h.pe he.pe,(jx h.ev he.ev).ds⟩
def Gn(i:Nat)(π:FP)(g f:FE):GS:=λenv=>match env[i]?,π (rE env),g (rE env),f (rE env)with
 | some (.own d0),some p,some (.int k),some d=>(match fD p d0 with
  | some (.lst ds)=>(match UJ ds.length k with
   | some j=>.next (env.set i (.own (eN p d0 (.lst (ds.set j d)))))
   | none=>.bad)
  | _=>.bad)
 | _,_,_,_=>.bad
theorem aDR{n:Nat}{k:Int}{j:Nat}(h:UJ n k=some j):j<n:=by
 unfold UJ at h
 split at h
 ·split at h
  ·cases h;omega
  ·cases h
 ·split at h
  ·cases h;omega
  ·cases h
theorem aBe(h:EvP K ta i π)(hx:Ea K tb g)(he:Nv K te f):ZV K (sX te (aAv ta tb MF)) (Gn i π g f):=λB E σ H env r p=>by
 unfold Gn at p
 split at p
 ·rename_i d0 pp k d q1 q2 q3 q3'
  split at p
  ·rename_i ds q4
   split at p
   ·rename_i j q5
    obtain⟨v0,a,xs,Bs,k1,k2,k3,k4,k5,k6⟩:=r.GF q1 q4
    refine he σ H (rE env) d _ r.r q3' λy H1 s1 n=>?_
    refine h σ H1 (rE env) v0 pp _ _ (r.r.same s1) k1 q2 (wM s1 k2) λH2 s2=>hx σ H2 H2 (rE env) _ _ (Zn.self K H2) (r.r.same (s1.trans s2)) q3 λy' H3 Z3 s3 t3 z3 ry=>?_
    unfold Rv at ry
    have BV:=s1.trans (s2.trans s3)
    obtain⟨N,o,fr⟩:=n.same (s2.trans s3)
    have hlen:=(eY.rv _ _ _ k5).length
    refine⟨a,xs,k,j,rfl,ry,BV _ _ k3,by rw[hlen];exact q5,p _ ?_⟩
    obtain⟨y0,A1,C,f1,f2,f3,f4,f5⟩:=(cN.mp (k5.same BV)).focus (B6 (aDR q5))
    have ap:Apart N C:=λx q1 q2=>Ul (H1:=H) k5 fr x ((f3 x).mpr (.inr q2)) q1
    exact k6 H3 (ds.set j d) (xs.set j y) (fH N C) BV (cN.mpr (f5 (Ow K H3) (λ_ _ _ _ qq=>qq) d y N ap o)) λb z=>z.elim (λz=>.inr (fr b z)) λz=>.inl ((f3 b).mpr (.inr z))
   ·exact p.elim
  ·exact p.elim
 ·exact p.elim
theorem PJ{pos':Pos}(h:XP K X a ta i π)(hx:XR K X b tb g)(he:XN K X e te f)(hp:PE X a ta→PE X b tb→PE X e te→PS X (.Assign [.Subscript a b pos'] e pos) (sX te (aAv ta tb MF))):YS K X (.Assign [.Subscript a b pos'] e pos) (sX te (aAv ta tb MF)) (Gn i π g f):=⟨hp h.pe hx.pe he.pe,(aBe h.ev hx.ev he.ev).ds⟩
def vD(i:Nat)(π:FP)(g f:FE):GS:=λenv=>match env[i]?,π (rE env),g (rE env),f (rE env)with
 | some (.own d0),some p,some k,some d=>(match fD p d0,Oe k with
  | some (.dk ks ds),some k=>if d.iI=true∧ks.length<100000 then .next (env.set i (.own (eN p d0 (.dk (kW ks k) (putD ks ds k d)))))else .bad
  | _,_=>.bad)
 | _,_,_,_=>.bad
theorem Xk{H:Hp}{d:D}{v:V}(o:Ow K H d nil v)(k:Key):∀{ks:List Key} {ds:List D} {A:Fp} {xs:List V},ks.length=xs.length→eY K H ds A xs→∃A',(∀x,A' x→A x)∧eY K H (R3 (λk' d'=>if k'=k then d else d') ks ds) A' (R3 (λk' d'=>if k'=k then v else d') ks xs)
 | [],ds,A,xs,hl,h=>by
  cases xs with
  | nil=>exact⟨nil,λ_ z=>z.elim,by rw[Q2,Q2];unfold eY;exact⟨λ_ z=>z,rfl⟩⟩
  | cons x xs=>simp at hl
 | k0::ks,[],A,xs,hl,h=>by unfold eY at h;rw[h.2]at hl;simp at hl
 | k0::ks,d0::ds,A,xs,hl,h=>by
  unfold eY at h
  obtain⟨y,yt,A1,A2,rfl,h2,h3,h4,h5⟩:=h
  obtain⟨A',a1,a2⟩:=Xk o k (by simpa using hl) h5
  by_cases c:k0=k
  ·refine⟨A',λx q=>(h3 x).mpr (.inr (a1 x q)),?_⟩
   rw[J0,J0,if_pos c,if_pos c]
   unfold eY
   exact⟨v,_,nil,A',rfl,λ_ z=>z.elim,λx=>⟨.inr,λz=>z.elim False.elim id⟩,o,a2⟩
  ·refine⟨fH A1 A',λx q=>(h3 x).mpr (q.imp id (a1 x)),?_⟩
   rw[J0,J0,if_neg c,if_neg c]
   unfold eY
   exact⟨y,_,A1,A',rfl,λx z1 z2=>h2 x z1 (a1 x z2),λ_=>Iff.rfl,h4,a2⟩
theorem PK(h:EvP K ta i π)(hx:Ea K tb g)(he:Ea K te f):ZV K (Bk ta tb te) (vD i π g f):=λB E σ H env r p=>by
 unfold vD at p
 split at p
 ·rename_i d0 pp kd d q1 q2 q3 q3'
  split at p
  ·rename_i ks ds k q4 q5
   split at p
   ·rename_i hc
    obtain⟨v0,a,xs,Bs,k1,k2,k3,k3',k4,k5,k6⟩:=r.aHj q1 q4
    refine he σ H H (rE env) d _ (Zn.self K H) r.r q3' λy H1 Z1 s1 t1 z1 ry=>?_
    refine h σ H1 (rE env) v0 pp _ _ (r.r.same s1) k1 q2 (wM s1 k2) λH2 s2=>hx σ H2 H2 (rE env) _ _ (Zn.self K H2) (r.r.same (s1.trans s2)) q3 λy' H3 Z3 s3 t3 z3 ry'=>?_
    have BV:=s1.trans (s2.trans s3)
    have o:Ow K H3 d nil y:=wF d y hc.1 ((z1.sm.trans (s2.trans s3)).rv _ _ ry)
    have ek:=Hx q5 (z3.sm.rv _ _ ry')
    refine⟨a,_,rfl,.inl ⟨ks.zip xs,k,BV _ _ k3,ek,Qu (by rw[X6];omega),rfl⟩,p _ ?_⟩
    rw[Xf k3']
    have ow3:=k5.same BV
    have hl3:=(eY.rv _ _ _ k5).length
    by_cases c:(posK ks k).isSome=true
    ·obtain⟨A',a1,a2⟩:=Xk o k k3' ow3
     refine k6 H3 (kW ks k) (putD ks ds k d) (putD ks xs k y) A' BV (tO k3') ?_ λb z=>.inl (a1 b z)
     unfold putD
     rw[if_pos c,if_pos c]
     exact a2
    ·refine k6 H3 (kW ks k) (putD ks ds k d) (putD ks xs k y) (fH Bs nil) BV (tO k3') ?_ λb z=>z.elim .inl False.elim
     unfold putD
     rw[if_neg c,if_neg c]
     exact cN.mpr ((cN.mp ow3).snoc o λ_ _ z=>z)
   ·exact p.elim
  ·exact p.elim
 ·exact p.elim
theorem aBf{pos':Pos}(h:XP K X a ta i π)(hx:XR K X b tb g)(he:XR K X e te f)(hp:PE X a ta→PE X b tb→PE X e te→PS X (.Assign [.Subscript a b pos'] e pos) (Bk ta tb te)):YS K X (.Assign [.Subscript a b pos'] e pos) (Bk ta tb te) (vD i π g f):=⟨hp h.pe hx.pe he.pe,(PK h.ev hx.ev he.ev).ds⟩
theorem Qy{α β:Type}{R:α→Fp→β→Prop}:∀{ds:List α} {A:Fp} {ys:List β} (k:Nat),gY R ds A ys→∃A',(∀x,A' x→A x)∧gY R (ds.eraseIdx k) A' (ys.eraseIdx k)
 | [],A,ys,k,h=>⟨A,λ_ z=>z,by rw[h.2];exact⟨h.1,rfl⟩⟩
 | d::ds,A,ys,0,⟨y,yt,A1,A2,h1,h2,h3,h4,h5⟩=>⟨A2,λx z=>(h3 x).mpr (.inr z),by rw[h1];exact h5⟩
 | d::ds,A,ys,k+1,⟨y,yt,A1,A2,h1,h2,h3,h4,h5⟩=>by
  obtain⟨A',a1,a2⟩:=Qy k h5
  refine⟨fH A1 A',λx z=>(h3 x).mpr (z.imp id (a1 x)),?_⟩
  rw[h1,M5,M5]
  exact⟨y,_,A1,A',rfl,λx z1 z2=>h2 x z1 (a1 x z2),λ_=>Iff.rfl,h4,a2⟩
def yC(i j:Nat)(f:FE):GS:=λenv=>match env[i]?,env[j]?,f (rE env)with
 | some (.own (.lst ds)),some (.own (.lst es)),some (.int k)=>if i≠j∧ds.length<100000∧0≤k∧k<es.length∧es.length≤100000 then(match es[k.toNat]? with
   | some d=>if d.iI=true then .next ((env.set j (.own (.lst (es.eraseIdx k.toNat)))).set i (.own (.lst (ds++[d]))))else .bad
   | none=>.bad)else .bad
 | _,_,_=>.bad
theorem WL(he:Ea K te f):DS K (lU (Qi K "list" pO (pN i) (fJ (Qi K "list" Tw (pN j) (fJ te mJ)) mJ))) (yC i j f):=λB E σ H env r p=>by
 unfold yC at p
 split at p
 ·rename_i ds es k q1 q2 q3
  split at p
  ·rename_i hc
   obtain⟨c1,c2,c3,c4,c5⟩:=hc
   split at p
   ·rename_i d q4
    split at p
    ·rename_i im
     obtain⟨w0,b,ys,Cs,m1,m2,m3,m4,m5,m6⟩:=r.GF (p:=[]) q2 rfl
     obtain⟨v0,a,xs,Bs,k1,k2,k3,k4,k5,k6⟩:=r.GF (p:=[]) q1 rfl
     have e1:v0=.ref a:=by unfold Hf at k2;exact F0 k2
     have e2:w0=.ref b:=by unfold Hf at m2;exact F0 m2
     subst e1 e2
     refine⟨_,k1,.inl ⟨rfl,xs,pY.of k3⟩,⟨_,m1,.inl ⟨rfl,ys,pY.of m3⟩,?_⟩⟩
     refine he σ H H (rE env) _ _ (Zn.self K H) r.r q3 λy H1 Z1 s1 t1 z1 ry=>?_
     unfold Rv at ry
     have hly:=(eY.rv _ _ _ m5).length
     have hlx:=(eY.rv _ _ _ k5).length
     obtain⟨x',hx',rx'⟩:=(eY.rv _ _ _ m5).get q4
     refine⟨b,ys,k,k.toNat,x',rfl,by rw[ry],s1 _ _ m3,by omega,by omega,seqIndex_of c3 (by rw[hly];exact c4),hx',?_⟩
     have o1:=m5.same s1
     obtain⟨A',a1,a2⟩:=Qy k.toNat (cN.mp o1)
     have r1:=m6 H1 (es.eraseIdx k.toNat) (ys.eraseIdx k.toNat) A' s1 (cN.mpr a2) λx z=>.inl (a1 x z)
     have r1':Rel K B (env.set j (.own (.lst (es.eraseIdx k.toNat)))) σ (upd H1 b (.lst (ys.eraseIdx k.toNat))):=r1
     have q1':(env.set j (.own (.lst (es.eraseIdx k.toNat))))[i]?=some (.own (.lst ds)):=by rw[L3,if_neg (Ne.symm c1)];exact q1
     obtain⟨v0',a',xs',Bs',n1,n2,n3,n4,n5,n6⟩:=r1'.GF (p:=[]) q1' rfl
     rw[k1]at n1
     cases n1
     have e3:a'=a:=by unfold Hf at n2;cases n2;rfl
     subst e3
     have ne:a'≠b:=by
      intro z
      subst z
      obtain⟨A0,sA,_⟩:=r
      obtain⟨y1,A1,C,f1,f2,f3,f4,f5⟩:=sA.focus q1
      obtain⟨v1,ev1,o1⟩:=f4
      have g1:=f5 (jD K H (out H A0)) (λ_ _ _ _ qq=>qq) (.own (.lst ds)) (some v1) A1 f2 ⟨v1,rfl,o1⟩
      rw[k1]at f1
      cases f1
      cases ev1
      unfold Ow at o1
      obtain⟨p1,_,_,ep1,_,_,ip1,_⟩:=o1
      cases ep1
      have other:∀{l:EN} {A:Fp} {ys:St} (i j:Nat),gY (jD K H (out H A0)) l A ys→i≠j→∀s s',l[i]?=some s→l[j]?=some s'→∃y y' A1 A2,ys[i]?=some y∧ys[j]?=some y'∧jD K H (out H A0) s A1 y∧jD K H (out H A0) s' A2 y'∧Apart A1 A2:=by
       intro l
       induction l with
       | nil=>intro A ys i j _ _ s s' h1 _;simp at h1
       | cons d l ih=>
        rintro A ys i j ⟨y,yt,B1,B2,rfl,h2,h3,h4,h5⟩ hij s s' h6 h7
        cases i with
        | zero=>
         cases j with
         | zero=>exact absurd rfl hij
         | succ j=>
          simp at h6
          subst h6
          obtain⟨y2,A3,C3,w1,w2,w3,w4,_⟩:=h5.focus (i:=j) (d:=s') (by simpa using h7)
          exact⟨y,y2,B1,A3,rfl,by simpa using w1,h4,w4,λx z1 z2=>h2 x z1 ((w3 x).mpr (.inl z2))⟩
        | succ i=>
         cases j with
         | zero=>
          simp at h7
          subst h7
          obtain⟨y2,A3,C3,w1,w2,w3,w4,_⟩:=h5.focus (i:=i) (d:=s) (by simpa using h6)
          exact⟨y2,y,A3,B1,by simpa using w1,rfl,w4,h4,λx z1 z2=>h2 x z2 ((w3 x).mpr (.inl z1))⟩
         | succ j=>
          obtain⟨y2,y3,A3,A4,w1,w2,w3,w4,w5⟩:=ih i j h5 (λz=>hij (by rw[z])) s s' (by simpa using h6) (by simpa using h7)
          exact⟨y2,y3,A3,A4,by simpa using w1,by simpa using w2,w3,w4,w5⟩
      obtain⟨y2,y3,A3,A4,w1,w2,w3,w4,w5⟩:=other i j sA c1 _ _ q1 q2
      rw[k1]at w1;cases w1
      rw[m1]at w2;cases w2
      obtain⟨_,ea,oa⟩:=w3
      obtain⟨_,eb,ob⟩:=w4
      cases ea
      cases eb
      unfold Ow at oa ob
      obtain⟨p1,_,_,e1,_,_,i1,_⟩:=oa
      obtain⟨p2,_,_,e2,_,_,i2,_⟩:=ob
      cases e1
      cases e2
      exact w5 _ ((i1 _).mpr (.inl rfl)) ((i2 _).mpr (.inl rfl))
     have n3':H1 a'=some (.lst xs'):=by rw[bL ne]at n3;exact n3
     have exx:xs'=xs:=by have:=s1 _ _ k3;rw[n3']at this;cases this;rfl
     subst exx
     have imo:Ow K (upd H1 b (.lst (ys.eraseIdx k.toNat))) d nil x':=Ow.frame (rY (tM (s1 _ _ m3))) _ _ _ (wF d x' im (s1.rv _ _ rx')) λ_ z=>z.elim
     refine⟨a',xs',x',rfl,rfl,n3,Qu (by omega),p _ _ ?_⟩
     exact n6 _ (ds++[d]) (xs'++[x']) (fH Bs' nil) (aU.refl _) (cN.mpr ((cN.mp n5).snoc imo λ_ _ z=>z)) λx z=>z.elim .inl False.elim
    ·exact p.elim
   ·exact p.elim
  ·exact p.elim
 ·exact p.elim
end
end L2


namespace L2
open PySem PySem.Spec PyProof.Rows
def GJ(K:aD)(B:Hp)(R:Fp)(env:EN)(σ:St)(H:Hp):Prop:=∃A,gY (jD K H (out H (fH A R))) env A σ∧Apart A R∧aU B (out H (fH A R))
section
variable{K:aD}{B H H':Hp}{env:EN}{σ:St}{R R' A1:Fp}
theorem Rel.x(h:Rel K B env σ H)(s:aU H H')(f:∀a,R a→H a=none):GJ K B R env σ H':=by
 obtain⟨A,a,b⟩:=h
 have cl:=iT a
 have g:aU (out H A) (out H' (fH A R)):=bU s λx q=>q.imp id (f x)
 refine⟨A,a.mono λe C z _ q=>q.same s g,λx q1 q2=>?_,b.trans g⟩
 obtain⟨⟨u,eu⟩,_⟩:=cl x q1
 rw[f x q2]at eu;cases eu
theorem GJ.own{i:Nat}{d:D}{v:V}(h:GJ K B R env σ H)(e:Is R (fH A1 R'))(ap:Apart A1 R')(o:Ow K H d A1 v)(hi:i<env.length):GJ K B R' (env.set i (.own d)) (σ.set i (some v)) H:=by
 obtain⟨A,a,aR,b⟩:=h
 obtain⟨y,A0,C,h1,h2,h3,h4,k⟩:=a.focus (B6 hi)
 have g:aU (out H (fH A R)) (out H (fH (fH A1 C) R')):=bU (aU.refl _) λx q=>by
  rcases q with (q | q) | q
  ·exact .inl (.inr ((e x).mpr (.inl q)))
  ·exact .inl (.inl ((h3 x).mpr (.inr q)))
  ·exact .inl (.inr ((e x).mpr (.inr q)))
 refine⟨fH A1 C,k _ (λs D z _ q=>q.same (aU.refl _) g) (.own d) (some v) A1 (λx q1 q2=>aR x ((h3 x).mpr (.inr q2)) ((e x).mpr (.inl q1))) ⟨v,rfl,o⟩,λx q1 q2=>?_,b.trans g⟩
 rcases q1 with q1 | q1
 ·exact ap x q1 q2
 ·exact aR x ((h3 x).mpr (.inr q1)) ((e x).mpr (.inr q2))
theorem GJ.done(h:GJ K B R env σ H)(e:None R):Rel K B env σ H:=by
 obtain⟨A,a,aR,b⟩:=h
 have g:aU (out H (fH A R)) (out H A):=bU (aU.refl _) λx q=>.inl (.inl q)
 exact⟨A,a.mono λs D z _ q=>q.same (aU.refl _) g,b.trans g⟩
end
def Ac:List Nat→TGs
 | []=>aFk
 | i::is=>aB8 (fY i) (Ac is)
def rH:EN→List Nat→List D→EN
 | env,i::is,d::ds=>rH (env.set i (.own d)) is ds
 | env,_,_=>env
theorem Xl{K:aD}{B H:Hp}{Q:St→Hp→Prop}:∀{is:List Nat} {ds:List D} {xs:List V} {R:Fp} {env:EN} {σ:St},GJ K B R env σ H→eY K H ds R xs→is.length=ds.length→(∀i∈is,i<env.length) →
  (∀σ',Rel K B (rH env is ds) σ' H→Q σ' H)→Ac is xs σ H Q
 | [],ds,xs,R,env,σ,r,o,hl,hi,k=>by
  cases ds with
  | cons d ds=>simp at hl
  | nil=>
   unfold eY at o
   unfold Ac
   exact⟨o.2,k σ (by unfold rH;exact r.done o.1)⟩
 | i::is,ds,xs,R,env,σ,r,o,hl,hi,k=>by
  cases ds with
  | nil=>simp at hl
  | cons d ds=>
   unfold eY at o
   obtain⟨y,yt,A1,A2,rfl,h2,h3,h4,h5⟩:=o
   unfold Ac
   refine⟨y,yt,rfl,?_⟩
   have hi0:=hi i D1
   exact Xl (r.own h3 h2 h4 hi0) h5 (by simpa using hl) (λj hj=>by rw[M8];exact hi j (C7 _ hj)) λσ' r'=>k σ' (by unfold rH;exact r')
def uL(is:List Nat)(f:FE):GS:=λenv=>match f (rE env)with
 | some (.tup ds)=>if is.length=ds.length∧is.all (λi=>decide (i<env.length))=true then .next (rH env is ds)else .bad
 | _=>.bad
section
variable{K:aD}{X:Cx}{e a b c:Expr}{es:List Expr}{t ta tb te:TE}{f g:FE}{tA:TA}{fs:FA}{pos:Pos}{i j:Nat}{π:FP}{st:Stmt}
theorem WM{is:List Nat}{n:Nat}(h:Nv K te f)(hn:n=is.length):DS K (sX te (aAu K n (Ac is))) (uL is f):=λB E σ H env r p=>by
 unfold uL at p
 split at p
 ·rename_i ds q
  split at p
  ·rename_i hc
   refine h σ H (rE env) _ _ r.r q λv H' s ⟨N,o,fr⟩=>?_
   unfold Ow at o
   obtain⟨ad,xs,rfl,o1,o2⟩:=o
   refine⟨ad,xs,rfl,o1,by rw[(eY.rv _ _ _ o2).length,hn,hc.1],?_⟩
   exact Xl (r.x s fr) o2 hc.1 (λi hi=>of_decide_eq_true (V8.mp hc.2 i hi)) λσ' r'=>p σ' H' r'
  ·exact p.elim
 ·exact p.elim
theorem WN{is:List Nat}{n:Nat}{tg:Expr}(h:XN K X e te f)(hp:PE X e te→PS X (.Assign [tg] e pos) (sX te (aAu K n (Ac is))))(hn:n=is.length:=by rfl):YS K X (.Assign [tg] e pos) (sX te (aAu K n (Ac is))) (uL is f):=⟨hp h.pe,WM h.ev hn⟩
def jz:EN→List Nat→Option (List D)
 | _,[]=>some []
 | env,i::is=>(match env[i]? with
  | some (.own d)=>(jz env is).map (d::·)
  | _=>none)
inductive TyS(K:aD)(H:Hp):V→Value→Prop where
 | bl (x:Bool):TyS K H (.bl x) (.type "bool")
 | int (i:Int):TyS K H (.int i) (.type "int")
 | lst {a:Addr} {xs:List V} (e:pY K H a xs):TyS K H (.ref a) (.type "list")
 | tup {a:Addr} {xs:List V} (e:vU K H a xs):TyS K H (.ref a) (.type "tuple")
structure kJ(mg:Str→Option Value)(x:Str)(i:Int):Prop where
 ex:∃t,mg x=some (.int i t)
structure aH4(K:aD)(mg:Str→Option Value)(x:Str)(ns:List Int):Prop where
 ex:∃a,mg x=some (.ref a)∧∀H:Hp,vU K H a (ns.map V.int)
theorem qJ{x:Str}{i:Int}(G:kJ X.mg x i)(hg:Gl X x)(hd:(x==("__debug__" : Str))=false:=by decide) (hk:X.K=K:=by rfl):XN K X (.Name x pos) (tC (.int i)) (fC (.int i)):=by
 obtain⟨t,h⟩:=G.ex
 exact⟨hk,aAn hg h ⟨t,rfl⟩ hd,jd i⟩
def dTup(ns:List Int):D:=.tup (ns.map D.int)
end
def qZ(n m:Nat)(g:GS):List D→Option D:=λds=>if ds.length=m then(match g (ds.map SD.fro++E7 (n-m) SD.no)with
  | .ret d=>some d
  | .next _=>some .non
  | _=>none)else none
theorem Km{K:aD}{H Z:Hp}{k:Nat}:∀{ds:List D} {vs:List V},eE K Z ds vs→gY (jD K H Z) (ds.map SD.fro++E7 k SD.no) nil (vs.map some++E7 k none)
 | [],vs,h=>by
  unfold eE at h
  subst h
  simp only[F8,X5]
  induction k with
  | zero=>exact⟨λ_ z=>z,rfl⟩
  | succ k ih=>
   rw[Z7,Z7]
   exact⟨none,_,nil,nil,rfl,λ_ z=>z.elim,λx=>⟨.inl,λz=>z.elim id id⟩,λ_ z=>z,ih⟩
 | d::ds,vs,h=>by
  unfold eE at h
  obtain⟨y,ys,rfl,h1,h2⟩:=h
  rw[D2,D2,P5,P5]
  exact⟨some y,_,nil,nil,rfl,λ_ z=>z.elim,λx=>⟨.inl,λz=>z.elim id id⟩,⟨λ_ z=>z,y,rfl,h1⟩,Km h2⟩
theorem yD{K:aD}{H:Hp}{k:Nat}{ds:List D}{vs:List V}(h:eE K H ds vs):Rel K H (ds.map SD.fro++E7 k SD.no) (vs.map some++E7 k none) H:=by
 have g:aU H (out H nil):=λx u e=>bD.mpr ⟨λz=>z,e⟩
 exact⟨nil,Km (g.NB _ _ h),g⟩
theorem Raw.Bw{P:Program}{w:World}{K:aD}{mg:Str→Option Value}{base:Heap}{x:Str}{st:Stmt}{N ps:List Str}{k:Nat}{g:GS}(R:Raw K mg x st)(S:aZ N ps (aJ st))
  (hb:∀(kV doc pm:Value)(an:Option Addr)(cdv ct:Value)(us:List Value),us.length=ps.length→bindArgs (F3 x x (dJ st) (bR st) (aJ st) .none kV doc pm an cdv ct) ⟨us,[]⟩=pure (ps.zip us))
  (hbody:∀(f:Addr)(cdv:Value)(A:Around)(outer:List Env)(s:Shared)(H:Hp)(E:XK),gD k (A.deeper (envOfC x (aJ st) s.heap.objs.size f cdv)) →
   ∃t,YB K (mD Wg P w K mg base N x (aJ st) f cdv A outer s H E).KH (bR st) t g):sW P w K mg base x (k+1) ps.length (gP K ps.length (qZ N.length ps.length g)):=by
 refine R.cal S (λvs H Q E h=>?_) hb (λf cdv A outer s H vs Q E hr h=>?_)
 ·obtain⟨ds,d,h1,h2,_⟩:=h
  rw[h2.length];exact h1
 obtain⟨ds,d,h1,h2,h3,kk⟩:=h
 obtain⟨t,yb⟩:=hbody f cdv A outer s H E hr
 refine⟨t,yb.ps,yb.ev H _ _ H (ds.map SD.fro++E7 (N.length-ps.length) SD.no) ?_ ?_⟩
 ·have hl:vs.length=ps.length:=by rw[h2.length];exact h1
  have:=yD (k:=N.length-ps.length) h2
  unfold start
  rw[hl]
  exact this
 ·unfold qZ at h3
  rw[if_pos h1]at h3
  cases q:g (ds.map SD.fro++E7 (N.length-ps.length) SD.no)with
  | ret d'=>
   rw[q]at h3
   cases h3
   refine λv H' A' s' o=>kk v H' (s'.trans (jK _ _)) ⟨A',o,λa qa=>?_⟩
   cases e:H a with
   | none=>rfl
   | some u=>exact absurd qa (bD.mp (s' a u e)).1
  | next env'=>
   rw[q]at h3
   cases h3
   refine λσ' H' ⟨A',_,s'⟩=>kk .non H' (s'.trans (jK _ _)) (.iI rfl (by unfold Rv;rfl))
  | brk env'=>rw[q]at h3;cases h3
  | cont env'=>rw[q]at h3;cases h3
  | bad=>rw[q]at h3;cases h3
  | rete d e=>rw[q]at h3;cases h3
end L2


namespace L2
open PySem PySem.Spec PyProof.Rows
section
variable{K:aD}{X:Cx}{e a b c:Expr}{es:List Expr}{t ta tb te:TE}{f g:FE}{tA:TA}{fs:FA}{pos:Pos}{i j:Nat}{π:FP}{st:Stmt}{gb:GS}{tc:TT}{fc:FT}
def tQ(f:FE):FE:=λe=>(f e).bind λd=>match d with | .int i=>some (.int (-i)) | _=>none
theorem oG(ha:XR K X a ta f):XN K X (.UnaryOp .USub a pos) (tUn (rU λi=>.int (-i)) ta) (tQ f):=aDL ha
theorem PL{tg elt iter:Expr}{ifs:List Expr}{scope:Scope}{spos py:Pos}{y:Str}{wi:TI}{fi:FA}{fe:FE}(N:List Str)(fr:List Nat)(hcalm:X.calm=true)(B:iQ X.env.scope scope X.N N 1 fr)(hN:X.N.Nodup)(hy:X.N[i]?=some y)(hx:Loc X.env.scope y)(hi:XI K X tg iter wi fi)
  (hg:∀cl fp s H C,PG (iW X scope N cl fp s H C) tg (fY 0)) (hc:∀cl fp s H C,XTs K (iW X scope N cl fp s H C) ifs tc fc) (he:∀cl fp s H C,XN K (iW X scope N cl fp s H C) elt te fe)
  (hsw:swapsWith (.ListComp elt [⟨tg,iter,ifs,0⟩] scope pos) (some (.Name y py)) spos.line X.env=pure true:=by rfl)
  (hs:∀x,foldedSetIterable iter X.env x=pure x:=by intro _;rfl) (hf:X.fn y=true∨X.env.scope.names.lookup y=some .local:=by first | exact .inl rfl | exact .inr rfl | assumption) :
  YS K X (.Assign [.Name y py] (.ListComp elt [⟨tg,iter,ifs,0⟩] scope pos) spos) (sX (Ww wi 1 fr (fY 0) tc te) (fY i)) (cW i (jM fi fr fc fe)):=
 ⟨aAQ N 1 fr hcalm B hN hy hx hi.pi hg (λcl fp s H C=>(hc cl fp s H C).pts) (λcl fp s H C=>(he cl fp s H C).pe) hsw hs hf,jq (OJ hi.ev (hc [] [] X.s₀ X.H₀ 0).ev (he [] [] X.s₀ X.H₀ 0).ev)⟩
def EvJ(K:aD)(wi:TI)(fi:FA):Prop:=∀(σ:St)(H:Hp)(e:DE)(ds:List D)(R:It→Hp→Prop),yV K H e σ→fi e=some ds →
 (∀J H' P vs,aU H H'→JIs J P vs→(∀H2,P H2)→(∀Z,eE K Z ds vs)→R J H')→wi σ H R
structure XJ(K:aD)(X:Cx)(tg iter:Expr)(wi:TI)(fi:FA):Prop where
 pi:PI X tg iter wi
 ev:EvJ K wi fi
theorem yE{tg:Expr}{p:Pos}(hg:Gl X "range") (hm:X.mg "range" = none) (ha:XA K X [a] tA fs) (hs:starEach [a] X.env=[(false,eval a X.env)]:=by rfl):XJ K X tg (.Call (.Name "range" p) [a] [] pos) (bj tA) (pK fs):=⟨Py hg hm ha.pa hs,λσ H e ds R re q k=>by
 unfold pK at q
 obtain⟨es,q1,q2⟩:=aX q
 split at q2
 ·rename_i n
  split at q2
  ·rename_i hl
   cases q2
   have hl:=Uj hl
   refine ha.ev σ H H e _ _ (Zn.self K H) re q1 λvs H1 Z1 s1 t1 z1 rs=>?_
   obtain⟨v,rfl,r⟩:=qH rs
   unfold Rv at r
   subst r
   exact⟨n,rfl,by omega,by omega,k _ H1 _ _ s1 Ef (λ_=>True.intro) λZ=>Ek 0 n.toNat⟩
  ·cases q2
 ·cases q2⟩
theorem aFQ{tg:Expr}{p:Pos}(hp:PA X [a,b] tA→PI X tg (.Call (.Name "range" p) [a,b] [] pos) (bu tA)) (ha:XA K X [a,b] tA fs):XI K X tg (.Call (.Name "range" p) [a,b] [] pos) (bu tA) (Xi fs):=⟨ha.hk,hp ha.pa,λσ H Z e ds R z re q k=>by
 unfold Xi at q
 obtain⟨es,q1,q2⟩:=aX q
 split at q2
 ·rename_i i j
  split at q2
  ·rename_i hl
   cases q2
   have hl1:=Uj hl.1
   have hl2:=Uj hl.2
   refine ha.ev σ H Z e _ _ z re q1 λvs H1 Z1 s1 t1 z1 rs=>?_
   obtain⟨v,w,rfl,r,r'⟩:=aDM rs
   unfold Rv at r r'
   subst r r'
   exact⟨i,j,rfl,⟨by omega,by omega,by omega,by omega⟩,k _ H1 Z1 _ _ s1 t1 z1 Ef (λ_ _=>True.intro) (Ek i (j-i).toNat)⟩
  ·cases q2
 ·cases q2⟩
def wN(i:Nat)(fi:FA)(g:GS):GS:=λenv=>match fi (rE env)with
 | some xs=>Aa i g xs env
 | none=>.bad
theorem aBg{wi:TI}{fi:FA}{tb:TS}(hi:EvJ K wi fi)(h:DS K tb gb):DS K (CN wi (fY i) tb) (wN i fi gb):=λB E σ H env r p=>by
 unfold wN at p
 split at p
 ·rename_i xs q
  refine hi σ H (rE env) xs _ r.r q λJ H1 P vs s hJ hP rvs=>?_
  have hl:=(rvs H).length
  refine Ub hJ (λk σ2 H2=>∃cY,Rel K B cY σ2 H2∧Em K B E (Aa i gb (xs.drop k) cY)) ⟨env,r.same s,by simpa using p⟩ (λk σ2 H2 _ _=>hP H2) ?_ ?_
  ·rintro k x σ2 H2 hx ⟨cY,r2,p2⟩
   have hk:k<xs.length:=by
    obtain⟨h1,_⟩:=D3.mp hx
    omega
   rw[P0 hk]at p2
   unfold Aa at p2
   split at p2
   ·rename_i hlen
    obtain⟨A2,a2,b2⟩:=r2
    obtain⟨x',hx',rx⟩:=(rvs (out H2 A2)).get (B6 hk)
    rw[hx]at hx'
    cases hx'
    have r3:Rel K B (cY.set i (.fro xs[k])) (σ2.set i (some x)) H2:=Hz a2 b2 hlen (aU.refl _) (aU.refl _) (Kf a2) rx
    refine h B _ _ H2 _ r3 ?_
    split at p2
    ·rename_i env' q2;rw[q2];exact λσ' H' r'=>⟨env',r',p2⟩
    ·rename_i env' q2;rw[q2];exact λσ' H' r'=>⟨env',r',p2⟩
    ·rename_i env' q2;rw[q2];exact p2
    ·rename_i n1 n2 n3
     cases q2:gb (cY.set i (.fro xs[k]))with
     | next e=>exact absurd q2 (n1 e)
     | cont e=>exact absurd q2 (n2 e)
     | brk e=>exact absurd q2 (n3 e)
     | ret d=>rw[q2]at p2;exact p2
     | bad=>rw[q2]at p2;exact p2
     | rete d e=>rw[q2]at p2;exact p2
   ·exact p2.elim
  ·rintro σ2 H2 ⟨cY,r2,p2⟩
   rw[hl,W3]at p2
   exact p2 σ2 H2 r2
 ·exact p.elim
theorem Ie{tg iter:Expr}{body:List Stmt}{wi:TI}{fi:FA}{tb:TS}(hp:PassesOwn (model X.prog X.w) X.A X.env X.xe)(WD:X.calm=true)(hi:XJ K X tg iter wi fi)(hg:PG X tg (fY i))(hb:YB K X body tb gb)
  (hs:∀x,foldedSetIterable iter X.env x=pure x:=by intro _;rfl):YS K X (.For tg iter body [] pos) (CN wi (fY i) tb) (wN i fi gb):=⟨CP hp WD hi.pi hg hb.ps hs,aBg hi.ev hb.ev⟩
theorem WQ{m m':Str}{apos cpos aCq aCr:Pos}(he:XR K X e te f)(hp:PE X e te→PS X (.Expr (.Call (.Attribute a m apos) [.Call (.Attribute b m' aCq) [e] [] aCr] [] cpos) pos) (lU (Qi K "list" pO (pN i) (fJ (Qi K "list" Tw (pN j) (fJ te mJ)) mJ)))):YS K X (.Expr (.Call (.Attribute a m apos) [.Call (.Attribute b m' aCq) [e] [] aCr] [] cpos) pos) (lU (Qi K "list" pO (pN i) (fJ (Qi K "list" Tw (pN j) (fJ te mJ)) mJ))) (yC i j f):=⟨hp he.pe,WL he.ev⟩
end
theorem GK{K:aD}{st:Stmt}{f:Addr}{fd:FuncData}(F:Fun K "law" "law" st f fd) (hb:∀(kV doc pm:Value)(an:Option Addr)(cdv ct:Value)(u:Value),bindArgs (F3 "law" "law" (dJ st) (bR st) (aJ st) .none kV doc pm an cdv ct) ⟨[u],[]⟩=pure [(("script" : Str),u)]):∀(s:Shared)(u:Value),BindsTo s fd ⟨[u],[]⟩ [("script", u)]:=by
 obtain⟨oc,od,kV,doc,pm,an,cdv,ct,osl,rfl,lk,hcd⟩:=F.ex
 exact λs u=>.of_eq (hb kV doc pm an cdv ct u)
theorem qK{K:aD}{h:Heap}{mg:Str→Option Value}{x:Str}{i:Int}{t:Tok}(X:K.In h)(G:h.Ns mainGlobals mg)(a:O0 K mainGlobals x=some (some (.int i t))):kJ mg x i:=⟨t,P8 X G a⟩
end L2


namespace L2
open PySem PySem.Spec PyProof.Rows
section
variable{K:aD}{X:Cx}{e a b c:Expr}{es:List Expr}{t ta tb te:TE}{f g:FE}{tA:TA}{fs:FA}{pos:Pos}{i j:Nat}{π:FP}{st:Stmt}
variable{lo hi:Option Expr}{tl th:TO}{fl fh:FO}{p2:Pos}
def aH6(a b:D):Option D:=match a,b with
 | .tup x,.tup y=>if D.fZ x=true∧D.fZ y=true∧x.length+y.length≤100000 then some (.tup (x++y))else none
 | _,_=>none
end
end L2


namespace L2
open PySem PySem.Spec PyProof.Rows
theorem bgo(xs:Array Nat)(j:Nat):∀(fuel lo hi:Nat),hi-lo≤fuel→lo≤hi→hi≤xs.size→xs.toList.Pairwise (·<·) →
  (∀i,i<lo→xs.getD i 0<j)→(∀i,hi≤i→i<xs.size→j≤xs.getD i 0) →
  SetTable.below.go xs j fuel lo hi≤xs.size∧(∀i,i<SetTable.below.go xs j fuel lo hi→xs.getD i 0<j)∧(∀i,SetTable.below.go xs j fuel lo hi≤i→i<xs.size→j≤xs.getD i 0)
 | 0,lo,hi,h1,h2,h3,up,h4,h5=>by
  unfold SetTable.below.go
  have e:lo=hi:=by omega
  subst e
  exact⟨h3,h4,h5⟩
 | fuel+1,lo,hi,h1,h2,h3,up,h4,h5=>by
  unfold SetTable.below.go
  have mono:∀a b,a<b→b<xs.size→xs.getD a 0<xs.getD b 0:=λa b q q'=>by
   have:=N4.mp up a b (by simp;omega) (by simpa using q') q
   simp only[T5]at this
   simpa[P1,q',show a<xs.size by omega]using this
  split
  ·rename_i c
   have hm:(lo+hi)/2<xs.size:=by omega
   have e:xs.getD ((lo+hi)/2) j=xs.getD ((lo+hi)/2) 0:=by simp[P1,hm]
   dsimp only
   rw[e]
   by_cases c2:xs.getD ((lo+hi)/2) 0<j
   ·rw[if_pos c2]
    refine bgo xs j fuel ((lo+hi)/2+1) hi (by omega) (by omega) h3 up (λi hi'=>?_) h5
    rcases L7 i ((lo+hi)/2)with z | z
    ·have:=mono i _ z hm
     omega
    ·have z':i=(lo+hi)/2:=by omega
     subst z'
     exact c2
   ·rw[if_neg c2]
    refine bgo xs j fuel lo ((lo+hi)/2) (by omega) (by omega) (by omega) up h4 λi hi' hs=>?_
    rcases L7 ((lo+hi)/2) i with z | z
    ·have:=mono _ i z hs
     omega
    ·have z':i=(lo+hi)/2:=by omega
     subst z'
     omega
  ·have e:lo=hi:=by omega
   subst e
   exact⟨h3,h4,h5⟩
theorem below_at{xs:Array Nat}(up:xs.toList.Pairwise (·<·))(j:Nat) :
  SetTable.below xs j≤xs.size∧(∀i,i<SetTable.below xs j→xs.getD i 0<j)∧(∀i,SetTable.below xs j≤i→i<xs.size→j≤xs.getD i 0):=by
 unfold SetTable.below
 exact bgo xs j xs.size 0 xs.size (by omega) (M3 _) (C8 _) up (λi h=>absurd h (L5 _)) λi h h'=>by omega
def Led(b:Bool)(t:SetTable):Prop:=t.led=b∧(t.plain=true→t.place.toList.Pairwise (·<·)∧t.dummies=#[])
theorem Led.fresh(b:Bool):Led b (.fresh 0 0 b):=⟨rfl,λ_=>⟨by simp[SetTable.fresh],rfl⟩⟩
theorem Led.standIn{b:Bool}{t:SetTable}(h:Led b t)(n:Nat):Led b (t.standIn n):=⟨h.1,λq=>by simp[SetTable.standIn]at q⟩
theorem Led.off{b:Bool}{t:SetTable}(h:Led b t):Led b {t with plain:=false}:=⟨h.1,λq=>by simp at q⟩
theorem pgo{t:SetTable}(hd:t.dummies=#[]){g:Nat→Int}{h:Int}:∀(fuel:Nat)(p:SetTable.Probe)(j:Nat)(d:Option Nat),p.dummy=none→SetTable.probe.go t g h fuel p=some (.empty j d)→d=none∧t.slot j=.empty
 | 0,p,j,d,_,q=>by simp[SetTable.probe.go]at q
 | fuel+1,p,j,d,e,q=>by
  unfold SetTable.probe.go at q
  have adv:(t.advance p).dummy=none:=by
   unfold SetTable.advance
   split
   ·exact e
   ·exact e
  split at q
  ·rename_i c
   injection q with q
   injection q with q1 q2
   rw[←q1,←q2]
   exact⟨e,c⟩
  ·rename_i c
   exfalso
   unfold SetTable.slot at c
   dsimp only at c
   split at c
   ·cases c
   ·split at c
    ·rename_i z
     rw[hd]at z
     simp[SetTable.has]at z
    ·cases c
  ·split at q
   ·cases q
   ·exact pgo hd fuel _ j d adv q
theorem Qz{t:SetTable}(hd:t.dummies=#[]){h:Int}{j:Nat}{w:Bool}(q:t.freeSlot h=some (j,w)):t.slot j=.empty∧w=false:=by
 unfold SetTable.freeSlot at q
 split at q
 ·rename_i j' d e
  obtain⟨rfl,e2⟩:=pgo hd _ _ _ _ (by rfl) e
  simp at q
  obtain⟨rfl,rfl⟩:=q
  exact⟨e2,rfl⟩
 ·cases q
theorem kh{t:SetTable}(hd:t.dummies=#[])(up:t.place.toList.Pairwise (·<·)){j:Nat}(q:t.slot j=.empty):(t.put j).1.place.toList.Pairwise (·<·)∧(t.put j).1.dummies=#[]:=by
 obtain⟨b1,b2,b3⟩:=below_at up j
 refine⟨?_,?_⟩
 ·show (SetTable.insertAt t.place (SetTable.below t.place j) j).toList.Pairwise (·<·)
  rw[SetTable.toList_insertAt]
  have ne:t.place[SetTable.below t.place j]?≠some j:=λz=>by
   unfold SetTable.slot at q
   dsimp only at q
   rw[z]at q
   simp at q
  have lo:∀x∈t.place.toList.take (SetTable.below t.place j),x<j:=λx hx=>by
   obtain⟨i,hi,rfl⟩:=O3 hx
   rw[O4]at hi
   have hs:i<t.place.size:=by simp at hi;omega
   have:=b2 i (by omega)
   simpa[P1,hs]using this
  have hi:∀x∈t.place.toList.drop (SetTable.below t.place j),j<x:=λx hx=>by
   obtain⟨i,hi,rfl⟩:=O3 hx
   rw[W4,G6]at hi
   have hs:SetTable.below t.place j+i<t.place.size:=by omega
   have h1:=b3 (SetTable.below t.place j+i) (by omega) hs
   have e:(t.place.toList.drop (SetTable.below t.place j))[i]=t.place.getD (SetTable.below t.place j+i) 0:=by simp[P1,hs]
   rw[e]
   rcases Nat.eq_zero_or_pos i with z | z
   ·subst z
    rcases L7 j (t.place.getD (SetTable.below t.place j+0) 0)with y | y
    ·exact y
    ·refine absurd ?_ ne
     have e2:t.place.getD (SetTable.below t.place j) 0=j:=by simp only[Nat.add_zero]at y h1;omega
     rw[N5 (by omega)]
     simpa[P1,show SetTable.below t.place j<t.place.size by omega]using e2
   ·have h0:=b3 (SetTable.below t.place j) (C8 _) (by omega)
    have:=N4.mp up (SetTable.below t.place j) (SetTable.below t.place j+i) (by simp;omega) (by simpa using hs) (by omega)
    simp only[T5]at this
    have e3:t.place.getD (SetTable.below t.place j) 0<t.place.getD (SetTable.below t.place j+i) 0:=by simpa[P1,hs,show SetTable.below t.place j<t.place.size by omega]using this
    omega
  refine T6.mpr ⟨up.sublist (V3 _ _),G1.mpr ⟨hi,up.sublist (d6 _ _)⟩,λx hx y hy=>?_⟩
  have h1:=lo x hx
  rcases C6.mp hy with z | z
  ·omega
  ·have:=hi y z
   omega
 ·show (if SetTable.has t.dummies j then _ else t.dummies)=#[]
  rw[hd]
  simp[SetTable.has]
theorem Led.lay{b:Bool}{t:SetTable}(h:Led b t)(es:Array (Int×Value))(k:Int)(x:Value):Led b (layNew t es k x).2.1:=by
 unfold layNew
 split
 ·rename_i j w e
  dsimp only
  unfold SetTable.orStandIn
  split
  ·refine⟨h.1,λq=>?_⟩
   obtain⟨u,d⟩:=h.2 q
   exact kh d u (Qz d e).1
  ·exact Led.standIn (t:=(t.put j).1) ⟨h.1,λq=>by
    obtain⟨u,d⟩:=h.2 q
    exact kh d u (Qz d e).1⟩ _
 ·exact h.standIn _
theorem aCs{β:Type}(f:Nat→Option β):∀l:List Nat,l.Pairwise (·<·)→((l.filterMap λj=>(f j).map λy=>(j,y)).map (·.1)).Pairwise (·<·)∧∀x∈((l.filterMap λj=>(f j).map λy=>(j,y)).map (·.1)),x∈l
 | [],_=>⟨.nil,λx h=>by simp at h⟩
 | a::l,h=>by
  obtain⟨h1,h2⟩:=G1.mp h
  obtain⟨i1,i2⟩:=aCs f l h2
  rw[L4]
  cases e:f a with
  | none=>exact⟨i1,λx hx=>C7 _ (i2 x hx)⟩
  | some y=>
   refine⟨G1.mpr ⟨λx hx=>h1 x (i2 x hx),i1⟩,λx hx=>?_⟩
   rcases C6.mp hx with z | z
   ·exact z▸D1
   ·exact C7 _ (i2 x z)
theorem Led.aFR{b:Bool}{t:SetTable}(h:Led b t)(es:Array (Int×Value))(n:Nat):Led b (relayAll t es n).2.1:=by
 unfold relayAll
 split
 ·rename_i t' order e
  dsimp only
  split
  ·dsimp only
   unfold SetTable.relaid SetTable.laid at e
   obtain⟨ow,e1,e2⟩:=aX e
   injection e2 with e2
   injection e2 with e3 e4
   rw[←e3]
   exact⟨h.1,λ_=>⟨by simpa using (aCs (λj=>ow.getD j none) _ List.pairwise_lt_range).1,rfl⟩⟩
  ·exact h.standIn _
 ·exact h.standIn _
theorem Ad{α:Type}:∀(l:List α)(i:Nat)(h:i<l.length),(l[i]::l.eraseIdx i).Perm l
 | [],i,h=>absurd h (by simp)
 | a::l,0,h=>R7 _
 | a::l,i+1,h=>by
  have:=Ad l i (by simpa using h)
  simp only[List.getElem_cons_succ,M5]
  exact(j6 a _ _).trans (this.cons a)
theorem PN{α:Type}(next:Nat→Nat):∀(n:Nat)(left:List α)(k:Nat)(out:Array α),left.length=n→((pickOrder.go next n k left out).toList).Perm (out.toList++left)
 | 0,left,k,out,hn=>by
  have:left=[]:=I0 hn
  subst this
  simp[pickOrder.go]
 | n+1,left,k,out,hn=>by
  unfold pickOrder.go
  have hl:next k%left.length<left.length:=T7 _ (by omega)
  rw[B6 hl]
  dsimp only
  refine(PN next n (left.eraseIdx (next k%left.length)) (k+1) _ (by rw[O9 hl];omega)).trans ?_
  rw[d7,d8]
  exact Y5 _ (Ad _ _ hl)
theorem WR{α:Type}(next:Nat→Nat)(xs:Array α):(pickOrder next xs).toList.Perm xs.toList:=by
 have:=PN next xs.size xs.toList 0 #[] (by simp)
 simpa[pickOrder]using this
end L2


namespace L2
open PySem PySem.Spec PyProof.Rows
section
variable{prog:Program}{w:World}{A:Around}{E:Value→Shared→Prop}{s:Shared}{b:Bool}
def Ae(prog:Program)(w:World)(b:Bool)(h:Heap)(a:Addr)(S:Int→Bool)(n:Nat):Prop:=
 ∃o es ep t,h.get? a=some o∧o.ExactSet∧o.data=.set es ep t∧ElemsOf (intKind prog w) es.toList∧(∀k,S k=true↔∃e∈es.toList,(intKind prog w).is k e.2=true)∧es.size<scanBound∧t.fits es.size=true∧es.size=n∧Led b t
theorem Ae.at_{h h':Heap}{a:Addr}{S:Int→Bool}{n:Nat}(x:Ae prog w b h a S n)(e:∀o,h.get? a=some o→h'.get? a=some o):Ae prog w b h' a S n:=
 let ⟨o,es,ep,t,ho,r⟩:=x;⟨o,es,ep,t,e o ho,r⟩
theorem Ae.to{h:Heap}{a:Addr}{S S':Int→Bool}{n n':Nat}(x:Ae prog w b h a S n)(e:∀k,S k=S' k)(en:n=n'):Ae prog w b h a S' n':=by
 subst en
 have:S=S':=funext e
 rw[←this]
 exact x
theorem aCt{h:Heap}{a:Addr}{o:Obj}{es es':Array (Int×Value)}{ep:Nat}{t t':SetTable}{S':Int→Bool}(ho:h.get? a=some o)(hex:o.ExactSet)(hd:o.data=.set es ep t)(hel:ElemsOf (intKind prog w) es'.toList)
  (hm:∀k,S' k=true↔∃e∈es'.toList,(intKind prog w).is k e.2=true) (hz:es'.size<scanBound) (hf:t'.fits es'.size=true) (hl:Led b t') :
  (h.update a (Obj.putSet es' t')).get? a=some {o with data:=.set es' (ep+1) t'}∧Ae prog w b (h.update a (Obj.putSet es' t')) a S' es'.size:=
 have g:=(SetOf_store (knd:=intKind prog w) ho hex hd hel hm hz hf).1
 ⟨g,_,es',ep+1,t',g,hex,rfl,hel,hm,hz,hf,rfl,hl⟩
theorem kj{g:Bool→Sem Unit}(hg:∀(c:Bool)(s₁:Shared)(Q':Unit→Shared→Prop),Q' () s₁→wpAny (model prog w) A (g c) Q' E s₁){a:Addr}{o:Obj}{es e1:Array (Int×Value)}{ep:Nat}{t t2:SetTable}{S':Int→Bool}
  (ho:s.heap.get? a=some o) (hex:o.ExactSet) (hd:o.data=.set es ep t) (hel:ElemsOf (intKind prog w) e1.toList) (hm:∀k,S' k=true↔∃e∈e1.toList,(intKind prog w).is k e.2=true) (hz:e1.size<scanBound) (hf:t2.fits e1.size=true) (hl:Led b t2)
  {wd:Bool} {R:Option Bool→Shared→Prop} (h:∀h',Heap.SameBut a s.heap h'→Ae prog w b h' a S' e1.size→R (some true) {s with heap:=h'}) :
  wpAny (model prog w) A (do
    storeSet a e1 t2
    if(!wd&&t2.tooFull)=true then do
      g (relayAll t2 e1 (SetTable.grown e1.size)).2.2
      storeSet a (relayAll t2 e1 (SetTable.grown e1.size)).1 (relayAll t2 e1 (SetTable.grown e1.size)).2.1
      pure (some true)
     else pure (some true)) R E s:=by
 obtain⟨g1,s1⟩:=aCt (prog:=prog) (w:=w) ho hex hd hel hm hz hf hl
 refine wpAny_bind (wpAny_storeSet_of ho hd ?_ (fits_of_scanBound hz))
 have sb:=Heap.SameBut.update s.heap a (Obj.putSet e1 t2)
 split
 ·have pm:=relayAll_perm t2 e1 (SetTable.grown e1.size)
  have ff:=relayAll_fits t2 e1 (SetTable.grown e1.size)
  have ll:=hl.aFR e1 (SetTable.grown e1.size)
  have sz:(relayAll t2 e1 (SetTable.grown e1.size)).1.size=e1.size:=by rw[←G6,pm.length_eq,G6]
  have zz:(relayAll t2 e1 (SetTable.grown e1.size)).1.size<scanBound:=by rw[sz];exact hz
  refine wpAny_bind (hg _ _ _ (wpAny_bind (wpAny_storeSet_of g1 rfl ?_ (fits_of_scanBound zz))))
  obtain⟨_,s2⟩:=aCt (prog:=prog) (w:=w) (S':=S') g1 hex rfl (hel.perm pm) (λk=>(hm k).trans ⟨λ⟨e,he,q⟩=>⟨e,pm.mem_iff.mpr he,q⟩,λ⟨e,he,q⟩=>⟨e,pm.mem_iff.mp he,q⟩⟩) zz ff ll
  rw[sz]at s2
  exact wpAny_pure (h _ (sb.trans (Heap.SameBut.update _ a _)) s2)
 ·exact wpAny_pure (h _ sb s1)
theorem aFS{a:Addr}{S:Int→Bool}{n:Nat}{k:Int}{tk:Tok}{Q:Bool→Shared→Prop}(hS:Ae prog w b s.heap a S n)(room:n+1<scanBound)
  (h:∀h',Heap.SameBut a s.heap h'→Ae prog w b h' a (λj=>S j||decide (j=k)) (if S k then n else n+1)→Q (!S k) {s with heap:=h'}) :
  wpAny (model prog w) A (setAddHashed a (.int k tk) ((intKind prog w).hash k)) Q E s:=by
 obtain⟨o,es,ep,t,ho,hex,hd,hel,hm,hb,hf,hn,hl⟩:=hS
 have key:(intKind prog w).is k (.int k tk)=true:=intKind_is _ _ _ _
 have sc:(Value.int k tk).scannable=true:=rfl
 unfold setAddHashed setAddHashedIn
 refine wpAny_holding (wpAny_bind (wpAny_setState_of ho hd hf ?_))
 dsimp only
 rw[byScan_of sc hb hel]
 simp only[↓reduceIte]
 unfold setAddByScan
 refine wpAny_bind (wpAny_bind (wpAny_rule (wpAny_bind (wpAny_setScan_of key ho hd hf hel ?_))))
 cases hr:List.findIdx? (λe=>(intKind prog w).is k e.2) es.toList with
 | some j=>
  dsimp only
  obtain⟨hj,pj,_⟩:=List.findIdx?_eq_some_iff_getElem.mp hr
  have hk:S k=true:=(hm k).mpr ⟨es.toList[j],Q6 hj,pj⟩
  have z:=h s.heap (Heap.SameBut.refl a s.heap) ⟨o,es,ep,t,ho,hex,hd,hel,λj=>by
   rw[i3,decide_eq_true_eq,←hm j]
   exact⟨λq=>q.elim id λe=>by rw[e];exact hk,.inl⟩,hb,hf,by rw[hk];exact hn,hl⟩
  rw[hk]at z
  exact wpAny_pure (wpAny_pure z)
 | none=>
  dsimp only
  have hk:S k=false:=by
   cases e:S k with
   | false=>rfl
   | true=>
    obtain⟨x,hx,px⟩:=(hm k).mp e
    have:=List.findIdx?_eq_none_iff.mp hr x hx
    rw[px]at this
    cases this
  have hgw:∀(c:Bool) {s₁:Shared} {Q':Unit→Shared→Prop},Q' () s₁→wpAny (model prog w) A (match c with | true=>rule "set.scan.the-table-gave-way" | false=>pure ()) Q' E s₁:=λc s₁ Q' q=>by
   cases c
   ·exact wpAny_pure q
   ·exact wpAny_rule q
  have pm:=layNew_perm t es ((intKind prog w).hash k) (.int k tk)
  have ff:=layNew_fits t es ((intKind prog w).hash k) (.int k tk)
  have ll:=hl.lay es ((intKind prog w).hash k) (.int k tk)
  generalize layNew t es ((intKind prog w).hash k) (.int k tk)=Y at pm ff ll ⊢
  obtain⟨e1,t1,wd,gave⟩:=Y
  dsimp only at pm ff ll ⊢
  rw[d7]at pm
  have sz:e1.size=n+1:=by rw[←G6,pm.length_eq,D4,G6,hn];rfl
  have zz:e1.size<scanBound:=by omega
  have el1:=(hel.push key sc).perm pm
  have m1:=mem_push_iff (k:=k) key hm pm
  refine wpAny_bind (hgw _ ?_)
  have fin:∀h',Heap.SameBut a s.heap h'→Ae prog w b h' a (λj=>S j||decide (j=k)) e1.size→Q true {s with heap:=h'}:=λh' q1 q2=>by
   have z:=h h' q1
   rw[hk]at z
   rw[sz]at q2
   exact z q2
  split
  ·rw[hashByValue_scannable 8 sc]
   refine wpAny_bind (wpAny_pure ?_)
   refine kj (b:=b) (λc s₁ Q' q=>hgw c q) ho hex hd el1 m1 zz ?_ ?_ λh' q1 q2=>?_
   ·split
    ·exact ff
    ·exact SetTable.fits_plain_off ff
   ·split
    ·exact ll
    ·exact ll.off
   ·dsimp only
    exact wpAny_pure (fin h' q1 q2)
  ·refine wpAny_bind (wpAny_pure ?_)
   simp only[↓reduceIte]
   refine kj (b:=b) (λc s₁ Q' q=>hgw c q) ho hex hd el1 m1 zz ff ll λh' q1 q2=>?_
   dsimp only
   exact wpAny_pure (fin h' q1 q2)
end
section
variable{prog:Program}{w:World}{A:Around}{R:Result→Shared→Prop}{I:Addr}{fp wr:List Addr}{G:Array GenState→Array GenState→Prop}{n:Nat}{P:Nat→Value→Prop}{St:Nat→Shared→Prop}{b:Bool}
abbrev GP(prog:Program)(w:World)(b:Bool)(h:Heap)(a:Addr)(val:Nat→Int)(i:Nat):Prop:=Ae prog w b h a (λk=>(firstMet val i).any (·==k)) (firstMet val i).length
theorem aDT(W:WalksS prog w A.in1 I fp wr G n P St)(a:Addr)(hf:a∉fp)(val:Nat→Int)(hval:∀i v,P i v→∃t,v=.int (val i) t)(hz:n+1<scanBound) :
  ∀(m i:Nat)(s:Shared),n-i=m→i≤n→St i s→GP prog w b s.heap a val i→(∀s',Moved (a::wr) G s s'→GP prog w b s'.heap a val n→R (.ok (.ret .none)) s') →
   codeAny (model prog w) A (.builtin "set.update.loop" ⟨[.ref a,.ref I],[]⟩) R s:=by
 have hw:a∉wr:=λz=>hf (W.sub _ z)
 have sub:∀c∈wr,c∈a::wr:=λc hc=>C7 _ hc
 intro m
 induction m with
 | zero=>
  intro i s hk hi hst hS hR
  have e:i=n:=by omega
  subst e
  refine codeAny_builtin R4 ?_
  rw[Around.under_plainId O6 _]
  show wpAny _ A.in1 (pyNext (.ref I) >>= _) _ _ s
  refine wpAny_bind (W.done s _ _ hst λs' mv=>?_)
  show wpAny _ A.in1 (ret Value.none) _ _ s'
  exact wpAny_pure (hR s' (mv.mono sub) (hS.at_ λo e=>mv.heap a o hw e))
 | succ m ih=>
  intro i s hk hi hst hS hR
  have lt:i<n:=by omega
  refine codeAny_builtin R4 ?_
  rw[Around.under_plainId O6 _]
  show wpAny _ A.in1 (pyNext (.ref I) >>= _) _ _ s
  refine wpAny_bind (W.item i s _ _ lt hst λv s1 hP st1 mv=>?_)
  obtain⟨tk,rfl⟩:=hval i v hP
  have S1:GP prog w b s1.heap a val i:=hS.at_ λo e=>mv.heap a o hw e
  show wpAny _ A.in1 (holding [Value.int (val i) tk] (setAdd a (.int (val i) tk)) >>= _) _ _ s1
  unfold setAdd
  refine wpAny_bind (wpAny_holding (wpAny_holding (wpAny_bind ((intKind prog w).pyHash (k:=val i) (intKind_is _ _ _ _) ?_))))
  have room:(firstMet val i).length+1<scanBound:=by have:=firstMet_length_le val i;omega
  refine aFS (s:={s1 with toks:=s1.toks+1}) S1 room λh' sb S2=>?_
  have S3:GP prog w b h' a val (i+1):=S2.to (λj=>by rw[firstMet_succ,step_any]) (by rw[firstMet_succ,step_length])
  refine wpAny_pure ⟨plainId_quiet O6 _,ih (i+1) _ (by omega) lt (W.frame _ s1 _ _ st1 (N0 _) λc hc o e=>?_) S3 λs2 mv2 S4=>?_⟩
  ·rw[sb.2 c λz=>hf (by rw[←z];exact hc)]
   exact e
  ·refine hR s2 (Moved.trans W.gtrans ((mv.mono sub).then_heap (N0 _) λc o hc e=>?_) mv2) S4
   rw[sb.2 c λz=>hc (by rw[z];exact D1)]
   exact e
end
end L2


namespace L2
open PySem PySem.Spec PyProof.Rows
section
variable{prog:Program}{w:World}{A:Around}{E:Value→Shared→Prop}{s:Shared}
abbrev rZ(b:Bool):Obj:={cls:=.type "set", dict:=none,data:=.set #[] 0 (.fresh 0 0 b)}
abbrev sE(w:World):Bool:=!w.params.followText "set-order"
theorem aFT(a:Value){Q:Value→Shared→Prop}(h:Q (.ref s.heap.objs.size) {s with heap:=s.heap.push (rZ (sE w))}) :
  codeAny (model prog w) A (.call (.builtin "set.__new__") ⟨[.type "set", a],[]⟩) (wants Q E) s:=by
 refine codeAny_of_tree ?_
 show wpAny _ A.in1 (checkBuiltinCall "set.__new__" ⟨[.type "set", a],[]⟩ >>= λ_=>again (.builtin "set.__new__" ⟨[.type "set", a],[]⟩)) _ _ s
 refine wpAny_bind (wpAny_of_eq (PySem.F.newCall_set_1 a) (wpAny_pure ⟨plainId_quiet Y6 _,codeAny_builtin PySem.F.entry_set_new ?_⟩))
 rw[Around.under_plainId Y6 _]
 unfold Builtin.«set.__new__» Builtin.Frozenset.newClass
 have sub:=sub_set_self
 obtain⟨hp,g,d,tk,os⟩:=s
 dsimp only
 wp_walk
 refine wpAny_askSetting (wpAny_pure ?_)
 dsimp only
 simp only[newObj]
 exact wpAny_bind (wpAny_alloc (wpAny_pure (wpAny_pure h)))
theorem aBh(b:Bool){h:Heap}{a:Addr}{val:Nat→Int}(e:h.get? a=some (rZ b)):GP prog w b h a val 0:=
 ⟨_,#[],0,_,e,⟨rfl,rfl,rfl⟩,rfl,λx hx=>by simp at hx,λk=>by simp[firstMet_zero],by decide,by rfl,rfl,Led.fresh b⟩
theorem aFU{l:Addr}{its:Array Value}{ns:List Int}{Q:Value→Shared→Prop}(hh:A.handled=none)(hl:s.heap.IsList l its)(hi:IntsAre its.toList ns)(hz:its.size+1<scanBound)
  (h:∀(h':Heap)(tk:Nat),GP prog w (sE w) h' s.heap.objs.size (λi=>ns.getD i 0) its.size→(∀b o,s.heap.get? b=some o→h'.get? b=some o)→Q (.ref s.heap.objs.size) {s with heap:=h',toks:=tk}) :
  wpAny (model prog w) A (call (.type "set") [.ref l]) Q E s:=by
 obtain⟨c,tl,hmro⟩:=L8.mro
 have hmade:=L8.made
 have hsub:=L8.sub
 refine wpAny_call (codeAny_of_tree ?_)
 show wpAny _ _ (callAny (.type "set") _) _ _ _
 refine wpAny_pure ⟨Code.quiet_builtin _ (by decide +kernel),codeAny_builtin PySem.F.entry_type_call ?_⟩
 rw[Around.under_plain (weight_type_call_type "set" [.ref l] []) rfl]
 have h1:=L8.notType
 have h2:=L8.canCreate
 have hct:=PySem.F.typeCall_set_1 (.ref l)
 repeat (any_goals (first | assumption | wp_step))
 refine codeAny_mono (aFT (.ref l) (E:=E) (Q:=λv s1=>v=.ref s.heap.objs.size∧s1={s with heap:=s.heap.push (rZ (sE w))}) ⟨rfl,rfl⟩) λr s1 hr=>?_
 cases r with
 | error e=>exact hr
 | ok fl=>
  cases fl with
  | ret obj=>
   obtain⟨rfl,rfl⟩:=hr
   have g0:(s.heap.push (rZ (sE w))).get? s.heap.objs.size=some (rZ (sE w)):=Heap.get?_push_size _ rfl
   have hT:Shared.TypeIs {s with heap:=s.heap.push (rZ (sE w))} (.ref s.heap.objs.size) "set" := ⟨_,g0,rfl⟩
   have hli:=L8.init.lookup
   have hbi:=L8.init.bind (.ref s.heap.objs.size)
   repeat (any_goals (first | assumption | wp_step))
   refine codeAny_mono (codeAny_call_builtin (R:=wants (λr s2=>r=.none∧∃h' tk,s2={s with heap:=h',toks:=tk}∧GP prog w (sE w) h' s.heap.objs.size (λi=>ns.getD i 0) its.size∧(∀b o,s.heap.get? b=some o→h'.get? b=some o)) E) L8.init.plain PySem.F.entry_set_init (check_set_init_1 hT ?_)) λr2 s2 hr2=>?_
   ·obtain⟨ol,hol,hcl,nl,hdl⟩:=hl
    obtain⟨ocls,odict,odata,oslots⟩:=ol
    simp only at hcl hdl
    subst hcl hdl
    have hol':(s.heap.push (rZ (sE w))).get? l=some {cls:=.type "list", dict:=odict,data:=.seq its nl,slots:=oslots}:=Heap.get?_push_of_some _ hol
    have q1:=PySem.F.sub_list_set
    have q2:=PySem.F.sub_list_frozenset
    have q3:(Value.type "list" == Value.type "dict")=false:=by decide
    have L1:(s.heap.push (rZ (sE w))).IsList l its:=⟨_,hol',rfl,nl,rfl⟩
    unfold Builtin.«set.__init__» noKeywords Builtin.Frozenset.updateFrom
    generalize hPI:pyIter=PI
    wp_walk
    subst hPI
    refine wpAny_pyIter_list L1 (wpAny_bind (wpAny_runValue ?_))
    have lt:=Heap.lt_size hol
    have hh3:A.in1.in1.in1.handled=none:=by simp[hh]
    have ne:l≠(s.heap.push (rZ (sE w))).objs.size:=by rw[Heap.size_push];exact D8 (L0 lt)
    have nf:s.heap.objs.size∉[(s.heap.push (rZ (sE w))).objs.size,l]:=by
     rw[Heap.size_push]
     intro z
     rcases C6.mp z with z | z
     ·exact absurd z (D8 (N3 _))
     ·exact absurd (E8.mp z) (P2 lt)
    have hval:∀(i:Nat)(v:Value),its[i]?=some v→∃t,v=.int ((λi=>ns.getD i 0) i) t:=λi v hv=>hi.int_at i v (by rw[K5];exact hv)
    refine aDT ((Walks.list hh3 _ l ne its).toS) s.heap.objs.size nf (λi=>ns.getD i 0) hval hz (its.size-0) 0 _ (by omega) (M3 _) ⟨⟨_,Heap.get?_push_size _ rfl,rfl,rfl⟩,(L1.push _)⟩ (aBh (sE w) (Heap.get?_push_of_some _ g0)) λs' mv S'=>?_
    obtain⟨h',g',d',tk',os'⟩:=s'
    have eg:g'=s.gens:=mv.gens
    have ed:d'=s.drawn:=mv.drawn
    have eo:os'=s.os:=mv.os
    subst eg ed eo
    show wpAny _ _ _ _ _ _
    refine wpAny_pure ?_
    show wpAny _ _ (ret Value.none) _ _ _
    refine wpAny_pure ⟨rfl,h',tk',rfl,S',λb o e=>?_⟩
    have lb:=Heap.lt_size e
    refine mv.heap b o (λz=>?_) (Heap.get?_push_of_some _ (Heap.get?_push_of_some _ e))
    rcases C6.mp z with z | z
    ·exact absurd z (D8 lb)
    ·have:=E8.mp z
     rw[Heap.size_push]at this
     exact absurd this (D8 (L0 lb))
   ·cases r2 with
    | error e=>exact hr2
    | ok f2=>
     cases f2 with
     | ret r=>
      obtain⟨rfl,h',tk,rfl,S',kp⟩:=hr2
      repeat (any_goals (first | assumption | wp_step))
      exact h _ _ S' kp
     | _=>exact hr2.elim
  | _=>exact hr.elim
end
end L2


namespace L2
open PySem PySem.Spec PyProof.Rows
theorem km:Manifest.owners.lookup (String.ofList ['r','o','t','a','r','e','t','i','_','t','e','s'].reverse)=some Manifest.sig_set_iterator:=by kernel_rfl
theorem mQ:Slot "set_iterator" "__next__" "set_iterator.__next__" := Slot.of (owner := "set_iterator") (n := "__next__") (by rw[typeLookup_type,builtinLookup_eq_fast];kernel_rfl) (by decide +kernel) (by decide +kernel) (by decide +kernel) (by first | exact .inl (by decide +kernel) | exact .inr (by decide +kernel)) (by rw[isSubtype_type];kernel_rfl)
theorem yF:entryFor table "set_iterator.__next__" = some Builtin.«set_iterator.__next__»:=entryFor_of_tree (by kernel_rfl)
theorem yG(a:Value):argsOk "set_iterator.__next__" ⟨[a],[]⟩:=by
 unfold argsOk;rw[signature?_of (id := "set_iterator.__next__") (n:=['_','_','t','x','e','n','_','_']) (o:=['r','o','t','a','r','e','t','i','_','t','e','s']) (by kernel_rfl) km];kernel_rfl
theorem PQ:Slot "set_iterator" "__iter__" "set_iterator.__iter__" := Slot.of (owner := "set_iterator") (n := "__iter__") (by rw[typeLookup_type,builtinLookup_eq_fast];kernel_rfl) (by decide +kernel) (by decide +kernel) (by decide +kernel) (by first | exact .inl (by decide +kernel) | exact .inr (by decide +kernel)) (by rw[isSubtype_type];kernel_rfl)
theorem WT(a:Value):argsOk "set_iterator.__iter__" ⟨[a],[]⟩:=by
 unfold argsOk;rw[signature?_of (id := "set_iterator.__iter__") (n:=['_','_','r','e','t','i','_','_']) (o:=['r','o','t','a','r','e','t','i','_','t','e','s']) (by kernel_rfl) km];kernel_rfl
theorem WW:entryFor table "set_iterator.__iter__" = some Builtin.«dict_keyiterator.__iter__»:=entryFor_alias (id' := "dict_keyiterator.__iter__") (by kernel_rfl) (by first | rfl | decide +kernel | (unfold String.splitOn;simp +decide [String.splitOnAux])) (by decide +kernel) (by kernel_rfl)
theorem WX:entryFor table "set.__iter__" = some Builtin.«frozenset.__iter__»:=entryFor_alias (id' := "frozenset.__iter__") (by kernel_rfl) rfl (by decide +kernel) (by kernel_rfl)
def PX(h:Heap)(I:Addr)(f:Value)(i:Nat)(a:Addr)(n ep:Nat):Prop:=∃o,h.get? I=some o∧o.cls=.type "set_iterator" ∧ o.data=.fields #[f,.int (i:Int) 0,.ref a,.int (n:Int) 0,.int (ep:Int) 0]
def GQ(h:Heap)(a:Addr)(es:Array (Int×Value))(ep:Nat)(t:SetTable):Prop:=∃o,h.get? a=some o∧o.cls=.type "set" ∧ o.data=.set es ep t∧t.fits es.size=true
theorem PX.at_{h h':Heap}{I a:Addr}{f:Value}{i n ep:Nat}(x:PX h I f i a n ep)(e:∀o,h.get? I=some o→h'.get? I=some o):PX h' I f i a n ep:=let ⟨o,ho,r⟩:=x;⟨o,e o ho,r⟩
theorem GQ.at_{h h':Heap}{a:Addr}{es:Array (Int×Value)}{ep:Nat}{t:SetTable}(x:GQ h a es ep t)(e:∀o,h.get? a=some o→h'.get? a=some o):GQ h' a es ep t:=let ⟨o,ho,r⟩:=x;⟨o,e o ho,r⟩
section
variable{prog:Program}{w:World}{A:Around}{E:Value→Shared→Prop}{s:Shared}{I a T:Addr}{f:Value}{i n ep:Nat}{es:Array (Int×Value)}{t:SetTable}
theorem PX.ty(x:PX s.heap I f i a n ep):s.TypeIs (.ref I) "set_iterator" := let ⟨o,ho,hc,_⟩:=x;⟨o,ho,hc⟩
theorem GQ.ty(x:GQ s.heap a es ep t):s.TypeIs (.ref a) "set" := let ⟨o,ho,hc,_⟩:=x;⟨o,ho,hc⟩
theorem QB{Q:Value→Shared→Prop}(x:PX s.heap I f i a n ep)(h:Q (.ref I) s):wpAny (model prog w) A (pyIter (.ref I)) Q E s:=by
 refine wpAny_pyIter_slot x.ty PQ (wpAny_call_entry PQ x.ty WW ?_ (WT _))
 show wpAny _ _ (ret (.ref I)) _ _ s
 exact wpAny_pure ⟨_,rfl, "set_iterator", _,x.ty,mQ.lookup,h⟩
theorem Xm{α:Type}{h1:Heap}{Q0:α→Shared→Prop}{E':Value→Shared→Prop}(hh:A.handled=none)(hQ:∀(v:Value) h',Shared.TypeIs {s with heap:=h'} v "StopIteration" → (∀b o,h1.get? b=some o→h'.get? b=some o)→E' v {s with heap:=h'}) :
  wpAny (model prog w) A.in1 (newExc (.type "StopIteration") [] >>= λe=>(raiseNew e:Sem α)) Q0 E' {s with heap:=h1}:=by
 refine wpAny_bind ?_
 simp only[newExc,newTuple]
 refine wpAny_bind (wpAny_newObj_type (wpAny_bind (m:=firstArgMember _ _) (wpAny_of_eq (a:=Value.none) (by first | rfl | (simp only[firstArgMember];rfl)) (wpAny_newObj_type ?_ (by size_fits)))) (by size_fits))
 simp only[raiseNew]
 refine wpAny_bind (wpAny_handled ?_)
 rw[show A.in1.handled=none from hh]
 refine wpAny_bind (wpAny_pure (wpAny_throw ?_))
 refine hQ (.ref _) _ ?_ λb o e=>Heap.get?_push_of_some _ (Heap.get?_push_of_some _ e)
 exact⟨_,Heap.get?_push_size _ rfl,rfl⟩
theorem aBi{slot nxt:Nat}{x:Value}{Q:Option Value→Shared→Prop}(hit:PX s.heap I (.int (slot:Int) 0) i a es.size ep)(hs:GQ s.heap a es ep t)
  (hN:∀(Q':Option (Value×Nat)→Shared→Prop) E',Q' (some (x,nxt)) s→wpAny (model prog w) A.in1 (setNext a slot i ep) Q' E' s)
  (hQ:∀h',PX h' I (.int (nxt:Int) 0) (i+1) a es.size ep→Heap.SameBut I s.heap h'→Q (some x) {s with heap:=h'}):wpAny (model prog w) A (pyNext (.ref I)) Q E s:=by
 obtain⟨o,ho,hc,hd⟩:=id hit
 obtain⟨oa,ha,_,hda,hf⟩:=id hs
 unfold pyNext
 refine wpAny_bind (wpAny_attempt (wpAny_callSpecial?_slot (name:=Str.ofString "__next__") hit.ty mQ (wpAny_call_entry mQ hit.ty yF ?_ (yG _))))
 unfold Builtin.«set_iterator.__next__»
 refine wpAny_bind (wpAny_of_eq (a:=(Value.ref I,[])) rfl ?_)
 dsimp only
 refine wpAny_bind (wpAny_fieldsOf ho hd ?_)
 dsimp only
 refine wpAny_bind (wpAny_setEntries_of ha hda hf ?_)
 rw[if_neg (by simp)]
 dsimp only[D9]
 refine wpAny_bind (hN _ _ ?_)
 dsimp only
 refine wpAny_bind (wpAny_setField ho hd (by simp) ?_)
 have g1:=Heap.get?_update_self (Obj.mapFields (·.setIfInBounds 0 (rawInt (nxt:Int)))) ho (Obj.isFreed_of_fields (Obj.data_mapFields hd _))
 have d1:=Obj.data_mapFields hd (·.setIfInBounds 0 (rawInt (nxt:Int)))
 refine wpAny_bind (wpAny_setField g1 d1 (by simp) (wpAny_pure ⟨x,rfl,wpAny_pure (hQ _ ?_ ((Heap.SameBut.update ..).trans (Heap.SameBut.update ..)))⟩))
 refine⟨_,Heap.get?_update_self _ g1 (Obj.isFreed_of_fields (Obj.data_mapFields d1 _)),(Obj.cls_mapFields ..).trans ((Obj.cls_mapFields ..).trans hc),?_⟩
 rw[Obj.data_mapFields d1]
 simp[rawInt]
theorem aDU{slot:Nat}{Q:Option Value→Shared→Prop}(hh:A.handled=none)(hit:PX s.heap I (.int (slot:Int) 0) i a es.size ep)(hs:GQ s.heap a es ep t)
  (hN:∀(Q':Option (Value×Nat)→Shared→Prop) E',Q' none s→wpAny (model prog w) A.in1 (setNext a slot i ep) Q' E' s)
  (hQ:∀h',(∀b o,b≠I→s.heap.get? b=some o→h'.get? b=some o)→Q none {s with heap:=h'}):wpAny (model prog w) A (pyNext (.ref I)) Q E s:=by
 obtain⟨o,ho,hc,hd⟩:=id hit
 obtain⟨oa,ha,_,hda,hf⟩:=id hs
 unfold pyNext
 refine wpAny_bind (wpAny_attempt (wpAny_callSpecial?_slot (name:=Str.ofString "__next__") hit.ty mQ (wpAny_call_entry mQ hit.ty yF ?_ (yG _))))
 unfold Builtin.«set_iterator.__next__»
 refine wpAny_bind (wpAny_of_eq (a:=(Value.ref I,[])) rfl ?_)
 dsimp only
 refine wpAny_bind (wpAny_fieldsOf ho hd ?_)
 dsimp only
 refine wpAny_bind (wpAny_setEntries_of ha hda hf ?_)
 rw[if_neg (by simp)]
 dsimp only[D9]
 refine wpAny_bind (hN _ _ ?_)
 dsimp only
 refine wpAny_bind (wpAny_setField ho hd (by simp) ?_)
 refine Xm hh λv h' ty kp=>wpAny_bind (wpAny_isInstance ty isSubtype_stop ?_)
 exact wpAny_pure (hQ h' λb o nb e=>kp b o ((Heap.SameBut.update s.heap I _).extBut b o nb e))
theorem aBj{ps:Array Value}{c p:Nat}{tk:Tok}{hx:Int}{x:Value}{oT:Obj}{Q:Option Value→Shared→Prop}(hit:PX s.heap I (.ref T) i a es.size ep)(hs:GQ s.heap a es ep t)(hT:s.heap.get? T=some oT)(hTd:oT.data=.seq ps c)(hp:ps[i]?=some (.int (p:Int) tk))(he:es[p]?=some (hx,x))
  (hQ:∀h',PX h' I (.ref T) (i+1) a es.size ep→Heap.SameBut I s.heap h'→Q (some x) {s with heap:=h'}):wpAny (model prog w) A (pyNext (.ref I)) Q E s:=by
 obtain⟨o,ho,hc,hd⟩:=id hit
 obtain⟨oa,ha,_,hda,hf⟩:=id hs
 unfold pyNext
 refine wpAny_bind (wpAny_attempt (wpAny_callSpecial?_slot (name:=Str.ofString "__next__") hit.ty mQ (wpAny_call_entry mQ hit.ty yF ?_ (yG _))))
 unfold Builtin.«set_iterator.__next__»
 refine wpAny_bind (wpAny_of_eq (a:=(Value.ref I,[])) rfl ?_)
 dsimp only
 refine wpAny_bind (wpAny_fieldsOf ho hd ?_)
 dsimp only
 refine wpAny_bind (wpAny_setEntries_of ha hda hf ?_)
 rw[if_neg (by simp)]
 dsimp only[D9]
 refine wpAny_bind (wpAny_seqItems hT hTd ?_)
 dsimp only
 rw[hp]
 dsimp only[D9]
 unfold setNextDrawn
 refine wpAny_bind (wpAny_bind (wpAny_setState_of ha hda hf ?_))
 dsimp only
 rw[if_neg (by simp),he]
 dsimp only
 refine wpAny_pure (wpAny_bind (wpAny_setField ho hd (by simp) (wpAny_pure ⟨x,rfl,wpAny_pure (hQ _ ?_ (Heap.SameBut.update ..))⟩)))
 refine⟨_,Heap.get?_update_self _ ho (Obj.isFreed_of_fields (Obj.data_mapFields hd _)),(Obj.cls_mapFields ..).trans hc,?_⟩
 rw[Obj.data_mapFields hd]
 simp[rawInt]
theorem aDV{ps:Array Value}{c:Nat}{oT:Obj}{Q:Option Value→Shared→Prop}(hh:A.handled=none)(hit:PX s.heap I (.ref T) i a es.size ep)(hs:GQ s.heap a es ep t)(hT:s.heap.get? T=some oT)(hTd:oT.data=.seq ps c)(hp:ps[i]?=none)
  (hQ:∀h',(∀b o,b≠I→s.heap.get? b=some o→h'.get? b=some o)→Q none {s with heap:=h'}):wpAny (model prog w) A (pyNext (.ref I)) Q E s:=by
 obtain⟨o,ho,hc,hd⟩:=id hit
 obtain⟨oa,ha,_,hda,hf⟩:=id hs
 unfold pyNext
 refine wpAny_bind (wpAny_attempt (wpAny_callSpecial?_slot (name:=Str.ofString "__next__") hit.ty mQ (wpAny_call_entry mQ hit.ty yF ?_ (yG _))))
 unfold Builtin.«set_iterator.__next__»
 refine wpAny_bind (wpAny_of_eq (a:=(Value.ref I,[])) rfl ?_)
 dsimp only
 refine wpAny_bind (wpAny_fieldsOf ho hd ?_)
 dsimp only
 refine wpAny_bind (wpAny_setEntries_of ha hda hf ?_)
 rw[if_neg (by simp)]
 dsimp only[D9]
 refine wpAny_bind (wpAny_seqItems hT hTd ?_)
 dsimp only
 rw[hp]
 dsimp only
 refine wpAny_bind (wpAny_setField ho hd (by simp) ?_)
 have g1:=Heap.get?_update_self (Obj.mapFields (·.setIfInBounds 0 (rawInt 0))) ho (Obj.isFreed_of_fields (Obj.data_mapFields hd _))
 have d1:=Obj.data_mapFields hd (·.setIfInBounds 0 (rawInt 0))
 refine wpAny_bind (wpAny_setField g1 d1 (by simp) ?_)
 refine Xm hh λv h' ty kp=>wpAny_bind (wpAny_isInstance ty isSubtype_stop ?_)
 exact wpAny_pure (hQ h' λb o nb e=>kp b o (((Heap.SameBut.update s.heap I _).trans (Heap.SameBut.update _ I _)).extBut b o nb e))
theorem aDW{slot:Nat}{Q:Option (Value×Nat)→Shared→Prop}(hb:sE w=false)(hs:GQ s.heap a es ep t)(h:Q (((pickOrder (w.params.setOrder a ep) es)[i]?).map λe=>(e.2,slot)) s):wpAny (model prog w) A (setNext a slot i ep) Q E s:=by
 obtain⟨oa,ha,_,hda,hf⟩:=id hs
 have ft:w.params.followText "set-order" = true:=by simpa using hb
 unfold setNext
 refine wpAny_bind (wpAny_setState_of ha hda hf ?_)
 dsimp only
 unfold setsByText
 refine wpAny_bind (wpAny_bind (wpAny_askSetting (wpAny_pure ?_)))
 dsimp only
 rw[show (model prog w).w.params.followText "set-order" = true from ft,if_pos rfl,if_neg (by simp)]
 unfold setWalk setsByText
 refine wpAny_bind (wpAny_bind (wpAny_setState_of ha hda hf ?_))
 dsimp only
 refine wpAny_bind (wpAny_bind (wpAny_askSetting (wpAny_pure ?_)))
 dsimp only
 rw[show (model prog w).w.params.followText "set-order" = true from ft,if_pos rfl]
 refine wpAny_bind (wpAny_askSetting (wpAny_pure (wpAny_pure ?_)))
 exact h
def Bx(t:SetTable):Nat→Nat
 | 0=>0
 | i+1=>t.place.getD i 0+1
theorem GR(up:t.place.toList.Pairwise (·<·))(hi:i≤t.place.size):SetTable.below t.place (Bx t i)=i:=by
 obtain⟨b1,b2,b3⟩:=below_at up (Bx t i)
 have mono:∀a b,a<b→b<t.place.size→t.place.getD a 0<t.place.getD b 0:=λa b q q'=>by
  have:=N4.mp up a b (by simp;omega) (by simpa using q') q
  simp only[T5]at this
  simpa[P1,q',show a<t.place.size by omega]using this
 rcases Nat.lt_trichotomy (SetTable.below t.place (Bx t i)) i with z | z | z
 ·cases i with
  | zero=>omega
  | succ i=>
   have h1:=b3 i (by omega) (by omega)
   rw[show Bx t (i+1)=t.place.getD i 0+1 from rfl]at h1
   omega
 ·exact z
 ·have h1:=b2 i z
  cases i with
  | zero=>exact absurd h1 (L5 _)
  | succ i=>
   rw[show Bx t (i+1)=t.place.getD i 0+1 from rfl]at h1
   have:=mono i (i+1) (by omega) (by omega)
   omega
theorem aDX{Q:Option (Value×Nat)→Shared→Prop}(hb:sE w=true)(hs:GQ s.heap a es ep t)(hl:Led (sE w) t)(hdr:(!t.plain&&decide (es.size > 1))=false)(hi:i≤es.size)(h:Q ((es[i]?).map λe=>(e.2,Bx t (i+1))) s):wpAny (model prog w) A (setNext a (Bx t i) i ep) Q E s:=by
 obtain⟨oa,ha,_,hda,hf⟩:=id hs
 have ft:w.params.followText "set-order" = false:=by simpa using hb
 have hz:t.place.size=es.size:=by
  simp only[SetTable.fits,L6,beq_iff_eq]at hf
  exact hf.1
 have up:t.place.toList.Pairwise (·<·):=by
  cases e:t.plain with
  | true=>exact(hl.2 e).1
  | false=>
   rw[e]at hdr
   have:es.size≤1:=by simpa using hdr
   match h:t.place.toList with
   | []=>exact .nil
   | [x]=>simp
   | x::y::r=>
    have:=congrArg List.length h
    simp at this
    omega
 unfold setNext
 refine wpAny_bind (wpAny_setState_of ha hda hf ?_)
 dsimp only
 unfold setsByText
 refine wpAny_bind (wpAny_bind (wpAny_askSetting (wpAny_pure ?_)))
 dsimp only
 rw[show (model prog w).w.params.followText "set-order" = false from ft,if_neg (by simp)]
 refine wpAny_ite_split (λq=>?_) λ_=>?_
 ·exfalso
  have q':(!t.plain&&decide (es.size > 1))=true:=q
  rw[hdr]at q'
  cases q'
 ·refine wpAny_bind ?_
  refine wpAny_ite_split (λq=>?_) λ_=>wpAny_pure ?_
  ·exfalso
   have:t.led=true:=by rw[hl.1,hb]
   rw[this]at q
   simp at q
  ·rw[GR up (by omega)]
   refine wpAny_pure ?_
   rcases L7 i es.size with z | z
   ·rw[N5 z]at h ⊢
    rw[N5 (by omega)]
    have e:t.place[i]'(by omega)=t.place.getD i 0:=by simp[P1,show i<t.place.size by omega]
    simpa[Bx,e]using h
   ·rw[Array.getElem?_eq_none z]at h ⊢
    exact h
end
end L2


namespace L2
open PySem PySem.Spec PyProof.Rows
section
variable{prog:Program}{w:World}{A:Around}{E:Value→Shared→Prop}{s:Shared}{I a T:Addr}{f:Value}{i n ep:Nat}{es:Array (Int×Value)}{t:SetTable}
theorem aBk{M:Model}{src:Source}{m:Nat}{Q:Nat→Shared→Prop}(hm:m≠0)(h:∀i dr,i<m→Q i {s with drawn:=dr}):wpAny M A (choose src m) Q E s:=λ_ _ _=>⟨hm,h _ _ (T7 _ (Nat.pos_of_ne_zero hm))⟩
theorem Ra{M:Model}{α:Type}:∀(m:Nat)(xs:List α)(s:Shared)(Q:List α→Shared→Prop),xs.length=m→(∀ys dr,ys.Perm xs→Q ys {s with drawn:=dr})→wpAny M A (drawOrder m xs) Q E s
 | 0,xs,s,Q,hn,h=>by
  have:xs=[]:=I0 hn
  subst this
  unfold drawOrder
  exact wpAny_pure (h [] s.drawn (R7 _))
 | m+1,[],s,Q,hn,h=>absurd hn (by simp)
 | m+1,x::xs,s,Q,hn,h=>by
  unfold drawOrder
  refine wpAny_bind (aBk (by simp) λi dr hi=>?_)
  rw[B6 hi]
  dsimp only
  refine wpAny_bind (Ra m ((x::xs).eraseIdx i) _ _ (by rw[O9 hi];omega) λys dr' pm=>wpAny_pure ?_)
  exact h _ dr' ((pm.cons _).trans (Ad _ _ hi))
def Ord(S:Int→Bool)(n:Nat)(ord:List Value):Prop:=ord.length=n∧∃ns,IntsAre ord ns∧∀k,S k=true↔k∈ns
theorem GX{S:Int→Bool}{l:List (Int×Value)}{ord:List Value}(hel:ElemsOf (intKind prog w) l)(hm:∀k,S k=true↔∃e∈l,(intKind prog w).is k e.2=true)(hn:l.length=n)(pm:ord.Perm (l.map (·.2))):Ord S n ord:=by
  refine⟨by rw[pm.length_eq,B8,hn],?_⟩
  have allI:∀v∈ord,∃k t,v=Value.int k t:=λv hv=>by
    obtain⟨e,he,rfl⟩:=G8.mp (pm.mem_iff.mp hv)
    obtain⟨⟨k,hk,_⟩,_⟩:=hel e he
    obtain⟨t,ht⟩:=Value.isInt_shape hk
    exact⟨k,t,ht⟩
  have mk:∀vs:List Value,(∀v∈vs,∃k t,v=Value.int k t)→∃ns,IntsAre vs ns∧∀k,k∈ns↔∃t,Value.int k t∈vs:=by
    intro vs
    induction vs with
    | nil=>exact λ_=>⟨[],.nil,λk=>by simp⟩
    | cons v vs ih=>
      intro hv
      obtain⟨ns,h1,h2⟩:=ih λv q=>hv v (C7 _ q)
      obtain⟨k,t,rfl⟩:=hv v D1
      refine⟨k::ns,.cons k t h1,λj=>?_⟩
      rw[C6,h2]
      constructor
      · rintro(rfl | ⟨t',q⟩)
        · exact⟨t,D1⟩
        · exact⟨t',C7 _ q⟩
      · rintro⟨t',q⟩
        rcases C6.mp q with q | q
        · injection q with q
          exact .inl q
        · exact .inr ⟨t',q⟩
  obtain⟨ns,h1,h2⟩:=mk ord allI
  refine⟨ns,h1,λk=>?_⟩
  rw[hm,h2]
  constructor
  · rintro⟨e,he,hk⟩
    obtain⟨t,ht⟩:=Value.isInt_shape hk
    exact⟨t,pm.mem_iff.mpr (G8.mpr ⟨e,he,ht⟩)⟩
  · rintro⟨t,q⟩
    obtain⟨e,he,q⟩:=G8.mp (pm.mem_iff.mp q)
    exact⟨e,he,by rw[q];exact intKind_is _ _ _ _⟩
theorem Ko(hh:A.handled=none)(ne:a≠I){slot:Nat→Nat}{ord:List Value}(hz:ord.length=es.size)
  (hN:∀(s:Shared)(i:Nat)(Q':Option (Value×Nat)→Shared→Prop) E',i≤es.size→GQ s.heap a es ep t→Q' ((ord[i]?).map λv=>(v,slot (i+1))) s→wpAny (model prog w) A.in1 (setNext a (slot i) i ep) Q' E' s) :
  Walks prog w A I [I,a] [I] es.size (λi v=>ord[i]?=some v) (λi h=>PX h I (.int (slot i:Int) 0) i a es.size ep∧GQ h a es ep t) where
 sub:=λb hb=>by simp at hb;simp[hb]
 frame:=λ_ _ _ x kp=>⟨x.1.at_ λo e=>kp I (by simp) o e,x.2.at_ λo e=>kp a (by simp) o e⟩
 item:=λi s Q E hi x hQ=>by
  have e:ord[i]?=some (ord[i]'(by omega)):=B6 (by omega)
  refine aBi (x:=ord[i]'(by omega)) (nxt:=slot (i+1)) x.1 x.2 (λQ' E' q=>hN s i Q' E' (by omega) x.2 (by rw[e];exact q)) λh' st sb=>?_
  exact hQ _ h' s.toks e ⟨st,x.2.at_ λo eo=>sb.extBut a o ne eo⟩ λb o hb eo=>sb.extBut b o (λz=>hb (by simp[z])) eo
 done:=λs Q E x hQ=>aDU hh x.1 x.2 (λQ' E' q=>hN s es.size Q' E' (C8 _) x.2 (by rw[G2 (by omega)];exact q)) λh' kp=>hQ h' s.toks λb o hb e=>kp b o (λz=>hb (by simp[z])) e
 self:=λ_ _ _ _ x hQ=>QB x.1 hQ
theorem HD(hh:A.handled=none)(ne:a≠I)(neT:T≠I){ps:List Nat}(hz:ps.length=es.size)(hp:∀p∈ps,p<es.size) :
  Walks prog w A I [I,a,T] [I] es.size (λi v=>(ps.map λp=>(es.getD p (0,.none)).2)[i]?=some v) (λi h=>PX h I (.ref T) i a es.size ep∧GQ h a es ep t∧∃o c,h.get? T=some o∧o.data=.seq (ps.map λ(p:Nat)=>rawInt p).toArray c) where
 sub:=λb hb=>by simp at hb;simp[hb]
 frame:=λ_ _ _ x kp=>⟨x.1.at_ λo e=>kp I (by simp) o e,x.2.1.at_ λo e=>kp a (by simp) o e,let ⟨o,c,ho,hd⟩:=x.2.2;⟨o,c,kp T (by simp) o ho,hd⟩⟩
 item:=λi s Q E hi x hQ=>by
  obtain⟨h1,h2,oT,c,hT,hTd⟩:=x
  have lt:i<ps.length:=by omega
  have lp:=hp ps[i] (Q6 lt)
  refine aBj (p:=ps[i]) (tk:=0) (hx:=es[ps[i]].1) (x:=es[ps[i]].2) h1 h2 hT hTd (by simp[lt,rawInt]) (by rw[N5 lp]) λh' st sb=>?_
  exact hQ _ h' s.toks (by simp[lt,P1,lp]) ⟨st,h2.at_ λo eo=>sb.extBut a o ne eo,oT,c,sb.extBut T oT neT hT,hTd⟩ λb o hb eo=>sb.extBut b o (λz=>hb (by simp[z])) eo
 done:=λs Q E x hQ=>by
  obtain⟨h1,h2,oT,c,hT,hTd⟩:=x
  exact aDV hh h1 h2 hT hTd (by simp[hz]) λh' kp=>hQ h' s.toks λb o hb e=>kp b o (λz=>hb (by simp[z])) e
 self:=λ_ _ _ _ x hQ=>QB x.1 hQ
theorem lg{S:Int→Bool}{Q:Value→Shared→Prop}(hh:A.handled=none)(hs:Ae prog w (sE w) s.heap a S n)
    (h:∀(h1:Heap)(dr:Drawn)(I:Addr)(fp:List Addr)(ord:List Value)(St:Nat→Heap→Prop),(∀b o,s.heap.get? b=some o→h1.get? b=some o)→Walks prog w A I fp [I] n (λi v=>ord[i]?=some v) St→St 0 h1→(∀x∈fp,x=a∨s.heap.objs.size≤x)→s.heap.objs.size≤I→Ord S n ord→Q (.ref I) {s with heap:=h1,drawn:=dr}) :
    wpAny (model prog w) A (pyIter (.ref a)) Q E s:=by
  obtain⟨o,es,ep,t,ho,hex,hd,hel,hm,hz,hf,hn,hl⟩:=hs
  have sat:GQ s.heap a es ep t:=⟨o,ho,hex.1,hd,hf⟩
  have lt:=Heap.lt_size ho
  subst hn
  refine wpAny_pyIter_slot sat.ty Y7 (wpAny_call_entry Y7 sat.ty WX ?_ (PySem.F.args_set_iter_1 _))
  unfold Builtin.«frozenset.__iter__» Builtin.Frozenset.slot0
  refine wpAny_bind (wpAny_bind (wpAny_of_eq (a:=(Value.ref a,[])) rfl ?_))
  unfold Builtin.Frozenset.addrOf Builtin.Frozenset.sizeOf
  refine wpAny_pure (wpAny_bind (wpAny_bind (wpAny_setEntries_of ho hd hf (wpAny_pure ?_))))
  unfold setDrawn setsByText
  refine wpAny_bind (wpAny_bind (wpAny_setState_of ho hd hf ?_))
  dsimp only
  refine wpAny_bind (wpAny_bind (wpAny_askSetting (wpAny_pure ?_)))
  refine wpAny_pure ?_
  refine wpAny_ite_split (λc=>?_) λc=>?_
  · have c':(sE w&&(!t.plain&&decide (es.size > 1)))=true:=c
    rw[L6]at c'
    refine wpAny_bind (Ra es.size (D5 es.size) s _ (by simp) λps dr pm=>?_)
    have lps:ps.length=es.size:=by rw[pm.length_eq,E6]
    have hp:∀p∈ps,p<es.size:=λp hp=>J8.mp (pm.mem_iff.mp hp)
    refine wpAny_bind (wpAny_newTuple ?_ (by rw[B8,lps];exact fits_of_scanBound hz))
    have g1:(s.heap.push {cls:=.type "tuple", data:=.seq (ps.map λ(i:Nat)=>rawInt i).toArray}).get? a=some o:=Heap.get?_push_of_some _ ho
    refine wpAny_bind (wpAny_setEpoch_of g1 hd hf ?_)
    refine wpAny_bind (wpAny_newObj_type (wpAny_pure ⟨_,rfl, "set_iterator", _,⟨_,Heap.get?_push_size _ rfl,rfl⟩,mQ.lookup,?_⟩))
    refine h _ dr _ _ (ps.map λp=>(es.getD p (0,.none)).2) _ (λb o e=>Heap.get?_push_of_some _ (Heap.get?_push_of_some _ e)) (HD (T:=s.heap.objs.size) (t:=t) (ep:=ep) hh ?_ ?_ lps hp) ⟨⟨_,Heap.get?_push_size _ rfl,rfl,rfl⟩,sat.at_ λo e=>Heap.get?_push_of_some _ (Heap.get?_push_of_some _ e),_,_,Heap.get?_push_of_some _ (Heap.get?_push_size _ rfl),rfl⟩ ?_ ?_ ?_
    · show a≠(s.heap.push _).objs.size
      rw[Heap.size_push]
      exact D8 (L0 lt)
    · show s.heap.objs.size≠(s.heap.push _).objs.size
      rw[Heap.size_push]
      exact D8 (N3 _)
    · intro x hx
      rcases C6.mp hx with z | z
      · rw[z]
        show _∨s.heap.objs.size≤(s.heap.push _).objs.size
        rw[Heap.size_push]
        exact .inr (N0 _)
      · rcases C6.mp z with z | z
        · exact .inl z
        · rw[E8.mp z]
          exact .inr (C8 _)
    · show s.heap.objs.size≤(s.heap.push _).objs.size
      rw[Heap.size_push]
      exact N0 _
    · refine GX (prog:=prog) (w:=w) hel hm (by simp) ?_
      have e:es.toList.map (·.2)=(D5 es.size).map λp=>(es.getD p (0,.none)).2:=by
        refine V9 (by simp) λk k1 k2=>?_
        simp at k1
        simp[P1,k1]
      rw[e]
      exact pm.map _
  · refine wpAny_bind (wpAny_pure ?_)
    refine wpAny_bind (wpAny_setEpoch_of ho hd hf ?_)
    refine wpAny_bind (wpAny_newObj_type (wpAny_pure ⟨_,rfl, "set_iterator", _,⟨_,Heap.get?_push_size _ rfl,rfl⟩,mQ.lookup,?_⟩))
    have ne:a≠s.heap.objs.size:=D8 lt
    have fp':∀x∈[s.heap.objs.size,a],x=a∨s.heap.objs.size≤x:=λx hx=>by
      rcases C6.mp hx with z | z
      · exact .inr (b6 z.symm)
      · exact .inl (E8.mp z)
    cases hb:sE w with
    | false=>
      have pm:=WR (w.params.setOrder a ep) es
      refine h _ s.drawn _ _ ((pickOrder (w.params.setOrder a ep) es).toList.map (·.2)) _ (λb o e=>Heap.get?_push_of_some _ e) (Ko (t:=t) (ep:=ep) (slot:=λ_=>0) hh ne (by rw[B8,pm.length_eq,G6]) λs i Q' E' hi x q=>?_) ⟨⟨_,Heap.get?_push_size _ rfl,rfl,rfl⟩,sat.at_ λo e=>Heap.get?_push_of_some _ e⟩ fp' (C8 _) (GX (prog:=prog) (w:=w) hel hm (by simp) (pm.map _))
      refine aDW hb x ?_
      rw[C5,K5,j7]at q
      exact q
    | true=>
      have c':(!t.plain&&decide (es.size > 1))=false:=by
        have c2:¬(sE w&&(!t.plain&&decide (es.size > 1)))=true:=c
        rw[hb,Bool.true_and]at c2
        simpa using c2
      refine h _ s.drawn _ _ (es.toList.map (·.2)) _ (λb o e=>Heap.get?_push_of_some _ e) (Ko (t:=t) (ep:=ep) (slot:=Bx t) hh ne (by simp) λs i Q' E' hi x q=>?_) ⟨⟨_,Heap.get?_push_size _ rfl,rfl,rfl⟩,sat.at_ λo e=>Heap.get?_push_of_some _ e⟩ fp' (C8 _) (GX (prog:=prog) (w:=w) hel hm (by simp) (R7 _))
      refine aDX hb x hl c' hi ?_
      rw[C5,K5,j7]at q
      exact q
end
end L2


namespace L2
open PySem PySem.Spec PySem.Calls PyProof.Rows PyProof.V
section
variable{prog:Program}{w:World}{A:Around}{E:Value→Shared→Prop}{s:Shared}{I a T:Addr}{n:Nat}{S:Int→Bool}
theorem lq{Q:Bool→Shared→Prop}(hT:s.TypeIs (.ref a) "set") (h:Q false s):wpAny (model prog w) A (Builtin.List.listLengthHint (.ref a)) Q E s:=by
 unfold Builtin.List.listLengthHint
 refine wpAny_bind (wpAny_specialOf hT PySem.F.slot_set_len.lookup ?_)
 generalize hid:("set.__len__" : String)=id0
 wp_delta
 rw[show splitId id0=some ("set", "__len__")from by subst hid;decide +kernel]
 subst hid
 refine wpAny_bind (wpAny_isInstance (T := "set") (b:=true) hT (by rw[isSubtype_type];kernel_rfl) (wpAny_ite_split (λz=>absurd z (by decide)) λ_=>wpAny_ite_split (λ_=>?_) λz=>absurd (by decide +kernel) z))
 exact wpAny_bind (wpAny_typeOf hT (wpAny_pure h))
theorem aBl{R:Result→Shared→Prop}(hh:A.handled=none)(hs:Ae prog w (sE w) s.heap a S n)(hz:n≤sizeLine)(L:Addr)(ne:L≠a)(hL:s.heap.get? L=some {cls:=.type "list", data:=.seq #[] 0})
    (hR:∀h' dr tk acc c,(∀b o,b≠L→s.heap.get? b=some o→h'.get? b=some o)→h'.get? L=some {cls:=.type "list", dict:=none,data:=.seq acc c,slots:=#[]}→Ord S n acc.toList→R (.ok (.ret (.ref L))) {s with heap:=h',drawn:=dr,toks:=tk}) :
    wpAny (model prog w) A.in1 (Builtin.List.listExtendWith (.ref L) (.ref a) (.ref L)) (λfin s'=>match fin with | .done f=>R (.ok f) s' | .again c'=>c'.quiet=true∧codeAny (model prog w) A c' R s') (λe s'=>R (.error e) s') s:=by
  have lt:L<s.heap.objs.size:=Heap.lt_size hL
  have ty:s.TypeIs (.ref a) "set" := let ⟨o,_,_,_,ho,hex,_⟩:=hs;⟨o,ho,hex.1⟩
  unfold Builtin.List.listExtendWith
  refine wpAny_bind (wpAny_typeOf (T := "set") ty ?_)
  have h1:Builtin.List.listSameRef (.ref L) (.ref a)=false:=by simp[Builtin.List.listSameRef,ne]
  have h2:(Value.type "set" == Value.type "list")=false:=by decide
  have h3:(Value.type "set" == Value.type "tuple")=false:=by decide
  simp only[h1,h2,h3,j9,U8,if_false]
  refine wpAny_bind (lg (A:=A.in1) hh hs λh0 dr I fp ord St kp W st fpo lI od=>?_)
  have hL1:=kp _ _ hL
  have nf:L∉fp:=λz=>by
    rcases fpo L z with z | z
    · exact ne z
    · exact absurd lt (Nat.not_lt.mpr z)
  have nI:∀b o,s.heap.get? b=some o→b≠I:=λb o e=>D8 (D6 (Heap.lt_size e) lI)
  have key:∀(h:Heap)(c1 tk:Nat),St 0 h→(∀b o,b≠L→s.heap.get? b=some o→h.get? b=some o)→h.get? L=some {cls:=.type "list", data:=.seq #[] c1}→codeAny (model prog w) A (.builtin "list.extend.loop" ⟨[.ref L,.ref I,.ref L],[]⟩) R {s with heap:=h,drawn:=dr,toks:=tk}:=by
    intro h c1 tk st0 k0 g0
    refine codeAny_extend_loopS W.toS hz L nf (.ref L) n 0 _ #[] c1 rfl (M3 _) st0 g0 (ItemsOf.nil _) λs' acc c mv g' it=>?_
    rw[Moved.eq_with mv]
    refine hR s'.heap dr s'.toks acc c (λb o nb e=>mv.heap b o (λz=>?_) (k0 b o nb e)) g' ?_
    · rcases C6.mp z with z | z
      · exact nb z
      · exact nI b o e (E8.mp z)
    · have e:acc.toList=ord:=by
        refine M6 λj=>?_
        rcases L7 j acc.size with z | z
        · have e1:acc[j]?=some acc[j]:=N5 z
          rw[K5,e1,it.2 j _ e1]
        · rw[G2 (by simpa using z),G2 (by have:=it.1;have:=od.1;omega)]
      rw[e]
      exact od
  refine wpAny_bind (wpAny_holding (lq (hT:=let ⟨o,ho,hc⟩:=ty;⟨o,kp _ _ ho,hc⟩) ?_))
  refine wpAny_ite_split (λ_=>?_) λ_=>wpAny_pure ⟨plainId_quiet V5 _,key _ 0 _ st (λb o _ e=>kp b o e) hL1⟩
  refine wpAny_bind (wpAny_rule (wpAny_bind ?_))
  show wpAny _ _ (updateSeq L (·.push .none) >>= λ_=>updateSeq L (·.pop)) _ _ _
  refine wpAny_bind (wpAny_updateSeq hL1 rfl ?_)
  have g2:=Heap.get?_update_self (Obj.mapSeq (·.push Value.none)) hL1 rfl
  refine wpAny_updateSeq (hz:=by seq_fits) g2 rfl ?_
  have g3:=Heap.get?_update_self (Obj.mapSeq (·.pop)) g2 rfl
  refine wpAny_pure ⟨plainId_quiet V5 _,key _ _ _ (W.frame 0 _ _ st λb hb o e=>?_) (λb o hb e=>?_) g3⟩
  · have nb:b≠L:=λz=>nf (z▸hb)
    exact(Heap.get?_update_other _ _ (Ne.symm nb)).trans ((Heap.get?_update_other _ _ (Ne.symm nb)).trans e)
  · exact(Heap.get?_update_other _ _ (Ne.symm hb)).trans ((Heap.get?_update_other _ _ (Ne.symm hb)).trans (kp b o e))
theorem Xn{R:List Value→Shared→Prop}(hh:A.handled=none)(hs:Ae prog w (sE w) s.heap a S n)(hz:n≤sizeLine)
  (h:∀(h':Heap)(dr:Drawn)(tk:Nat)(acc:List Value),(∀b o,s.heap.get? b=some o→h'.get? b=some o)→Ord S n acc→R acc {s with heap:=h',drawn:=dr,toks:=tk}):wpAny (model prog w) A (collect (.ref a)) R E s:=by
 have lt:a<s.heap.objs.size:=let ⟨o,_,_,_,ho,_⟩:=hs;Heap.lt_size ho
 unfold collect
 refine wpAny_bind (wpAny_runValue (codeAny_builtin entry_proto_collect' ?_))
 rw[Around.under_plainId PySem.F.plain_proto_collect _]
 show wpAny _ A.in1 (newList [] >>= λl=>again (.builtin "list.__iadd__" ⟨[l,.ref a],[]⟩)) _ _ s
 refine wpAny_bind (wpAny_newObj_type (wpAny_pure ⟨plainId_quiet X0 _,codeAny_builtin entry_list_iadd' ?_⟩))
 rw[Around.under_plainId X0 _]
 have g1:(s.heap.push {cls:=.type "list", data:=.seq ([]:List Value).toArray}).get? s.heap.objs.size=some {cls:=.type "list", data:=.seq #[]}:=Heap.get?_push_size _ rfl
 show wpAny _ A.in1 (Builtin.List.listExtendWith (.ref s.heap.objs.size) (.ref a) (.ref s.heap.objs.size)) _ _ _
 have key:=aBl (A:=A) (s:={s with heap:=s.heap.push {cls:=.type "list", data:=.seq ([]:List Value).toArray}})
  (R:=λ(q:Result) (s':Shared)=>∃(h':Heap)(dr:Drawn)(tk:Nat)(acc:Array Value)(c:Nat),q=.ok (.ret (.ref s.heap.objs.size))∧s'={s with heap:=h',drawn:=dr,toks:=tk}∧(∀b o,s.heap.get? b=some o→h'.get? b=some o)∧h'.get? s.heap.objs.size=some {cls:=.type "list", dict:=none,data:=.seq acc c,slots:=#[]}∧Ord S n acc.toList)
  hh (hs.at_ λo e=>Heap.get?_push_of_some _ e) hz s.heap.objs.size (P2 lt) g1 λh' dr tk acc c kp g od=>⟨h',dr,tk,acc,c,rfl,rfl,λb o e=>kp b o (D8 (Heap.lt_size e)) (Heap.get?_push_of_some _ e),g,od⟩
 refine wpAny_mono key (λfin s' x=>?_) λe s' x=>?_
 ·cases fin with
  | done f=>
   obtain⟨h',dr,tk,acc,c,e,rfl,kp,g,od⟩:=x
   cases e
   show wpAny _ A (load s.heap.objs.size >>= _) _ _ _
   exact wpAny_bind (wpAny_load g (wpAny_pure (h h' dr tk acc.toList kp od)))
  | again c1=>
   refine⟨x.1,codeAny_mono x.2 λq s2 y=>?_⟩
   obtain⟨h',dr,tk,acc,c,rfl,rfl,kp,g,od⟩:=y
   show wpAny _ A (load s.heap.objs.size >>= _) _ _ _
   exact wpAny_bind (wpAny_load g (wpAny_pure (h h' dr tk acc.toList kp od)))
 ·obtain⟨_,_,_,_,_,e',_⟩:=x
  cases e'
end
end L2


namespace L2
open PySem PySem.Spec PySem.Calls PyProof.Rows PyProof.V
def Kq(k:Int):List Int→List Int
 | []=>[k]
 | a::l=>if k<a then k::a::l else if k=a then a::l else a::Kq k l
theorem Kr(k j:Int):∀l:List Int,j∈Kq k l↔j=k∨j∈l
  | []=>by simp[Kq]
  | a::l=>by
    unfold Kq
    split
    · simp
    · split
      · rename_i e
        subst e
        simp
      · rw[C6,Kr k j l,C6]
        constructor
        · rintro(h | h | h)
          · exact .inr (.inl h)
          · exact .inl h
          · exact .inr (.inr h)
        · rintro(h | h | h)
          · exact .inr (.inl h)
          · exact .inl h
          · exact .inr (.inr h)
theorem QC(k:Int):∀l:List Int,l.Pairwise (·<·)→(Kq k l).Pairwise (·<·)
 | [],_=>by simp[Kq]
 | a::l,h=>by
  obtain⟨h1,h2⟩:=G1.mp h
  unfold Kq
  split
  ·rename_i c
   refine G1.mpr ⟨λx hx=>?_,h⟩
   rcases C6.mp hx with z | z
   ·omega
   ·have:=h1 x z
    omega
  ·split
   ·exact h
   ·refine G1.mpr ⟨λx hx=>?_,QC k l h2⟩
    rcases(Kr k x l).mp hx with z | z
    ·omega
    ·exact h1 x z
def QD:List Int→List Int
 | []=>[]
 | a::l=>Kq a (QD l)
theorem Um(j:Int):∀ns:List Int,j∈QD ns↔j∈ns
 | []=>Iff.rfl
 | a::l=>by
  rw[QD,Kr,Um j l,C6]
theorem HF:∀ns:List Int,(QD ns).Pairwise (·<·)
 | []=>.nil
 | a::l=>QC a _ (HF l)
theorem aDY{ns ms:List Int}(h:ms.Pairwise (·<·))(m:∀k,k∈ms↔k∈ns):ms=QD ns:=zK h (HF ns) λj=>(m j).trans (Um j ns).symm
theorem Xo(k:Int):∀l:List Int,(Kq k l).length≤l.length+1
 | []=>by simp[Kq]
 | a::l=>by
  unfold Kq
  split
  ·simp
  ·split
   ·simp
   ·have:=Xo k l
    simp only[E9]
    omega
theorem QF:∀ns:List Int,(QD ns).length≤ns.length
 | []=>C8 _
 | a::l=>by
  have:=Xo a (QD l)
  have:=QF l
  simp only[QD,E9]
  omega
theorem Ks{α:Type} [DecidableEq α]:∀{l m:List α},l.Nodup→(∀x∈l,x∈m)→m.length≤l.length→l.Perm m
 | [],m,_,_,h=>by
  have:m=[]:=I0 (by simpa using h)
  subst this
  exact R7 _
 | a::l,m,hn,hs,hl=>by
  obtain⟨h1,h2⟩:=M7.mp hn
  have ha:=hs a D1
  have e:=List.perm_cons_erase ha
  refine List.Perm.trans (List.Perm.cons a (Ks h2 (λx hx=>?_) ?_)) e.symm
  ·have ne:x≠a:=λz=>by
    rw[z]at hx
    exact h1 hx
   exact(List.mem_erase_of_ne ne).mpr (hs x (C7 _ hx))
  ·rw[W5 ha]
   simp only[E9]at hl
   omega
theorem qL(val:Nat→Int):∀i,(firstMet val i).Nodup
 | 0=>by rw[firstMet_zero];exact Y4
 | i+1=>by
  rw[firstMet_succ]
  unfold step_dedup
  have ih:=qL val i
  split
  ·exact ih
  ·rename_i c
   refine Q1.mpr ⟨ih,by simp,λx hx y hy=>?_⟩
   rw[E8.mp hy]
   intro z
   subst z
   exact c (S6.mpr ⟨_,hx,by simp⟩)
theorem WY{ns ks ms:List Int}(hk:∀k,(firstMet (λi=>ns.getD i 0) ns.length).any (·==k)=true↔k∈ks)(hl:ks.length=(firstMet (λi=>ns.getD i 0) ns.length).length)(hm:ms.Perm ks)(hs:ms.Pairwise (·≤·)):ms=QD ns:=by
 have hmem:∀k,k∈ks↔k∈ns:=λk=>by
  rw[←hk,firstMet_any]
  have e:(D5 ns.length).map (λi=>ns.getD i 0)=ns:=by
   refine V9 (by simp) λi h1 h2=>?_
   simp[C4,h2]
  rw[e,S6]
  exact⟨λ⟨x,hx,q⟩=>by rw[←(beq_iff_eq.mp q)];exact hx,λh=>⟨k,h,by simp⟩⟩
 have nd:ks.Nodup:=by
  have p:=Ks (qL (λi=>ns.getD i 0) ns.length) (m:=ks) (λx hx=>(hk x).mp (S6.mpr ⟨x,hx,by simp⟩)) (by omega)
  exact p.nodup_iff.mp (qL _ _)
 refine aDY ?_ λk=>(hm.mem_iff).trans (hmem k)
 have ndm:=hm.nodup_iff.mpr nd
 exact(hs.and ndm).imp λq=>by have:=q.1;have:=q.2;omega
section
variable{X:Cx}{e:Expr}{t:TE}{x y:Str}{p p2 pos pos2:Pos}
theorem aBm{T id:String}{r:V→Hp→VK→Prop}(hc:∀(pins:List (Addr×Obj))(s:Shared)(σ:St)(H:Hp)(v:V)(u:Value)(Q:VK),Inv X pins σ H s→RelV v u→r v H Q→wpAny (model X.prog X.w) X.A (call (.type T) [u]) (λu' s'=>wpAny (model X.prog X.w) X.A (call (.builtin id) [u']) (EP X pins σ Q) X.xe s') X.xe s)
  (ha:PE X e t) (hg:Gl X x) (hm:X.mg x=none) (hv:bootBuiltins x=some (.builtin id)) (hg2:Gl X y) (hm2:X.mg y=none) (hv2:bootBuiltins y=some (.type T)) (hn:x ≠ "__name__" := by decide) (hdb:(x==("__debug__" : Str))=false:=by decide) (hn2:y ≠ "__name__" := by decide) (HH:(y==("__debug__" : Str))=false:=by decide)
  (he:starEach [e] X.env=[(false,eval e X.env)]:=by rfl) (he2:starEach [.Call (.Name y p2) [e] [] pos2] X.env=[(false,eval (.Call (.Name y p2) [e] [] pos2) X.env)]:=by rfl) :
  PE X (.Call (.Name x p) [.Call (.Name y p2) [e] [] pos2] [] pos) (tUn r t):=by
 intro pins s σ H Q I h
 refine wpAny_Call_Name_kw (uF I hg hm hv ?_ hn hdb)
 refine T4 ?_ he2 rfl
 rw[he2]
 refine Calls.spliced_cons (wpAny_Call_Name_kw (uF I hg2 hm2 hv2 ?_ hn2 HH))
 refine K8 ?_ he rfl
 rw[he]
 exact Calls.spliced_cons (gQ (ha pins s σ H _ I h) λu s1 ⟨v,H1,I1,r1,q1⟩=>Calls.spliced_nil (gQ (hc pins s1 σ H1 v u Q I1 r1 q1) λu' s' z=>Calls.spliced_nil z))
theorem Inv.drew{pins:List (Addr×Obj)}{σ:St}{H:Hp}{s:Shared}(J:Inv X pins σ H s)(dr:Drawn):Inv X pins σ H {s with drawn:=dr}:=⟨J.ok,J.os,J.bare,J.base,J.loc,J.cell,J.free,J.oR,J.pin,J.hok,J.len⟩
def aCu(K:aD):V→Hp→VK→Prop:=λv H Q=>∃(p:Addr)(ns:List Int),v=.ref p∧pY K H p (ns.map V.int)∧ns.length<64∧∀l,H l=none→Q (.ref l) (upd H l (.lst ((QD ns).map V.int)))
theorem aDZ(hc:X.calm=true)(pins:List (Addr×Obj))(s:Shared)(σ:St)(H:Hp)(v:V)(u:Value)(Q:VK)(I:Inv X pins σ H s)(rv:RelV v u)(h:aCu X.K v H Q) :
  wpAny (model X.prog X.w) X.A (call (.type "set") [u]) (λu' s'=>wpAny (model X.prog X.w) X.A (call (.builtin "sorted") [u']) (EP X pins σ Q) X.xe s') X.xe s:=by
 obtain⟨p,ns,rfl,hq,h64,q⟩:=h
 cases rv
 obtain⟨its,r,pl,hz⟩:=I.list hq
 have hlen:=r.length
 rw[B8]at hlen
 refine aFU (its:=its.toArray) (ns:=ns) (I.ok.hd hc) pl.isList (by simpa using intsAre_of r) (by rw[C9];unfold scanBound;omega) λh1 tk1 S1 kp1=>?_
 have I1:Inv X pins σ H {s with heap:=h1,toks:=tk1}:=I.kept (t':=tk1) kp1
 have ez:its.toArray.size=ns.length:=by simp[hlen]
 rw[ez]at S1
 have hfl:=firstMet_length_le (λi=>ns.getD i 0) ns.length
 refine Calls.call_function_entry kind_sorted plain_sorted entry_sorted (args_sorted1 _) ?_
 unfold Builtin.«sorted»
 refine wpAny_bind (m:=checkCount "sorted" 1 1 _) (wpAny_pure (wpAny_bind (Xn (A:=X.A.in1) (I.ok.hd hc) S1 (N7 (nH (by omega))) λh2 dr tk2 acc kp2 od=>?_)))
 obtain⟨al,ks,ik,mk⟩:=od
 have hla:ks.length=acc.length:=(IntsAre.length ik).symm
 refine wpAny_bind (wpAny_newList ?_ (by rw[al];exact N7 (nH (by omega))))
 have hoL:(h2.push (seqObj "list" acc.toArray 0)).get? h2.objs.size=some (seqObj "list" acc.toArray 0):=Heap.get?_push_size _ rfl
 refine wpAny_bind (wpAny_holding (wpAny_call_entry slot_list_sort ⟨_,hoL,rfl⟩ entry_list_sort (list_sort_tree hoL ik (by omega) λout ns' a1 a2 a3=>⟨_,rfl,?_⟩) (args_list_sort _)))
 refine wpAny_pure ⟨_,rfl,?_⟩
 obtain⟨e,he⟩:=sortedHeap_at (out:=out) hoL
 have I2:Inv X pins σ H {s with heap:=h2,drawn:=dr,toks:=tk2}:=(I1.kept (t':=tk2) kp2).drew dr
 have hs:H h2.objs.size=none:=I2.hok.fresh (C8 _)
 have hl2:ns'.length=ks.length:=a2.length_eq
 have I3:=I2.laid (t':=tk2) (a:=h2.objs.size) (o:=.lst (ns'.map V.int)) (h':=sortedHeap (h2.push (seqObj "list" acc.toArray 0)) h2.objs.size acc out)
  (λb o eb=>by
   have hlt:=Heap.lt_size eb
   rw[sortedHeap_old (D8 hlt) (by rw[Heap.size_push];exact L0 hlt)]
   exact Heap.get?_push_of_some _ eb) (C8 _)
  ⟨by rw[B8];exact N7 (nH (by omega)),out.toList,e,tE a1,by simpa[seqObj]using he⟩
 rw[WY mk (by omega) a2 a3]at I3
 exact⟨.ref _,_,I3,rfl,q _ hs⟩
end
end L2


namespace L2
open PySem PySem.Spec PySem.Calls PyProof.Rows PyProof.V
section
variable{prog:Program}{w:World}{A:Around}{E:Value→Shared→Prop}{s:Shared}{I l:Addr}
end
section
variable{K:aD}{X:Cx}{e:Expr}{t:TE}{f:FE}{x y:Str}{p p2 pos pos2:Pos}
def qY(φ:D→Option D)(f:FE):FE:=λe=>(f e).bind φ
def QG:D→Option D
 | .lst ds=>(intsOf ds).bind λns=>if ns.length<64 then some (.lst ((QD ns).map D.int))else none
 | _=>none
theorem aBn(h:XR K X e t f)(hg:Gl X x)(hm:X.mg x=none)(hv:bootBuiltins x=some (.builtin "sorted")) (hg2:Gl X y) (hm2:X.mg y=none) (hv2:bootBuiltins y=some (.type "set")) (hc:X.calm=true:=by rfl) (hn:x ≠ "__name__" := by decide) (hdb:(x==("__debug__" : Str))=false:=by decide) (hn2:y ≠ "__name__" := by decide) (HH:(y==("__debug__" : Str))=false:=by decide)
  (he:starEach [e] X.env=[(false,eval e X.env)]:=by rfl) (he2:starEach [.Call (.Name y p2) [e] [] pos2] X.env=[(false,eval (.Call (.Name y p2) [e] [] pos2) X.env)]:=by rfl) :
  XN K X (.Call (.Name x p) [.Call (.Name y p2) [e] [] pos2] [] pos) (tUn (aCu K) t) (qY QG f):=⟨h.hk,aBm (by have:=h.hk;subst this;exact aDZ hc) h.pe hg hm hv hg2 hm2 hv2 hn hdb hn2 HH he he2,λσ H e d Q re q k=>by
 obtain⟨d0,q1,q2⟩:=aX q
 unfold QG at q2
 split at q2
 ·obtain⟨ns,q3,q4⟩:=aX q2
  split at q4
  ·rename_i hl
   cases q4
   refine h.ev σ H H e _ _ (Zn.self K H) re q1 λv H1 Z1 s1 t1 z1 rv=>?_
   obtain⟨p,rfl,r2⟩:=wI q3 (z1.sm.rv _ _ rv)
   exact⟨p,ns,rfl,r2,hl,λl hl=>k _ _ (s1.trans (cT hl _)) ((rB (aU.refl _) (.fZ (cV _) (gZ.mpr rfl)) hl).back s1)⟩
  ·cases q4
 ·cases q2⟩
end
end L2


namespace L2
open PySem PySem.Spec PySem.Calls PyProof.Rows PyProof.V PySem.W Att
abbrev Small(k:Int):Prop:=Builtin.Int.intBits k≤1048576
theorem lr{ns:List Int}(h:WData.layableAll [WData.list (ns.map WData.int)]=true):∀k∈ns,Small k:=λk hk=>by
 have h1:(WData.list (ns.map WData.int)).layable=true:=by simpa[WData.layableAll]using h
 obtain⟨c,_,w⟩:=layableW_iff.mp h1
 have c':WData.canLayAll (ns.map WData.int)=true:=by simpa[WData.canLay]using c
 have w':WData.weightAll (ns.map WData.int)≤2 ^ 20:=by simpa[WData.weight]using w
 have:=(items_part (G8.mpr ⟨k,hk,rfl⟩) c').2.2
 have e:(WData.int k).weight=Builtin.Int.intBits k:=by simp only[WData.weight,Builtin.Int.intBits]
 rw[e]at this
 exact F5 this w'
theorem Xp{l:OpenLaw}{n:Nat}{q:Program}{loose:List Str}{XP:(Str→Option Value)→Heap→Prop}{YP:World→Heap→Prop}{d:DefRec}(hn:l.most=some n)(hdf:d.params.defaults=[])
  (call:∀(w:World)(s₀ s₁:Shared)(mg mb:Str→Option Value)(fa:Addr)(o:Obj)(pm cd doc:Value)(a:Addr)(vs:List Value)(ns:List Int),Ground q loose [] XP w s₀ mg mb s₁.heap→YP w s₁.heap →
   s₁.heap.get? fa=some o→o.data=.func (docDef d.name d.params d.body d.scope pm cd doc)→s₁.heap.CodeRec cd d.name→mg d.name=some (.ref fa) →
   s₁.heap.get? a=some {cls:=.type "list", data:=.seq vs.toArray}→IntsAre vs ns→ns.length≤n→(∀k∈ns,Small k)→s₁.gens=#[] →
   codeAny (model l.prog w) callerA (.call (.ref fa) ⟨[.ref a],[]⟩) (λr s'=>r=.ok (.ret (.bool true))∧OldK s₁.heap s'.heap∧s'.os=s₁.os∧AllBare s'.gens) s₁) :
  WalkO q loose XP YP l.row.toRowW d [] (λf vs=>i4 f vs):=by
 intro w s₀ s₁ mg mb G Y fa o pm cd doc dV kV ho hd hcd hD hmg hg args vals as hpre hlay hrd hwl hlo
 obtain rfl:dV=.none:=Dflts.none hD hdf
 obtain rfl:kV=.none:=Dflts.noKw hD
 obtain⟨a,vs,ns,rfl,rfl,hobj,hints,hlen⟩:=VB hn hpre hwl
 refine enter_call (codeAny_mono (call w s₀ s₁ mg mb fa o pm cd doc a vs ns G Y ho (fd_plain hd) hcd hmg hobj hints hlen (lr hlay) hg) λr s' hq=>?_)
 obtain⟨rfl,h2,h3,h4⟩:=hq
 exact⟨.inl ⟨.bool true,.bool true,[],rfl,λ_=>rfl,.bool true,VD l _,λ_=>⟨List.Pairwise.nil,λ_ hm=>(nomatch hm)⟩⟩,h2,h3,h4⟩
theorem XC{l:i5}{n k:Nat}{q:Program}{loose:List Str}{XP:(Str→Option Value)→Heap→Prop}{YP:World→Heap→Prop}{d:DefRec}{K:Params→aD}{CX:World→BR}{sp:World→Sp}{x:Str}(hn:l.most=some n)(hn2:n≤sizeLine)(hdf:d.params.defaults=[])(hr:gD k callerA)
  (hY:∀(w:World)(h:Heap),YP w h→(K w.params).In h)
  (F:∀(w:World)(mg:Str→Option Value)(fa:Addr)(h:Heap),(K w.params).In h→h.Ns mainGlobals mg→mg d.name=some (.ref fa)→∃fd:FuncData,(∀(s:Shared)(u:Value),BindsTo s fd ⟨[u],[]⟩ [(x,u)])∧∀base:Heap,(K w.params).In base→base.Ns mainGlobals mg→sZ l.prog w (K w.params) mg base (CX w) k fa fd [x] (sp w))
  (hsp:∀(w:World)(H:Hp)(a:Addr)(ns:List Int),ns.length≤n→(∀k∈ns,Small k)→Only H→pY (K w.params) H a (ns.map V.int)→sp w [.ref a] H (λv _=>v=.bl true) λ_ _ _=>False)
  (hCX:∀(w:World)(H:Hp)(s:Shared)(e:Value)(s':Shared),CX w [] H s (λ_ _ _=>False) e s'→False) :
  k8 q loose XP YP l.row.toRowW d [] (λf vs=>i4 f vs):=by
 refine Xp hn hdf λw s₀ s₁ mg mb fa o pm cd doc a vs ns G Y ho hd hcd hmg hobj hints hlen hsm hg=>?_
 have KX:=hY w _ Y
 obtain⟨fd,hb,hF⟩:=F w mg fa _ KX G.T.g hmg
 exact iy KX G.T.g G.T.b G.T.builtins G.T.nolimit hg hobj hints (F5 hlen hn2) hr hF hb (λH hO hS=>hsp w H a ns hlen hsm hO hS) λH e s'=>hCX w H s₁ e s'
def spB(K:aD):Sp:=λvs H Q _=>∃(a:Addr)(ns:List Int),vs=[.ref a]∧pY K H a (ns.map V.int)∧ns.length≤63∧(∀k∈ns,Small k)∧∀H',Q (.bl true) H'
theorem Fun.okB{P:Program}{w:World}{K:aD}{mg:Str→Option Value}{base:Heap}{x:Str}{st:Stmt}{N:List Str}{k:Nat}{g:GS}{f:Addr}{fd:FuncData}(F:Fun K x x st f fd)(S:aZ N ["script"] (aJ st))
  (hbody:∀(cdv:Value)(A:Around)(outer:List Env)(s:Shared)(H:Hp)(E:XK),gD k (A.deeper (envOfC x (aJ st) s.heap.objs.size f cdv))→∃t,YB K (mD Wg P w K mg base N x (aJ st) f cdv A outer s H E).KH (bR st) t g)
  (aD0:∀ns:List Int,ns.length≤63→(∀k∈ns,Small k)→qZ N.length 1 g [.lst (ns.map D.int)]=some (.bl true)):sZ P w K mg base Wg (k+1) f fd ["script"] (spB K):=by
 refine F.ok S (λvs H Q E h=>?_) (λcdv A outer s H vs Q E hr h=>?_)
 ·obtain⟨a,ns,rfl,_⟩:=h
  rfl
 obtain⟨a,ns,rfl,hS,hl,hb,q⟩:=h
 obtain⟨t,yb⟩:=hbody cdv A outer s H E hr
 have h3:=aD0 ns hl hb
 have rv:eE K H [.lst (ns.map D.int)] [.ref a]:=by
  unfold eE
  exact⟨_,_,rfl,by unfold Rv;exact⟨a,_,rfl,hS,gZ.mpr rfl⟩,by unfold eE;rfl⟩
 refine⟨t,yb.ps,yb.ev H _ _ H ([D.lst (ns.map D.int)].map SD.fro++E7 (N.length-1) SD.no) (yD rv) ?_⟩
 unfold qZ at h3
 rw[if_pos (show [D.lst (ns.map D.int)].length=1 from rfl)]at h3
 cases qq:g ([D.lst (ns.map D.int)].map SD.fro++E7 (N.length-1) SD.no)with
 | ret d'=>
  rw[qq]at h3
  cases h3
  refine λv H' A' s' o=>?_
  have:=Ow.rv _ _ _ o
  unfold Rv at this
  subst this
  exact q _
 | _=>
  rw[qq]at h3
  cases h3
section
variable{K:aD}{X:Cx}{e a b c:Expr}{es:List Expr}{t ta tb te:TE}{f g:FE}{pos:Pos}
def lu(i j:Int):Prop:=Builtin.Int.intBits i≤4000000∧Builtin.Int.intBits j≤4000000
instance (i j:Int):Decidable (lu i j):=by unfold lu;exact inferInstance
def aIa:D→D→Option D:=Jw lu λi j=>.int (i*j)
variable{lo hi:Option Expr}{tl th:TO}{fl fh:FO}{p2:Pos}
end
end L2


namespace L2
open PySem PySem.Spec PySem.Calls PyProof.Rows PyProof.V
section
variable{K:aD}{X:Cx}
def aCv:List V→Hp→VK→Prop:=λxs H Q=>∃c,xs=[.bl c]∧Q (.int (if c then 1 else 0)) H
theorem aBo:lV X (.type "int") aCv:=by
 intro pins s σ H xs us Q I r h
 obtain⟨c,rfl,q⟩:=h
 obtain⟨u,rfl,rx⟩:=vals1 r
 cases rx
 exact call_int_bool ⟨.int _,H,I.kept (t':=s.toks+1) λ_ _ e=>e,⟨_,rfl⟩,q⟩
def aIb:List D→Option D
 | [.bl c]=>some (.int (if c then 1 else 0))
 | _=>none
end
end L2


namespace L2
open PySem PySem.Spec PySem.Calls PyProof.Rows PyProof.V
section
variable{X:Cx}{pins:List (Addr×Obj)}{σ:St}{H:Hp}{s:Shared}{h':Heap}
end
section
variable{K:aD}{X:Cx}{e a b c:Expr}{es:List Expr}{t ta tb te:TE}{f g fe:FE}{tc:TT}{fc:FT}{pos p p2:Pos}{x:Str}
end
end L2


namespace L2
open PySem PySem.Spec PySem.Calls PyProof.Rows PyProof.V
section
variable{K:aD}{B H:Hp}{env:EN}{σ:St}{i:Nat}{v:V}{d:D}
theorem Rel.lz(h:Rel K B env σ H)(e:env[i]?=some (.inn v d)):Rel K B (env.set i (.own d)) σ H∧σ[i]?=some (some v):=by
 obtain⟨A,a,b⟩:=h
 obtain⟨y,A1,C,h1,h2,h3,h4,k⟩:=a.focus e
 obtain⟨rfl,o⟩:=h4
 have eA:A=fH A1 C:=funext λx=>propext (h3 x)
 subst eA
 have s:=k _ (λ_ _ _ _ q=>q) (.own d) (some v) A1 h2 ⟨v,rfl,o⟩
 rw[set_same h1]at s
 exact⟨⟨_,s,b⟩,h1⟩
theorem Rel.mj(h:Rel K B env σ H)(e:env[i]?=some (.own d))(hv:σ[i]?=some (some v)):Rel K B (env.set i (.inn v d)) σ H:=by
 obtain⟨A,a,b⟩:=h
 obtain⟨y,A1,C,h1,h2,h3,h4,k⟩:=a.focus e
 obtain⟨v',rfl,o⟩:=h4
 rw[hv]at h1
 cases h1
 have eA:A=fH A1 C:=funext λx=>propext (h3 x)
 subst eA
 have s:=k _ (λ_ _ _ _ q=>q) (.inn v d) (some v) A1 h2 ⟨rfl,o⟩
 rw[set_same hv]at s
 exact⟨_,s,b⟩
end
section
variable{K:aD}{X:Cx}{st:Stmt}{sts:List Stmt}{t u tb:TS}{g g1 g2:GS}{e a b c:Expr}{es:List Expr}{te ta t0:TE}{f f0 fa fb:FE}{gk:FE}{tA:TA}{fs:FA}{tc:TT}{fc:FT}{pos:Pos}{i:Nat}{π:FP}
end
end L2


namespace L2
open PySem PySem.Spec PySem.Calls PyProof.Rows PyProof.V
section
variable{α β:Type}{R:α→Fp→β→Prop}
theorem gY.En:∀{ds:List α} {A:Fp} {ys:List β} {d:α} {y:β},gY R (ds++[d]) A (ys++[y])→∃A0 A1,gY R ds A0 ys∧R d A1 y∧Apart A0 A1∧Is A (fH A0 A1)
  | [],A,ys,d,y,h=>by
    obtain⟨y0,yt,A1,A2,h1,h2,h3,h4,h5,h6⟩:=h
    subst h6
    cases ys with
    | nil=>
      cases h1
      exact⟨nil,A1,⟨λ_ z=>z,rfl⟩,h4,λ_ z=>z.elim,λx=>⟨λq=>((h3 x).mp q).elim .inr λz=>absurd z (h5 x),λq=>q.elim False.elim λz=>(h3 x).mpr (.inl z)⟩⟩
    | cons z zs=>
      injection h1 with _ h1
      cases zs<;>cases h1
  | d0::ds,A,ys,d,y,h=>by
    obtain⟨y0,yt,A1,A2,h1,h2,h3,h4,h5⟩:=h
    have hl:=h5.len
    cases ys with
    | nil=>
      injection h1 with _ h1
      subst h1
      have hl:0=(ds++[d]).length:=hl
      rw[D4]at hl
      simp at hl
    | cons z zs=>
      injection h1 with e1 e2
      subst e1 e2
      obtain⟨B0,B1,k1,k2,k3,k4⟩:=gY.En h5
      refine⟨fH A1 B0,B1,⟨z,zs,A1,B0,rfl,λx q q'=>h2 x q ((k4 x).mpr (.inl q')),λx=>Iff.rfl,h4,k1⟩,k2,λx q q'=>?_,λx=>?_⟩
      · rcases q with q | q
        · exact h2 x q ((k4 x).mpr (.inr q'))
        · exact k3 x q q'
      · rw[h3 x]
        constructor
        · rintro(q | q)
          · exact .inl (.inl q)
          · exact((k4 x).mp q).elim (λz=>.inl (.inr z)) .inr
        · rintro((q | q) | q)
          · exact .inl q
          · exact .inr ((k4 x).mpr (.inl q))
          · exact .inr ((k4 x).mpr (.inr q))
end
section
variable{K:aD}{B H H':Hp}{env:EN}{σ:St}{i:Nat}{v:V}{d:D}
theorem Rel.snoc(h:Rel K B env σ H)(s:aU H H')(n:Nu K H H' d v):Rel K B (env++[.own d]) (σ++[some v]) H':=by
 obtain⟨A,a,b⟩:=h
 obtain⟨N,o,f⟩:=n
 have cl:=iT a
 have g:aU (out H A) (out H' (fH A N)):=bU s λx q=>q.elim .inl λq=>.inr (f x q)
 refine⟨fH A N,gY.snoc (a.mono λe D z _ q=>q.same s g) ⟨v,rfl,o⟩ λx q1 q2=>?_,b.trans g⟩
 obtain⟨⟨u,e⟩,_⟩:=cl x q1
 rw[f x q2]at e;cases e
theorem Rel.pop{s:SD}{y:Option V}(h:Rel K B (env++[s]) (σ++[y]) H):Rel K B env σ H:=by
 obtain⟨A,a,b⟩:=h
 obtain⟨A0,A1,k1,k2,k3,k4⟩:=a.En
 have g:aU (out H A) (out H A0):=bU (aU.refl _) λx q=>.inl ((k4 x).mpr (.inl q))
 exact⟨A0,k1.mono λe D z _ q=>q.same (aU.refl _) g,b.trans g⟩
theorem Rel.mq(h:Rel K B (env++[.own d]) (σ++[some v]) H):Rv K H d v:=by
 obtain⟨A,a,b⟩:=h
 obtain⟨A0,A1,k1,⟨v',e,o⟩,k3,k4⟩:=a.En
 cases e
 exact Ow.rv _ _ _ o
theorem Rel.aD1(h:Rel K B (env++[.own d]) (σ++[some v]) H):∃A,aU B (out H A)∧Ow K H d A v:=by
 obtain⟨A,a,b⟩:=h
 obtain⟨A0,A1,k1,⟨v',e,o⟩,k3,k4⟩:=a.En
 cases e
 exact⟨A1,b.trans (bU (aU.refl _) λx q=>.inl ((k4 x).mpr (.inr q))),o⟩
theorem Rel.move(h:Rel K B (env++[.own d]) (σ++[some v]) H)(hi:i<env.length):Rel K B (env.set i (.own d)) (σ.set i (some v)) H:=by
 obtain⟨A,a,b⟩:=h
 obtain⟨A0,A1,k1,⟨v',e,o⟩,k3,k4⟩:=a.En
 cases e
 obtain⟨y,B1,C,f1,f2,f3,f4,f5⟩:=k1.focus (B6 hi)
 have g:aU (out H A) (out H (fH A1 C)):=bU (aU.refl _) λx q=>.inl ((k4 x).mpr (q.elim .inr λq=>.inl ((f3 x).mpr (.inr q))))
 exact⟨fH A1 C,f5 (jD K H (out H (fH A1 C))) (λe D z _ q=>q.same (aU.refl _) g) (.own d) (some v) A1 (λx q q'=>k3 x ((f3 x).mpr (.inr q')) q) ⟨v,rfl,o⟩,b.trans g⟩
theorem Rel.give(h:Rel K B env σ H)(e:env[i]?=some (.own d)):∃v,σ[i]?=some (some v)∧Rel K B (env.set i .no++[.own d]) (σ++[some v]) H:=by
 obtain⟨A,a,b⟩:=h
 obtain⟨y,A1,C,h1,h2,h3,h4,k⟩:=a.focus e
 obtain⟨v,rfl,o⟩:=h4
 have eA:A=fH A1 C:=funext λx=>propext (h3 x)
 subst eA
 have s:=k _ (λ_ _ _ _ q=>q) .no (some v) nil (λ_ z=>z.elim) (λ_ z=>z)
 rw[set_same h1]at s
 have s2:=gY.snoc (d:=SD.own d) (y:=some v) (A1:=A1) s ⟨v,rfl,o⟩ (λx q q'=>q.elim False.elim (h2 x q'))
 have eA2:(fH (fH nil C) A1)=fH A1 C:=funext λx=>propext ⟨λq=>q.elim (λq=>q.elim False.elim .inr) .inl,λq=>q.elim .inr λq=>.inl (.inr q)⟩
 rw[eA2]at s2
 exact⟨v,h1,_,s2,b⟩
end
def jA(i:Nat)(g:GS):GS:=λenv=>match env[i]? with
 | some (.inn v d)=>(match g (env.set i (.own d))with
  | .next env'=>(match env'[i]? with
   | some (.own d')=>.next (env'.set i (.inn v d'))
   | _=>.bad)
  | _=>.bad)
 | _=>.bad
theorem my{K:aD}{t:TS}{g:GS}{i:Nat}(h:ZV K t g):ZV K t (jA i g):=λB E σ H env r p=>by
 unfold jA at p
 split at p
 ·rename_i v d q1
  obtain⟨r',hσ⟩:=r.lz q1
  refine h B E σ H _ r' ?_
  split at p
  ·rename_i env' q2
   rw[q2]
   split at p
   ·rename_i d' q3
    exact λH' r2=>p H' (r2.mj q3 hσ)
   ·exact p.elim
  ·exact p.elim
 ·exact p.elim
theorem Ku{K:aD}{X:Cx}{st:Stmt}{t:TS}{g:GS}(i:Nat)(hp:PS X st t)(h:ZV K t g):YS K X st t (jA i g):=⟨hp,(my h).ds⟩
def mz:GS:=λ_=>.bad
theorem Uo{K:aD}{X:Cx}{st:Stmt}:YS K X st Jf mz:=⟨au,λ_ _ _ _ _ _ p=>p.elim⟩
section
variable{K:aD}{X:Cx}{st:Stmt}{sts:List Stmt}{t u tb:TS}{g g1 g2:GS}{e a b c o:Expr}{es:List Expr}{te ta t0 tv:TE}{f f0 fa fb:FE}{gk:FE}{tA:TA}{fs:FA}{tc:TT}{fc:FT}{pos apos:Pos}{i:Nat}{π:FP}
structure gB(K:aD)(C:Addr)(nm:List Str):Prop where
 cl:ZR K C
 no:∀f∈nm,zU K C f
def dX(C:Addr)(x:Str)(d:D):Option D:=match d with
 | .ins C' nm ds=>if C'=C then(posK nm x).bind λj=>ds[j]? else none
 | _=>none
theorem aBp{H:Hp}{C:Addr}{x:Str}{d r:D}{v:V}(q:dX C x d=some r)(rv:Rv K H d v):∃a dx fs y,v=.ref a∧H a=some (.ins C dx fs)∧fs.lookup x=some y∧Rv K H r y:=by
 unfold dX at q
 split at q
 ·rename_i C' nm ds
  split at q
  ·rename_i hc
   subst hc
   obtain⟨j,q1,q2⟩:=aX q
   unfold Rv at rv
   obtain⟨a,dx,xs,rfl,h1,h2,h3⟩:=rv
   obtain⟨y,h4,h5⟩:=h3.get q2
   exact⟨a,dx,_,y,rfl,h1,by rw[Ab h2,q1];exact h4,h5⟩
  ·cases q
 ·cases q
theorem cQ{C:Addr}{nm:List Str}{x:Str}(F:gB K C nm)(h:XR K X e ta f)(hx:x∈nm)(hb:attributeBase e x X.env (eval e X.env)=eval e X.env):XR K X (.Attribute e x pos) (aC8 K ta x) (qY (dX C x) f):=⟨h.hk,by have:=h.hk;subst this;exact dh h.pe hb,λσ H Z e d Q z re q k=>by
 obtain⟨d0,q1,q2⟩:=aX q
 refine h.ev σ H Z e d0 _ z re q1 λv H1 Z1 s1 t1 z1 rv=>?_
 obtain⟨a,dx,fs,y,rfl,h1,h2,h3⟩:=aBp q2 rv
 exact⟨a,C,dx,fs,y,rfl,z1.sm _ _ h1,F.cl,F.no x hx,h2,k y H1 Z1 s1 t1 z1 h3⟩⟩
theorem XD{H:Hp}{C:Addr}{x:Str}{w v:V}(h:stepV H (.fld C x) w=some v):∃a dx fs,w=.ref a∧H a=some (.ins C dx fs)∧fs.lookup x=some v:=by
 cases w with
 | ref a=>
  cases q:H a with
  | none=>unfold stepV at h;dsimp only at h;rw[q]at h;cases h
  | some u=>
   unfold stepV at h
   dsimp only at h
   rw[q]at h
   cases u with
   | ins C' dx fs=>
    have h2:(if C'=C then fs.lookup x else none)=some v:=h
    by_cases hc:C'=C
    ·rw[if_pos hc]at h2
     rw[←hc]
     exact⟨a,dx,fs,rfl,q,h2⟩
    ·rw[if_neg hc]at h2
     cases h2
   | _=>cases h
 | _=>unfold stepV at h;cases h
def Eo(C:Addr)(x:Str)(π:FP):FP:=λe=>(π e).bind λp=>some (p++[.fld C x])
theorem qM{C:Addr}{nm:List Str}{x:Str}(F:gB K C nm)(h:XP K X a ta i π)(hx:x∈nm)(hb:attributeBase a x X.env (eval a X.env)=eval a X.env):XP K X (.Attribute a x pos) (aC8 K ta x) i (Eo C x π):=⟨h.hk,by have:=h.hk;subst this;exact dh h.pe hb,λσ H e v0 p v Q re h1 h2 h3 k=>by
 unfold Eo at h2
 obtain⟨p0,q1,q2⟩:=aX h2
 cases q2
 obtain⟨w,w1,w2⟩:=Kl h3
 obtain⟨ad,dx,fs,rfl,w3,w4⟩:=XD w2
 exact h.ev σ H e v0 p0 _ _ re h1 q1 w1 λH1 s1=>⟨ad,C,dx,fs,v,rfl,s1 _ _ w3,F.cl,F.no x hx,w4,k H1 s1⟩⟩
end
theorem Xq{x:Str}{y:V}:∀{nm:List Str} {xs:List V},nm.length=xs.length→vM x y (nm.zip xs)=(match posK nm x with | some j=>nm.zip (xs.set j y) | none=>(nm++[x]).zip (xs++[y]))
 | [],xs,h=>by
  cases xs with
  | nil=>rfl
  | cons=>simp at h
 | a::nm,[],h=>by simp at h
 | a::nm,z::xs,h=>by
  have ih:=Xq (x:=x) (y:=y) (nm:=nm) (xs:=xs) (by simpa using h)
  rw[P9]
  unfold vM posK
  by_cases c:a=x
  ·rw[if_pos c,if_pos c]
   rfl
  ·rw[if_neg c,if_neg c,ih]
   cases q:posK nm x with
   | none=>rfl
   | some j=>rfl
section
variable{K:aD}{B H:Hp}{env:EN}{σ:St}
theorem XF{H:Hp}{a C dx:Addr}{fs:List (Str×V)}(h:H a=some (.ins C dx fs)):vC H a:=⟨λys e=>(by rw[h]at e;cases e),λo ys e=>(by rw[h]at e;cases e)⟩
theorem Rel.aHo{i:Nat}{p:List Step}{d0:D}{C:Addr}{nm:List Str}{ds:List D}(h:Rel K B env σ H)(e:env[i]?=some (.own d0))(q:fD p d0=some (.ins C nm ds)):∃v0 a dx xs Bs,σ[i]?=some (some v0)∧Hf H p v0=some (.ref a)∧H a=some (.ins C dx (nm.zip xs))∧nm.length=xs.length∧eY K H ds Bs xs ∧
    ∀H2 nm' ds' xs' Bn,aU H H2→nm'.length=xs'.length→eY K H2 ds' Bn xs'→(∀b,Bn b→Bs b∨H b=none)→Rel K B (env.set i (.own (eN p d0 (.ins C nm' ds')))) σ (upd H2 a (.ins C dx (nm'.zip xs'))):=by
  obtain⟨v0,w,A1,Cc,h1,h2,h3,h4,h5,h6⟩:=h.at e q
  have hc:=Ow.cells _ _ _ h3
  unfold Ow at h3
  obtain⟨a,dx,xs,Bs,rfl,o2,o2',o3,o3',aHp,o4,o5⟩:=h3
  refine⟨v0,a,dx,xs,Bs,h1,h2,o2,o3,o5,λH2 nm' ds' xs' Bn s hl o hb=>?_⟩
  have nad:dx≠a:=λz=>by rw[z,o2]at o2';cases o2'
  have ju:¬Bn a:=λz=>(hb a z).elim o3' λz=>by rw[o2]at z;cases z
  have nBd:¬Bn dx:=λz=>(hb dx z).elim aHp λz=>by rw[o2']at z;cases z
  have hC:∀x,Cc x→¬(x=a∨x=dx):=λx z y=>h4 x ((o4 x).mpr (.inl y)) z
  have Og:H2 a=some (.ins C dx (nm.zip xs)):=s a _ o2
  have nt:vC H2 a:=XF Og
  refine h6 _ (.ins C nm' ds') (fH (λx=>x=a∨x=dx) Bn) (λx z1 z2=>?_) (λx z=>?_) (s.tk.trans (rY nt)) ?_ (λx u ex=>?_)
  · rcases z1 with z1 | z1
    · exact hC x z2 z1
    · rcases hb x z1 with z | z
      · exact h4 x ((o4 x).mpr (.inr z)) z2
      · obtain⟨⟨u,eu⟩,_⟩:=h5 x z2
        rw[z]at eu;cases eu
  · obtain⟨⟨u,eu⟩,_⟩:=h5 x z
    rw[bL (λy=>hC x z (.inl y)),eu,s x u eu]
  · unfold Ow
    refine⟨a,dx,xs',Bn,rfl,bW,by rw[bL nad];exact s dx _ o2',hl,ju,nBd,λ_=>Iff.rfl,eY.frame (rY nt) _ _ _ o λx zx=>bL λy=>ju (y▸zx)⟩
  · obtain⟨e1,e2⟩:=bD.mp ex
    have na:x≠a:=λy=>e1 (.inl ((o4 x).mpr (.inl (.inl y))))
    refine bD.mpr ⟨λz=>?_,by rw[bL na];exact s x u e2⟩
    rcases z with (z | z) | z
    · exact e1 (.inl ((o4 x).mpr (.inl z)))
    · rcases hb x z with z | z
      · exact e1 (.inl ((o4 x).mpr (.inr z)))
      · rw[z]at e2;cases e2
    · exact e1 (.inr z)
end
section
variable{K:aD}{X:Cx}{st:Stmt}{sts:List Stmt}{t u tb:TS}{g g1 g2:GS}{e a b c o:Expr}{es:List Expr}{te ta t0 tv:TE}{f f0 fa fb:FE}{gk:FE}{tA:TA}{fs:FA}{tc:TT}{fc:FT}{pos apos:Pos}{i:Nat}{π:FP}
def Rb(nm:List Str)(ds:List D)(x:Str)(d:D):List Str×List D:=match posK nm x with
 | some j=>(nm,ds.set j d)
 | none=>(nm++[x],ds++[d])
def tR(C:Addr)(i:Nat)(π:FP)(x:Str)(f:FE):GS:=λenv=>match env[i]?,π (rE env),f (rE env)with
 | some (.own d0),some p,some d=>(match fD p d0 with
  | some (.ins C' nm ds)=>if C'=C∧nm.length<900 then .next (env.set i (.own (eN p d0 (.ins C' (Rb nm ds x d).1 (Rb nm ds x d).2))))else .bad
  | _=>.bad)
 | _,_,_=>.bad
theorem aD2{C:Addr}{Xr:List Str}{x:Str}(F:gB K C Xr)(hx:x∈Xr)(h:EvP K ta i π)(he:Nv K te f):ZV K (aC9 K ta te x) (tR C i π x f):=λB E σ H env r p=>by
 unfold tR at p
 split at p
 ·rename_i d0 pp d q1 q2 q3
  split at p
  ·rename_i C' nm ds q4
   split at p
   ·rename_i hc
    obtain⟨rfl,hl⟩:=hc
    obtain⟨v0,a,dx,xs,Bs,k1,k2,k3,k4,k5,k6⟩:=r.aHo q1 q4
    refine he σ H (rE env) d _ r.r q3 λy H1 s1 n=>?_
    refine h σ H1 (rE env) v0 pp _ _ (r.r.same s1) k1 q2 (wM s1 k2) λH2 s2=>?_
    have s12:=s1.trans s2
    obtain⟨N,o,fr⟩:=n.same s2
    refine⟨a,C',dx,_,rfl,s12 _ _ k3,F.cl,F.no x hx,by rw[X6];omega,p _ ?_⟩
    rw[Xq k4]
    unfold Rb
    cases qj:posK nm x with
    | none=>exact k6 H2 (nm++[x]) (ds++[d]) (xs++[y]) (fH Bs N) s12 (by simp[k4]) (cN.mpr ((cN.mp (k5.same s12)).snoc o (Ul (H1:=H) k5 fr))) λb z=>z.imp id (fr b)
    | some j=>
     have hj:=(pP qj).1
     have hlen:=(eY.rv _ _ _ k5).length
     obtain⟨y0,A1,Cc,f1,f2,f3,f4,f5⟩:=(cN.mp (k5.same s12)).focus (B6 (show j<ds.length by omega))
     have ap:Apart N Cc:=λx q1 q2=>Ul (H1:=H) k5 fr x ((f3 x).mpr (.inr q2)) q1
     exact k6 H2 nm (ds.set j d) (xs.set j y) (fH N Cc) s12 (by rw[M8];exact k4) (cN.mpr (f5 (Ow K H2) (λ_ _ _ _ qq=>qq) d y N ap o)) λb z=>z.elim (λz=>.inr (fr b z)) λz=>.inl ((f3 b).mpr (.inr z))
   ·exact p.elim
  ·exact p.elim
 ·exact p.elim
end
end L2


namespace L2
open PySem PySem.Spec PySem.Calls PyProof.Rows PyProof.V
section
variable{K:aD}{B H H':Hp}{env:EN}{σ:St}{i:Nat}{p:List Step}{d0 d:D}
theorem nM.same{a:Addr}(h:nM H a)(s:aU H H'):nM H' a:=by
 obtain⟨⟨o,e⟩,n⟩:=h
 have e':=s _ _ e
 exact⟨⟨o,e'⟩,λxs z=>n.1 xs (by rw[e,←e'];exact z),λu xs z=>n.2 u xs (by rw[e,←e'];exact z)⟩
theorem aD3{A:Fp}(c:∀x,A x→nM H x):Zn K A (out H A) H:=⟨jK H A,Ud λx q=>(c x q).2,λx q=>⟨by unfold out;rw[if_pos q],λz=>by obtain⟨⟨o,e⟩,_⟩:=c x q;rw[z]at e;cases e⟩⟩
theorem aFV{A:Fp}{Z:Hp}(z:Zn K A Z H):aU Z (out H A):=λx o e=>bD.mpr ⟨λq=>(by rw[(z.no x q).1]at e;cases e),z.sm x o e⟩
theorem Rel.atR(h:Rel K B env σ H)(e:env[i]?=some (.own d0))(q:fD p d0=some d):∃v0 w A1 C,σ[i]?=some (some v0)∧Hf H p v0=some w∧Ow K H d A1 w∧Apart A1 C∧(∀a,C a→nM H a)∧yV K (out H A1) (rE (env.set i .no)) σ ∧
    ∀H' d' r x A' A2,Apart A' C→Apart A2 C→Apart A' A2→(∀a,C a→H' a=H a)→Bm K H H'→Ow K H' d' A' w→Ow K H' r A2 x→aU (out H (fH A1 C)) (out H' (fH (fH A' A2) C))→Rel K B (env.set i (.own (eN p d0 d'))++[.own r]) (σ++[some x]) H':=by
  obtain⟨A,a,b⟩:=h
  have cl:=iT a
  obtain⟨y,A1,C,h1,h2,h3,h4,k⟩:=a.focus e
  obtain⟨v0,rfl,o⟩:=h4
  obtain⟨w,B1,C1,g1,g2,g3,g4,g5⟩:=o.at q
  refine⟨v0,w,B1,fH C1 C,h1,g1,g4,λx z1 z2=>?_,λx z=>?_,?_,λH' d' r x A' A2 ap apr apx fr tk o' o'' sm=>?_⟩
  · exact z2.elim (g2 x z1) (h2 x ((g3 x).mpr (.inl z1)))
  · exact cl x ((h3 x).mpr (z.elim (λz=>.inl ((g3 x).mpr (.inr z))) .inr))
  · intro j dj qj
    unfold rE at qj
    rw[C5]at qj
    cases ej:(env.set i .no)[j]? with
    | none=>rw[ej]at qj;cases qj
    | some sd=>
      rw[ej]at qj
      have ne:i≠j:=λz=>by
        subst z
        rw[F9 (D3.mp e).1]at ej
        cases ej
        cases qj
      have S':=k (jD K H (out H A)) (λ_ _ _ _ q=>q) .no none nil (λ_ z=>z.elim) λ_ z=>z
      obtain⟨y,Ak,Ck,f1,f2,f3,f4,_⟩:=S'.focus ej
      rw[L3,if_neg ne]at f1
      have hB:∀x,B1 x→A x:=λx z=>(h3 x).mpr (.inl ((g3 x).mpr (.inl z)))
      have apk:Apart Ak B1:=λx z1 z2=>h2 x ((g3 x).mpr (.inl z2)) (((f3 x).mpr (.inl z1)).elim False.elim id)
      cases sd with
      | no=>cases qj
      | fro d1=>
        cases qj
        obtain⟨_,v1,rfl,f5⟩:=f4
        exact⟨v1,f1,(bU (aU.refl _) λx q=>.inl (hB x q):aU (out H A) (out H B1)).rv _ _ f5⟩
      | own d1=>
        cases qj
        obtain⟨v1,rfl,f5⟩:=f4
        exact⟨v1,f1,f5.out apk λx q=>(cl x (hB x q)).2⟩
      | inn v1 d1=>
        cases qj
        obtain⟨rfl,f5⟩:=f4
        exact⟨v1,f1,f5.out apk λx q=>(cl x (hB x q)).2⟩
  · have o2:=g5 H' d' A' (λx z1 z2=>ap x z1 (.inl z2)) (λx z=>fr x (.inl z)) tk o'
    have ap2:Apart (fH A' C1) C:=λx z1 z2=>z1.elim (λz=>ap x z (.inr z2)) λz=>h2 x ((g3 x).mpr (.inr z)) z2
    have hA:Is A (fH B1 (fH C1 C)):=λx=>by
      rw[h3 x]
      constructor
      · rintro(z | z)
        · exact((g3 x).mp z).elim .inl λz=>.inr (.inl z)
        · exact .inr (.inr z)
      · rintro(z | z | z)
        · exact .inl ((g3 x).mpr (.inl z))
        · exact .inl ((g3 x).mpr (.inr z))
        · exact .inr z
    have g:aU (out H A) (out H' (fH (fH (fH A' C1) C) A2)):=λx u ex=>by
      obtain⟨e1,e2⟩:=bD.mp ex
      have:=sm x u (bD.mpr ⟨λz=>e1 ((hA x).mpr z),e2⟩)
      obtain⟨e3,e4⟩:=bD.mp this
      refine bD.mpr ⟨λz=>e3 ?_,e4⟩
      rcases z with ((z | z) | z) | z
      · exact .inl (.inl z)
      · exact .inr (.inl z)
      · exact .inr (.inr z)
      · exact .inl (.inr z)
    have s:=k (jD K H' (out H' (fH (fH (fH A' C1) C) A2))) (λs D z hb qq=>by
      cases s with
      | no=>exact qq
      | fro d=>obtain⟨q1,v,q2,q3⟩:=qq;exact⟨q1,v,q2,g.rv _ _ q3⟩
      | inn v d=>exact⟨qq.1,Ow.frame tk _ _ _ qq.2 λx zx=>fr x (.inr (hb x zx))⟩
      | own d=>obtain⟨v,q1,q2⟩:=qq;exact⟨v,q1,Ow.frame tk _ _ _ q2 λx zx=>fr x (.inr (hb x zx))⟩) (.own (eN p d0 d')) (some v0) (fH A' C1) ap2 ⟨v0,rfl,o2⟩
    rw[set_same h1]at s
    refine⟨_,gY.snoc s ⟨x,rfl,o''⟩ λy z1 z2=>?_,b.trans g⟩
    rcases z1 with (z | z) | z
    · exact apx y z z2
    · exact apr y z2 (.inl z)
    · exact apr y z2 (.inr z)
def spS(K:aD)(m:Nat)(F:List D→Option (D×D)):Sp:=λvs H Q _=>∃d es v ws A r d',vs=v::ws∧es.length+1=m∧Ow K H d A v∧eE K (out H A) es ws∧F (d::es)=some (r,d')∧∀w H' A' A2,Ow K H' d' A' v→Ow K H' r A2 w→Apart A' A2→aU (out H A) (out H' (fH A' A2))→Q w H'
theorem Xu{m:Nat}{F:List D→Option (D×D)}{E:XK}{Q:VK}{es:List D}{r d':D}(h:Rel K B env σ H)(e:env[i]?=some (.own d0))(q:fD p d0=some d)(hl:es.length+1=m)(hF:F (d::es)=some (r,d'))(k:∀w H',Rel K B (env.set i (.own (eN p d0 d'))++[.own r]) (σ++[some w]) H'→Q w H') :
  ∃v0 w0 A1,σ[i]?=some (some v0)∧Hf H p v0=some w0∧Ow K H d A1 w0∧yV K (out H A1) (rE (env.set i .no)) σ∧∀H2 vs,aU H H2→eE K (out H2 A1) es vs→spS K m F (w0::vs) H2 Q E:=by
 obtain⟨v0,w,A1,C,h1,h2,h3,h4,h5,h6,h7⟩:=h.atR e q
 have c1:=Ow.cells _ _ _ h3
 refine⟨v0,w,A1,h1,h2,h3,h6,λH2 vs s rvs=>⟨d,es,w,vs,A1,r,d',rfl,hl,h3.same s,rvs,hF,λx H3 A' A2 o1 o2 ap sm=>k x H3 ?_⟩⟩
 have hC:∀y,C y→¬A' y∧¬A2 y∧H3 y=H y:=λy hy=>by
  obtain⟨⟨u,eu⟩,_⟩:=h5 y hy
  obtain⟨n1,n2⟩:=bD.mp (sm y u (bD.mpr ⟨λz=>h4 y z hy,s y u eu⟩))
  exact⟨λz=>n1 (.inl z),λz=>n1 (.inr z),n2.trans eu.symm⟩
 have tk:Bm K H H3:=(Ud λx q=>(c1 x q).2).trans ((bU s λx q=>.inl q:aU (out H A1) (out H2 A1)).trans (sm.trans (jK _ _))).tk
 refine h7 H3 d' r x A' A2 (λy z1 z2=>(hC y z2).1 z1) (λy z1 z2=>(hC y z2).2.1 z1) ap (λy hy=>(hC y hy).2.2) tk o1 o2 λy u ey=>?_
 obtain⟨e1,e2⟩:=bD.mp ey
 obtain⟨n1,n2⟩:=bD.mp (sm y u (bD.mpr ⟨λz=>e1 (.inl z),s y u e2⟩))
 exact bD.mpr ⟨λz=>z.elim n1 λz=>e1 (.inr z),n2⟩
def SD.hold:SD→Option (D×(D→SD))
 | .own d=>some (d,.own)
 | .inn v d=>some (d,.inn v)
 | _=>none
theorem Xv{m:Nat}{F:List D→Option (D×D)}{E:XK}{Q:VK}{es:List D}{r d':D}{back:D→SD}(h:Rel K B env σ H)(e:env[i]?.bind SD.hold=some (d0,back))(q:fD p d0=some d)(hl:es.length+1=m)(hF:F (d::es)=some (r,d'))(k:∀w H',Rel K B (env.set i (back (eN p d0 d'))++[.own r]) (σ++[some w]) H'→Q w H') :
  ∃v0 w0 A1,σ[i]?=some (some v0)∧Hf H p v0=some w0∧Ow K H d A1 w0∧yV K (out H A1) (rE (env.set i .no)) σ∧∀H2 vs,aU H H2→eE K (out H2 A1) es vs→spS K m F (w0::vs) H2 Q E:=by
 obtain⟨s,e1,e2⟩:=aX e
 cases s with
 | no=>cases e2
 | fro d=>cases e2
 | own d=>cases e2;exact Xu h e1 q hl hF k
 | inn v d=>
  cases e2
  obtain⟨r',hσ⟩:=h.lz e1
  have hi:i<env.length:=(D3.mp e1).1
  have:=Xu (E:=E) (Q:=Q) r' (F9 hi) q hl hF λw H' rr=>by
   rw[W6]at rr
   have r2:=rr.mj (i:=i) (v:=v) (d:=eN p d0 d') (by rw[G3 (by rw[M8];exact hi)];exact F9 hi) (by
    have hl:=h.len
    rw[G3 (by omega)]
    exact hσ)
   rw[List.set_append_left _ _ (by rw[M8];exact hi),W6]at r2
   exact k w H' r2
  rw[W6]at this
  exact this
end
abbrev GM:=EN→Option (D×EN)
def EvM(K:aD)(t:TE)(g:GM):Prop:=∀(B:Hp)(σ:St)(H:Hp)(env:EN)(d:D)(env':EN)(Q:VK),Rel K B env σ H→g env=some (d,env')→(∀v H',Rel K B (env'++[.own d]) (σ++[some v]) H'→Q v H')→t σ H Q
structure XM(K:aD)(X:Cx)(e:Expr)(t:TE)(g:GM):Prop where
 hk:X.K=K
 pe:PE X e t
 ev:EvM K t g
abbrev GB:=EN→Option (Bool×EN)
def aFW(K:aD)(t:TT)(g:GB):Prop:=∀(B:Hp)(σ:St)(H:Hp)(env:EN)(b:Bool)(env':EN)(Q:Bool→Hp→Prop),Rel K B env σ H→g env=some (b,env')→(∀H',Rel K B env' σ H'→Q b H')→t σ H Q
structure XTM(K:aD)(X:Cx)(e:Expr)(t:TT)(g:GB):Prop where
 hk:X.K=K
 pt:PT X e t
 ev:aFW K t g
structure XWM(K:aD)(X:Cx)(e:Expr)(t:TT)(g:GB):Prop where
 hk:X.K=K
 pw:PW X e t
 ev:aFW K t g
abbrev FA2:=DE→DE→Option (List D)
def aFX(K:aD)(t:TA)(fs:FA2):Prop:=∀(A1:Fp)(σ:St)(H:Hp)(eF eZ:DE)(ds:List D)(Q:List V→Hp→Prop),(∀x,A1 x→nM H x)→yV K H eF σ→yV K (out H A1) eZ σ→fs eF eZ=some ds →
 (∀vs H',aU H H'→eE K (out H' A1) ds vs→Q vs H')→t σ H Q
structure XAB(K:aD)(X:Cx)(es:List Expr)(t:TA)(fs:FA2):Prop where
 hk:X.K=K
 pa:PA X es t
 ev:aFX K t fs
section
variable{K:aD}{X:Cx}{st:Stmt}{sts:List Stmt}{t u tb:TS}{g:GM}{g1 g2:GS}{e a b c o:Expr}{es rest:List Expr}{te ta t0 tv:TE}{f f0 fa fb:FE}{tA:TA}{fs:FA2}{tc td:TT}{fc:FT}{gb gc:GB}{pos apos:Pos}{i:Nat}{π:FP}
def jB:FA2:=λ_ _=>some []
def qN(f:FE)(fs:FA2):FA2:=λeF eZ=>(f eZ).bind λd=>(fs eF eZ).map λr=>d::r
def faN(f:FE)(fs:FA2):FA2:=λeF eZ=>(f eF).bind λd=>(fs eF eZ).map λr=>d::r
theorem jE(hk:X.K=K:=by rfl):XAB K X [] mJ jB:=⟨hk,kO,λA1 σ H eF eZ ds Q c re rz q k=>by
 cases q
 exact k [] H (aU.refl _) (by unfold eE;rfl)⟩
theorem dW(h:XR K X e te f)(hs:XAB K X es tA fs)(hst:starEach (e::es) X.env=(false,eval e X.env)::starEach es X.env:=by rfl):XAB K X (e::es) (fJ te tA) (qN f fs):=⟨h.hk,eO h.pe hs.pa hst,λA1 σ H eF eZ ds Q c re rz q k=>by
 obtain⟨d,q1,q2⟩:=aX q
 obtain⟨ds',q3,rfl⟩:=mF q2
 refine h.ev σ H (out H A1) eZ d _ (aD3 c) rz q1 λv H1 Z1 s1 t1 z1 rv=>?_
 refine hs.ev A1 σ H1 eF eZ ds' _ (λx q=>(c x q).same s1) (re.same s1) (rz.same (bU s1 λx q=>.inl q)) q3 λvs H2 s2 rvs=>?_
 refine k (v::vs) H2 (s1.trans s2) ?_
 unfold eE
 exact⟨v,vs,rfl,((aFV z1).trans (bU s2 λx q=>.inl q)).rv _ _ rv,rvs⟩⟩
theorem Xw(h:XN K X e te f)(hs:XAB K X es tA fs)(hst:starEach (e::es) X.env=(false,eval e X.env)::starEach es X.env:=by rfl):XAB K X (e::es) (fJ te tA) (faN f fs):=⟨h.hk,eO h.pe hs.pa hst,λA1 σ H eF eZ ds Q c re rz q k=>by
 obtain⟨d,q1,q2⟩:=aX q
 obtain⟨ds',q3,rfl⟩:=mF q2
 refine h.ev σ H eF d _ re q1 λv H1 s1 n=>?_
 have c1:∀x,A1 x→nM H1 x:=λx q=>(c x q).same s1
 refine hs.ev A1 σ H1 eF eZ ds' _ c1 (re.same s1) (rz.same (bU s1 λx q=>.inl q)) q3 λvs H2 s2 rvs=>?_
 refine k (v::vs) H2 (s1.trans s2) ?_
 obtain⟨N,o,fr⟩:=n
 unfold eE
 refine⟨v,vs,rfl,(bU s2 λx q=>.inl q:aU (out H1 A1) (out H2 A1)).rv _ _ (o.out (λx z1 z2=>?_) λx q=>(c1 x q).2),rvs⟩
 obtain⟨⟨u,eu⟩,_⟩:=c x z2
 rw[fr x z1]at eu;cases eu⟩
structure cI(P:Program)(w:World)(K:aD)(mg:Str→Option Value)(base:Heap)(C:Addr)(m:Str)(k n:Nat)(df:Bool)(sp:Sp):Prop where
 ex:∃f fd ps,ps.length=n∧sZ P w K mg base Wg k f fd ps sp∧Binds K fd ps []∧(df=true→Binds K fd ps [Value.none])∧Meth K C m f
theorem yH{nm:List Str}{xs:List V}{m:Str}(h:nm.length=xs.length)(n:m∉nm):(nm.zip xs).lookup m=none:=by
 rw[Ab h,Ej.mpr n]
 rfl
def oU(C:Addr)(m:Str)(i:Nat)(π:FP)(F:List D→Option (D×D))(fs:FA2):GM:=λenv=>match env[i]?.bind SD.hold,π (rE env),fs (rE env) (rE (env.set i .no))with
 | some (d0,back),some p,some es=>(match fD p d0 with
  | some (.ins C' nm ds)=>if C'=C∧m∉nm then(F (.ins C' nm ds::es)).map λrd=>(rd.1,env.set i (back (eN p d0 rd.2)))else none
  | _=>none)
 | _,_,_=>none
theorem QH{C:Addr}{m:Str}{n:Nat}{F:List D→Option (D×D)}{vV:List V}{BW:List D}(hF:∀d es p,F (d::es)=some p→es.length+1=n)(hd:∀H,eE K H BW vV)(ho:EvP K ta i π)(ha:aFX K tA fs):EvM K (vY C m (spS K n F) vV E0 ta tA) (oU C m i π F (λeF eZ=>(fs eF eZ).map (·++BW))):=λB σ H env d env' Q r q k=>by
 unfold oU at q
 split at q
 ·rename_i d0 back p es' q1 q2 q3
  obtain⟨es,q3a,rfl⟩:=mF q3
  split at q
  ·rename_i C' nm ds q4
   split at q
   ·rename_i hc
    obtain⟨rfl,hm⟩:=hc
    obtain⟨⟨r1,d1⟩,q5,q6⟩:=mF q
    cases q6
    obtain⟨v0,w0,A1,k1,k2,k3,k4,k5⟩:=Xv (E:=E0) (Q:=Q) r q1 q4 (hF _ _ _ q5) q5 k
    have c1:=Ow.cells _ _ _ k3
    have k3':=k3
    unfold Ow at k3
    obtain⟨a,dx,xs,Bs,rfl,o2,o2',o3,_⟩:=k3
    refine ho σ H (rE env) v0 p _ _ r.r k1 q2 k2 λH1 s1=>⟨a,dx,_,rfl,s1 _ _ o2,yH o3 hm,?_⟩
    refine ha A1 σ H1 (rE env) (rE (env.set i .no)) es _ (λx q=>(c1 x q).same s1) (r.r.same s1) (k4.same (bU s1 λx q=>.inl q)) q3a λvs H2 s2 rvs=>?_
    exact k5 H2 (vs++vV) (s1.trans s2) (rvs.append (hd _))
   ·cases q
  ·cases q
 ·cases q
theorem uM{C:Addr}{m:Str}{k n:Nat}{df:Bool}{F:List D→Option (D×D)}{Xr:List Str}{pl:Sem Bool}(Cm:cI X.prog X.w X.K X.mg X.base C m k n df (spS K n F))(Fc:gB K C Xr)(hF:∀d es p,F (d::es)=some p→es.length+1=n)(hr:gD k X.A)(ho:XP K X o ta i π)(ha:XAB K X (e::es) tA fs)
  (hst:starEach (e::es) X.env=(false,eval e X.env)::starEach es X.env:=by rfl) (hpl:(backTo pos (starEach es X.env)).any (·.1)=false:=by rfl)
  (ht:eval (.Call (.Attribute o m apos) (e::es) [] pos) X.env=(do
   let ov ←eval o X.env
   standAt apos.atName
   let (f,first) ←holding [ov] (getMethod ov m pl)
   callWith pos f first (backTo pos (starEach (e::es) X.env)) (backToKw pos (keywordEach [] X.env))):=by rfl):XM K X (.Call (.Attribute o m apos) (e::es) [] pos) (vY C m (spS K n F) [] E0 ta tA) (oU C m i π F (λeF eZ=>(fs eF eZ).map (·++[]))):=by
 have hk:=ho.hk
 subst hk
 obtain⟨f,fd,ps,_,Fo,hb,_,hm⟩:=Cm.ex
 exact⟨rfl,Tp (pl:=pl) ho.pe Fc.cl hm Fo hr hb .nil Qm ha.pa hst hpl ht,QH hF (λH=>by unfold eE;rfl) ho.ev ha.ev⟩
theorem Kv{C:Addr}{m:Str}{k n:Nat}{F:List D→Option (D×D)}{Xr:List Str}{pl:Sem Bool}(Cm:cI X.prog X.w X.K X.mg X.base C m k n true (spS K n F))(Fc:gB K C Xr)(hF:∀d es p,F (d::es)=some p→es.length+1=n)(hr:gD k X.A)(ho:XP K X o ta i π)(ha:XAB K X (e::es) tA fs)
  (hst:starEach (e::es) X.env=(false,eval e X.env)::starEach es X.env:=by rfl) (hpl:(backTo pos (starEach es X.env)).any (·.1)=false:=by rfl)
  (ht:eval (.Call (.Attribute o m apos) (e::es) [] pos) X.env=(do
   let ov ←eval o X.env
   standAt apos.atName
   let (f,first) ←holding [ov] (getMethod ov m pl)
   callWith pos f first (backTo pos (starEach (e::es) X.env)) (backToKw pos (keywordEach [] X.env))):=by rfl):XM K X (.Call (.Attribute o m apos) (e::es) [] pos) (vY C m (spS K n F) [.non] E0 ta tA) (oU C m i π F (λeF eZ=>(fs eF eZ).map (·++[.non]))):=by
 have hk:=ho.hk
 subst hk
 obtain⟨f,fd,ps,_,Fo,_,hb,hm⟩:=Cm.ex
 exact⟨rfl,Tp (pl:=pl) ho.pe Fc.cl hm Fo hr (hb rfl) (.cons rfl .nil) Qm ha.pa hst hpl ht,QH hF (λH=>by unfold eE;exact⟨_,_,rfl,by unfold Rv;rfl,by unfold eE;rfl⟩) ho.ev ha.ev⟩
def Oh(i:Nat)(F:List D→Option (D×D))(fs:FA2):GM:=λenv=>match env[i]?.bind SD.hold,fs (rE env) (rE (env.set i .no))with
 | some (d0,back),some es=>(F (d0::es)).map λrd=>(rd.1,env.set i (back rd.2))
 | _,_=>none
theorem Up{x y:Str}{k n:Nat}{F:List D→Option (D×D)}{pf py:Pos}(C:sW X.prog X.w X.K X.mg X.base x k n (spS K n F))(hF:∀d es p,F (d::es)=some p→es.length+1=n)(hr:gD k X.A)(hg:Gl X x)(hv:PE X (.Name y py) (pN i))(ha:XAB K X es tA fs)(hdb:(x==("__debug__" : Str))=false:=by decide)
  (he:starEach (.Name y py::es) X.env=(false,eval (.Name y py) X.env)::starEach es X.env:=by rfl) (hpl:(backTo pos (starEach es X.env)).any (·.1)=false:=by rfl):XM K X (.Call (.Name x pf) (.Name y py::es) [] pos) (Qc (spS K n F) [] E0 (fJ (pN i) tA)) (Oh i F fs):=⟨ha.hk,jc C hr hg (eO hv ha.pa he) hdb he hpl,λB σ H env d env' Q r q k=>by
 unfold Oh at q
 split at q
 ·rename_i d0 back es' q1 q3
  obtain⟨⟨r1,d1⟩,q5,q6⟩:=mF q
  cases q6
  obtain⟨v0,w0,A1,k1,k2,k3,k4,k5⟩:=Xv (E:=E0) (Q:=Q) (p:=[]) r q1 rfl (hF _ _ _ q5) q5 k
  have c1:=Ow.cells _ _ _ k3
  cases k2
  refine⟨v0,k1,ha.ev A1 σ H (rE env) (rE (env.set i .no)) es' _ c1 r.r k4 q3 λvs H2 s2 rvs=>?_⟩
  show spS K n F ((v0::vs)++[]) H2 Q E0
  rw[G0]
  exact k5 H2 vs s2 rvs
 ·cases q⟩
def bZ(C:Addr)(m:Str)(n:Nat)(F:List D→Option D)(fo:FE)(fs:FA)(BW:List D):FE:=λe=>(fo e).bind λd0=>match d0 with
 | .ins C' nm ds=>if C'=C∧m∉nm then(fs e).bind λes=>if es.length+BW.length+1=n then F (.ins C' nm ds::(es++BW))else none else none
 | _=>none
theorem QJ{fsA:FA}{C:Addr}{m:Str}{n:Nat}{F:List D→Option D}{vV:List V}{BW:List D}(hd:∀H,eE K H BW vV)(ho:Ea K ta f)(ha:EvA K tA fsA):Nv K (vY C m (gP K n F) vV E0 ta tA) (bZ C m n F f fsA BW):=λσ H e d Q re q k=>by
 obtain⟨d0,q1,q2⟩:=aX q
 split at q2
 ·rename_i C' nm ds
  split at q2
  ·rename_i hc
   obtain⟨rfl,hm⟩:=hc
   obtain⟨es,q3,q4⟩:=aX q2
   split at q4
   ·rename_i hl
    refine ho σ H H e _ _ (Zn.self K H) re q1 λv H1 Z1 s1 t1 z1 rv=>?_
    have rv1:=z1.sm.rv _ _ rv
    have aHr:=rv1
    unfold Rv at rv1
    obtain⟨a,dx,xs,rfl,h1,h2,h3⟩:=rv1
    refine⟨a,dx,_,rfl,h1,yH h2 hm,?_⟩
    refine ha σ H1 H1 e es _ (Zn.self K H1) (re.same s1) q3 λvs H2 Z2 s2 t2 z2 rvs=>?_
    refine⟨_::(es++BW),d,by rw[E9,D4];omega,?_,q4,λw H3 s3 nw=>k w H3 (s1.trans (s2.trans s3)) (nw.back (s1.trans s2))⟩
    unfold eE
    exact⟨_,_,rfl,s2.rv _ _ aHr,(z2.sm.NB _ _ rvs).append (hd _)⟩
   ·cases q4
  ·cases q2
 ·cases q2
theorem dM{fsA:FA}{C:Addr}{m:Str}{k n:Nat}{df:Bool}{F:List D→Option D}{Xr:List Str}{pl:Sem Bool}(Cm:cI X.prog X.w X.K X.mg X.base C m k n df (gP K n F))(Fc:gB K C Xr)(hr:gD k X.A)(ho:XR K X o ta f)(ha:XA K X (e::es) tA fsA)
  (hst:starEach (e::es) X.env=(false,eval e X.env)::starEach es X.env:=by rfl) (hpl:(backTo pos (starEach es X.env)).any (·.1)=false:=by rfl)
  (ht:eval (.Call (.Attribute o m apos) (e::es) [] pos) X.env=(do
   let ov ←eval o X.env
   standAt apos.atName
   let (f,first) ←holding [ov] (getMethod ov m pl)
   callWith pos f first (backTo pos (starEach (e::es) X.env)) (backToKw pos (keywordEach [] X.env))):=by rfl):XN K X (.Call (.Attribute o m apos) (e::es) [] pos) (vY C m (gP K n F) [] E0 ta tA) (bZ C m n F f fsA []):=by
 have hk:=ho.hk
 subst hk
 obtain⟨f,fd,ps,_,Fo,hb,_,hm⟩:=Cm.ex
 exact⟨rfl,Tp (pl:=pl) ho.pe Fc.cl hm Fo hr hb .nil Qm ha.pa hst hpl ht,QJ (λH=>by unfold eE;rfl) ho.ev ha.ev⟩
theorem jN{C:Addr}{m:Str}{k n:Nat}{df:Bool}{F:List D→Option D}{Xr:List Str}{pl:Sem Bool}(Cm:cI X.prog X.w X.K X.mg X.base C m k n df (gP K n F))(Fc:gB K C Xr)(hr:gD k X.A)(ho:XR K X o ta f)
  (ht:eval (.Call (.Attribute o m apos) [] [] pos) X.env=(do
   let ov ←eval o X.env
   standAt apos.atName
   let (f,first) ←holding [ov] (getMethod ov m pl)
   callWith pos f first (backTo pos (starEach [] X.env)) (backToKw pos (keywordEach [] X.env))):=by rfl):XN K X (.Call (.Attribute o m apos) [] [] pos) (vY C m (gP K n F) [] E0 ta mJ) (bZ C m n F f aK []):=by
 have hk:=ho.hk
 subst hk
 obtain⟨f,fd,ps,_,Fo,hb,_,hm⟩:=Cm.ex
 exact⟨rfl,du (pl:=pl) ho.pe Fc.cl hm Fo hr hb .nil Qm ht,QJ (λH=>by unfold eE;rfl) ho.ev je⟩
structure XH(P:Program)(w:World)(K:aD)(mg:Str→Option Value)(base:Heap)(x:Str)(C:Addr)(k n:Nat)(sp:Sp):Prop where
 ex:∃f fd ps,ps.length=n∧sZ P w K mg base Wg k f fd ps sp∧Binds K fd ps []∧Mk K C f∧mg x=some (.ref C)
def Xx(C:Addr)(F:List D→Option (D×D))(fs:FA):FE:=λe=>(fs e).bind λes=>match F (.ins C [] []::es)with
 | some (.non,d')=>some d'
 | _=>none
theorem QK{fsA:FA}{x:Str}{C:Addr}{k n:Nat}{F:List D→Option (D×D)}{p:Pos}(Ci:XH X.prog X.w X.K X.mg X.base x C k n (spS K n F))(hF:∀d es p,F (d::es)=some p→es.length+1=n)(hr:gD (k+1) X.A)(hg:Gl X x)(ha:XA K X (e::es) tA fsA)(hdb:(x==("__debug__" : Str))=false:=by decide)
  (he:starEach (e::es) X.env=(false,eval e X.env)::starEach es X.env:=by rfl) (hpl:(backTo pos (starEach es X.env)).any (·.1)=false:=by rfl):XN K X (.Call (.Name x p) (e::es) [] pos) (aCa C (spS K n F) [] E0 tA) (Xx C F fsA):=by
 have hk:=ha.hk
 subst hk
 obtain⟨f,fd,ps,_,Fo,hb,M,hm⟩:=Ci.ex
 refine⟨rfl,aAC M Fo hr hg hm hb .nil Qm ha.pa hdb he hpl,λσ H e d Q re q k=>?_⟩
 obtain⟨es,q1,q2⟩:=aX q
 split at q2
 ·rename_i d' q3
  cases q2
  refine ha.ev σ H H e es _ (Zn.self _ H) re q1 λvs H1 Z1 s1 t1 z1 rvs=>λx dx nx ndx ne=>?_
  have s0:aU H1 (upd (upd H1 dx (.own x)) x (.ins C dx [])):=λb o eb=>by
   rw[bL (fX eb nx),bL (fX eb ndx)]
   exact eb
  have so:aU H1 (out (upd (upd H1 dx (.own x)) x (.ins C dx [])) (λy=>y=x∨y=dx)):=λb o eb=>bD.mpr ⟨λz=>z.elim (fX eb nx) (fX eb ndx),s0 b o eb⟩
  refine⟨.ins C [] [],es,.ref x,vs++[],(λy=>y=x∨y=dx),.non,_,rfl,hF _ _ _ q3,?_,?_,q3,λw H2 A' A2 o1 o2 ap sm=>⟨?_,k (.ref x) H2 (λb o eb=>?_) ⟨A',o1,λb hb=>?_⟩⟩⟩
  ·unfold Ow
   refine⟨x,dx,[],nil,rfl,bW,by rw[bL ne,bW],rfl,λz=>z,λz=>z,λy=>⟨.inl,λz=>z.elim id False.elim⟩,?_⟩
   unfold eY
   exact⟨λ_ z=>z,rfl⟩
  ·rw[G0]
   exact(z1.sm.trans so).NB _ _ rvs
  ·have:=Ow.rv _ _ _ o2
   unfold Rv at this
   exact this
  ·exact(bD.mp (sm b o ((s1.trans so) b o eb))).2
  ·cases eb:H b with
   | none=>rfl
   | some o=>exact absurd (.inl hb) (bD.mp (sm b o ((s1.trans so) b o eb))).1
 ·cases q2
theorem aHs(h:XN K X e te f):XM K X e te (λenv=>(f (rE env)).map λd=>(d,env)):=⟨h.hk,h.pe,λB σ H env d env' Q r q k=>by
 obtain⟨d0,q1,q2⟩:=mF q
 cases q2
 exact h.ev σ H (rE env) d Q r.r q1 λv H' s n=>k v H' (r.snoc s n)⟩
def gbV(g:GM):GB:=λenv=>(g env).bind λde=>match de.1 with
 | .bl b=>some (b,de.2)
 | _=>none
def gbT(f:FT):GB:=λenv=>(f (rE env)).map λb=>(b,env)
theorem aCz(h:XT K X e tc fc):XTM K X e tc (gbT fc):=⟨h.hk,h.pt,λB σ H env b env' Q r q k=>by
 obtain⟨b0,q1,q2⟩:=mF q
 cases q2
 exact h.ev σ H (rE env) b Q r.r q1 λH' s=>k H' (r.same s)⟩
def aIf(g:GB):GB:=λenv=>(g env).map λbe=>(!be.1,be.2)
theorem XWM.xt(h:XWM K X e tc gb):XTM K X e tc gb:=⟨h.hk,h.pw.pt,h.ev⟩
theorem QL(h:XTM K X a tc gb):XWM K X (.BoolOp .Or [a] pos) tc gb:=⟨h.hk,ak h.pt,h.ev⟩
def aIg(g h:GB):GB:=λenv=>(g env).bind λbe=>if be.1=true then h be.2 else some (false,be.2)
def ni(g h:GB):GB:=λenv=>(g env).bind λbe=>if be.1=true then some (true,be.2)else h be.2
theorem nj(h:XTM K X a tc gb)(h2:XWM K X (.BoolOp .Or (b::rest) pos) td gc):XWM K X (.BoolOp .Or (a::b::rest) pos) (tOr tc td) (ni gb gc):=⟨h.hk,aB5 h.pt h2.pw,λB σ H env b env' Q r q k=>by
 obtain⟨⟨b0,e0⟩,q1,q2⟩:=aX q
 dsimp only at q2
 refine h.ev B σ H env b0 e0 _ r q1 λH' r'=>?_
 cases b0 with
 | true=>
  rw[if_pos rfl]at q2
  cases q2
  exact k H' r'
 | false=>exact h2.ev B σ H' e0 b env' _ r' q2 k⟩
def Kw(φ:D→D→Option D)(g:GM)(f:FE):GM:=λenv=>(g env).bind λde=>(f (rE de.2)).bind λd2=>(φ de.1 d2).bind λr=>if r.iI=true then some (r,de.2)else none
theorem aCA{r:R2}{φ:D→D→Option D}(hd:Xd K r φ)(ha:EvM K ta g)(hb:Ea K te f):EvM K (Pz r ta te) (Kw φ g f):=λB σ H env d env' Q rr q k=>by
 obtain⟨⟨d1,e1⟩,q1,q2⟩:=aX q
 obtain⟨d2,q3,q4⟩:=aX q2
 obtain⟨d3,q5,q6⟩:=aX q4
 split at q6
 ·rename_i im
  cases q6
  refine ha B σ H env d1 _ _ rr q1 λx H1 r1=>?_
  have p1:=r1.pop
  refine hb σ H1 H1 _ d2 _ (Zn.self K H1) p1.r q3 λy H2 Z2 s2 t2 z2 ry=>?_
  refine hd x y H2 d1 d2 _ _ (s2.rv _ _ r1.mq) (z2.sm.rv _ _ ry) q5 λv H3 s3 n=>k v H3 ?_
  exact(p1.same s2).snoc s3 n
 ·cases q6
theorem aD5{op:CmpOp}{r:R2}{φ:D→D→Option D}(ho:sY X (compareOp op) r)(hd:Xd K r φ)(ha:XM K X a ta g)(hb:XR K X b te f)(hm:behindInMarks op b=false):XM K X (.Compare a [op] [b] pos) (Pz r ta te) (Kw φ g f):=⟨ha.hk,aAx ho ha.pe hb.pe hm,aCA hd ha.ev hb.ev⟩
theorem Uq{op:CmpOp}{r:R2}{φ:D→D→Option D}(ho:sY X (compareOp op) r)(hd:Xd K r φ)(ha:XM K X a ta g)(hb:XR K X b te f)(hm:behindInMarks op b=false):XTM K X (.Compare a [op] [b] pos) (Qa (Pz r ta te)) (gbV (Kw φ g f)):=⟨ha.hk,KZ ho ha.pe hb.pe hm,λB σ H env b env' Q rr q k=>by
 obtain⟨⟨d,e1⟩,q1,q2⟩:=aX q
 dsimp only at q2
 split at q2
 ·rename_i b'
  cases q2
  refine aCA hd ha.ev hb.ev B σ H env _ _ _ rr q1 λv H' r'=>?_
  have:=r'.mq
  unfold Rv at this
  exact⟨b,this,k H' r'.pop⟩
 ·cases q2⟩
def By(i:Nat)(g:GM):GS:=λenv=>match g env with
 | some (d,env')=>if i<env'.length then .next (env'.set i (.own d))else .bad
 | none=>.bad
theorem Ih{x:Str}{pos':Pos}(h:XM K X e te g)(hp:PE X e te→PS X (.Assign [.Name x pos'] e pos) (sX te (fY i))):YS K X (.Assign [.Name x pos'] e pos) (sX te (fY i)) (By i g):=⟨hp h.pe,λB E σ H env r p=>by
 unfold By at p
 split at p
 ·rename_i d env' q
  split at p
  ·rename_i hi
   exact h.ev B σ H env d env' _ r q λv H' r'=>p _ _ (r'.move hi)
  ·exact p.elim
 ·exact p.elim⟩
def sG(g:GM):GS:=λenv=>match g env with
 | some (_,env')=>.next env'
 | none=>.bad
theorem Ca(h:XM K X e te g)(hs:swapsWith e none pos.line X.env=pure false:=by rfl):YS K X (.Expr e pos) (lU te) (sG g):=⟨mG h.pe hs,λB E σ H env r p=>by
 unfold sG at p
 split at p
 ·rename_i d env' q
  exact h.ev B σ H env d env' _ r q λv H' r'=>p _ _ r'.pop
 ·exact p.elim⟩
def Gp(g:GM):GS:=λenv=>match g env with
 | some (d,env')=>.rete d env'
 | none=>.bad
theorem Ur(h:XM K X e te g):YS K X (.Return (some e) pos) (SQ te) (Gp g):=⟨Je h.pe,λB E σ H env r p=>by
 unfold Gp at p
 split at p
 ·rename_i d env' q
  exact h.ev B σ H env d env' _ r q λv H' r'=>p v σ H' r'
 ·exact p.elim⟩
def Ky(g:GM):GS:=λenv=>match g env with
 | some (d,_)=>.ret d
 | none=>.bad
theorem nq(h:XM K X e te g):YS K X (.Return (some e) pos) (SQ te) (Ky g):=⟨Je h.pe,λB E σ H env r p=>by
 unfold Ky at p
 split at p
 ·rename_i d env' q
  refine h.ev B σ H env d env' _ r q λv H' r'=>?_
  obtain⟨A,a1,a2⟩:=r'.aD1
  exact p v H' A a1 a2
 ·exact p.elim⟩
def lO(i:Nat):GS:=λenv=>match env[i]? with
 | some (.own d)=>.rete d (env.set i .no)
 | some (.fro d)=>if d.iI=true then .rete d env else .bad
 | _=>.bad
theorem tU(h:PE X e (pN i)):YS K X (.Return (some e) pos) (SQ (pN i)) (lO i):=⟨Je h,λB E σ H env r p=>by
 unfold lO at p
 split at p
 ·rename_i d q
  obtain⟨v,hv,r'⟩:=r.give q
  exact⟨v,hv,p v σ H r'⟩
 ·rename_i d q
  split at p
  ·rename_i im
   obtain⟨v,hv,rv⟩:=r.r i d (by unfold rE;rw[C5,q];rfl)
   exact⟨v,hv,p v σ H (r.snoc (aU.refl _) (.iI im rv))⟩
  ·exact p.elim
 ·exact p.elim⟩
def Xy(g:GB)(g1 g2:GS):GS:=λenv=>match g env with
 | some (true,env')=>g1 env'
 | some (false,env')=>g2 env'
 | none=>.bad
theorem HJ{s1 s2:List Stmt}(hc:XTM K X c tc gb)(h1:YB K X s1 t g1)(h2:YB K X s2 u g2):YS K X (.If c s1 s2 pos) (aAs tc t u) (Xy gb g1 g2):=⟨aq hc.pt h1.ps h2.ps,λB E σ H env r p=>by
 unfold Xy at p
 split at p
 ·rename_i env' q
  exact hc.ev B σ H env true env' _ r q λH' r'=>by
   rw[if_pos rfl]
   exact h1.ev B E σ H' env' r' p
 ·rename_i env' q
  exact hc.ev B σ H env false env' _ r q λH' r'=>by
   rw[if_neg (by decide)]
   exact h2.ev B E σ H' env' r' p
 ·exact p.elim⟩
end
end L2


namespace L2
open PySem PySem.Spec PySem.Calls PyProof.Rows PyProof.V
def aFZ(K:aD)(dN:Bool)(dV:Value):Prop:=match dN with
 | false=>dV=.none
 | true=>∃T o n,dV=.ref T∧K.lookup T=some o∧o.data=.seq #[.none] n
structure Us(K:aD)(f:Addr)(m q:Str)(st:Stmt)(dN:Bool):Prop where
 ex:∃(oc:Value)(od:Option Addr)(dV kV doc pm:Value)(an:Option Addr)(cdv ct:Value)(osl:Array (Option Value)),
  K.lookup f=some ⟨oc,od,.func (F3 m q (dJ st) (bR st) (aJ st) dV kV doc pm an cdv ct),osl⟩∧J9 K cdv q=true∧aFZ K dN dV
structure dR(K:aD)(C:Addr)(m q:Str)(st:Stmt)(dN:Bool):Prop where
 ex:∃f,Us K f m q st dN∧Meth K C m f
structure Xz(K:aD)(mg:Str→Option Value)(x:Str)(C:Addr)(q:Str)(st:Stmt):Prop where
 ex:∃f,Us K f "__init__" q st false∧Mk K C f∧mg x=some (.ref C)
def HB(x q:Str)(st:Stmt)(ps:List Str):Prop:=∀(kV doc pm:Value)(an:Option Addr)(cdv ct:Value)(us:List Value),us.length=ps.length→bindArgs (F3 x q (dJ st) (bR st) (aJ st) .none kV doc pm an cdv ct) ⟨us,[]⟩=pure (ps.zip us)
def HBD(x q:Str)(st:Stmt)(ps:List Str):Prop:=∀(T:Addr)(kV doc pm:Value)(an:Option Addr)(cdv ct:Value)(us:List Value),(us.length=ps.length→∃k,bindArgs (F3 x q (dJ st) (bR st) (aJ st) (.ref T) kV doc pm an cdv ct) ⟨us,[]⟩=seqItems? (Value.ref T) >>= k∧k (some #[Value.none])=pure (ps.zip us)) ∧
 (us.length+1=ps.length→∃k,bindArgs (F3 x q (dJ st) (bR st) (aJ st) (.ref T) kV doc pm an cdv ct) ⟨us,[]⟩=seqItems? (Value.ref T) >>= k∧k (some #[Value.none])=pure (ps.zip (us++[Value.none])))
def HBs(dN:Bool)(x q:Str)(st:Stmt)(ps:List Str):Prop:=match dN with
 | false=>HB x q st ps
 | true=>HBD x q st ps
section
variable{P:Program}{w:World}{K:aD}{mg:Str→Option Value}{base:Heap}
theorem Us.binds{f:Addr}{m q:Str}{st:Stmt}{dN:Bool}{ps:List Str}{oc:Value}{od:Option Addr}{dV kV doc pm:Value}{an:Option Addr}{cdv ct:Value}(hd:aFZ K dN dV)(h:HBs dN m q st ps) :
  Binds K (F3 m q (dJ st) (bR st) (aJ st) dV kV doc pm an cdv ct) ps []∧(dN=true→Binds K (F3 m q (dJ st) (bR st) (aJ st) dV kV doc pm an cdv ct) ps [Value.none]):=by
 cases dN with
 | false=>
  cases hd
  exact⟨.all (h kV doc pm an cdv ct),λz=>by cases z⟩
 | true=>
  obtain⟨T,o,n,rfl,h1,h2⟩:=hd
  refine⟨λs us ZX hl=>?_,λ_ s us ZX hl=>?_⟩
  ·rw[G0]at hl ⊢
   obtain⟨k,e1,e2⟩:=(h T kV doc pm an cdv ct us).1 hl
   exact .of_defaults rfl (ZX _ _ h1) h2 e1 e2
  ·rw[D4]at hl
   obtain⟨k,e1,e2⟩:=(h T kV doc pm an cdv ct us).2 hl
   exact .of_defaults rfl (ZX _ _ h1) h2 e1 e2
abbrev XQ(n m:Nat)(d:D)(es:List D)(v:V):EN:=.inn v d::(es.map SD.fro++E7 (n-m) SD.no)
def Yb(r d':D)(v:V)(o:SR):Prop:=∃env',(o=.rete r env'∨(o=.next env'∧r=.non))∧env'[0]?=some (.inn v d')
open Classical in
noncomputable def lW(n m:Nat)(g:GS):List D→Option (D×D)
 | d::es=>if h:∃p:D×D,es.length+1=m∧∀v,Yb p.1 p.2 v (g (XQ n m d es v))then some h.choose else none
 | _=>none
theorem nu{r d' r2 d2:D}{v:V}{o:SR}(h1:Yb r d' v o)(h2:Yb r2 d2 v o):r=r2∧d'=d2:=by
  obtain⟨e1,a1,a2⟩:=h1
  obtain⟨e2,b1,b2⟩:=h2
  rcases a1 with a1 | ⟨a1,rfl⟩
  · rcases b1 with b1 | ⟨b1,rfl⟩
    · rw[a1]at b1
      injection b1 with c1 c2
      subst c2
      rw[a2]at b2
      injection b2 with b2
      injection b2 with _ b2
      exact⟨c1,b2⟩
    · rw[a1]at b1;cases b1
  · rcases b1 with b1 | ⟨b1,rfl⟩
    · rw[a1]at b1;cases b1
    · rw[a1]at b1
      injection b1 with c2
      subst c2
      rw[a2]at b2
      injection b2 with b2
      injection b2 with _ b2
      exact⟨rfl,b2⟩
theorem oh{n m:Nat}{g:GS}{d r d':D}{es:List D}(hl:es.length+1=m)(h:∀v,Yb r d' v (g (XQ n m d es v))):lW n m g (d::es)=some (r,d'):=by
 have ex:∃p:D×D,es.length+1=m∧∀v,Yb p.1 p.2 v (g (XQ n m d es v)):=⟨(r,d'),hl,h⟩
 unfold lW
 dsimp only
 rw[dif_pos ex]
 obtain⟨e1,e2⟩:=nu (ex.choose_spec.2 .non) (h .non)
 exact congrArg some (l3 e1 e2)
theorem Yc{n m:Nat}{g:GS}{d r d':D}{es:List D}(h:lW n m g (d::es)=some (r,d'))(v:V):es.length+1=m∧Yb r d' v (g (XQ n m d es v)):=by
 unfold lW at h
 dsimp only at h
 split at h
 ·rename_i ex
  have:=ex.choose_spec
  rw[F0 h]at this
  exact⟨this.1,this.2 v⟩
 ·cases h
theorem dF{n m:Nat}{g:GS}(d:D)(es:List D)(p:D×D)(h:lW n m g (d::es)=some p):es.length+1=m:=(Yc (r:=p.1) (d':=p.2) h .non).1
theorem aCB{X:Cx}{N ps:List Str}{g:GS}{body:List Stmt}{t:TS}{vs:List V}{H:Hp}{Q:VK}{E:XK}(yb:YB K X body t g)(h:spS K ps.length (lW N.length ps.length g) vs H Q E):t {nx:=λ_ H'=>Q .non H',rt:=Q} (start N vs) H:=by
  obtain⟨d,es,v,ws,A1,r,d',rfl,hl,ho,hrs,hF,kk⟩:=h
  obtain⟨_,env',q1,q2⟩:=Yc hF v
  have hw:=hrs.length
  refine yb.ev (out H A1) _ _ H (XQ N.length ps.length d es v) ?_ ?_
  · have sa:=Km (K:=K) (H:=H) (k:=N.length-ps.length) hrs
    have e:start N (v::ws)=some v::(ws.map some++E7 (N.length-ps.length) none):=by
      unfold start
      rw[D2,E9,show N.length-(ws.length+1)=N.length-ps.length by omega]
      rfl
    rw[e]
    exact⟨A1,⟨_,_,A1,nil,rfl,λ_ _ z=>z,λx=>⟨.inl,λz=>z.elim id False.elim⟩,⟨rfl,ho⟩,sa⟩,aU.refl _⟩
  · rcases q1 with q1 | ⟨q1,rfl⟩
    · rw[q1]
      intro w σ' H' ⟨A2,a2,b2⟩
      obtain⟨A3,A4,k1,⟨w',ew,o⟩,k3,k4⟩:=a2.En
      cases ew
      obtain⟨y,A5,C,h1,h2,h3,h4,_⟩:=k1.focus q2
      exact kk w H' A5 A4 h4.2 o (λx z1 z2=>k3 x ((h3 x).mpr (.inl z1)) z2) (b2.trans (bU (aU.refl _) λx z=>.inl ((k4 x).mpr (z.elim (λz=>.inl ((h3 x).mpr (.inl z))) .inr))))
    · rw[q1]
      intro σ' H' ⟨A2,a2,b2⟩
      obtain⟨y,A5,C,h1,h2,h3,h4,_⟩:=a2.focus q2
      exact kk .non H' A5 nil h4.2 (by unfold Ow;exact⟨λ_ z=>z,rfl⟩) (λx z1 z2=>z2) (b2.trans (bU (aU.refl _) λx z=>.inl ((h3 x).mpr (.inl (z.elim id False.elim)))))
theorem aF1{ps:List Str}{F:List D→Option (D×D)}(vs:List V)(H:Hp)(Q:VK)(E:XK)(h:spS K ps.length F vs H Q E):vs.length=ps.length:=by
 obtain⟨d,es,v,ws,A,r,d',rfl,hl,_,rs,_⟩:=h
 have:=rs.length
 rw[E9]
 omega
theorem Raw.Yd{x:Str}{st:Stmt}{N ps:List Str}{k:Nat}{g:GS}(R:Raw K mg x st)(S:aZ N ps (aJ st))(hb:HB x x st ps)
  (hbody:∀(f:Addr)(cdv:Value)(A:Around)(outer:List Env)(s:Shared)(H:Hp)(E:XK),gD k (A.deeper (envOfC x (aJ st) s.heap.objs.size f cdv))→∃t,YB K (mD Wg P w K mg base N x (aJ st) f cdv A outer s H E).KH (bR st) t g):sW P w K mg base x (k+1) ps.length (spS K ps.length (lW N.length ps.length g)):=by
 refine R.cal S aF1 hb (λf cdv A outer s H vs Q E hr h=>?_)
 obtain⟨t,yb⟩:=hbody f cdv A outer s H E hr
 exact⟨t,yb.ps,aCB yb h⟩
theorem Us.okS{f:Addr}{m q:Str}{st:Stmt}{dN:Bool}{N ps:List Str}{k:Nat}{g:GS}(R:Us K f m q st dN)(S:aZ N ps (aJ st))(hb:HBs dN m q st ps)
  (hbody:∀(f:Addr)(cdv:Value)(A:Around)(outer:List Env)(s:Shared)(H:Hp)(E:XK),gD k (A.deeper (envOfC q (aJ st) s.heap.objs.size f cdv))→∃t,YB K (mD Wg P w K mg base N q (aJ st) f cdv A outer s H E).KH (bR st) t g) :
  ∃fd,sZ P w K mg base Wg (k+1) f fd ps (spS K ps.length (lW N.length ps.length g))∧Binds K fd ps []∧(dN=true→Binds K fd ps [Value.none]):=by
 obtain⟨oc,od,dV,kV,doc,pm,an,cdv,ct,osl,lk,hcd,hd⟩:=R.ex
 refine⟨_,LC lk hcd S aF1 λA outer s H vs Q E hr hsp=>?_,Us.binds (f:=f) (oc:=oc) (od:=od) hd hb⟩
 obtain⟨t,yb⟩:=hbody f cdv A outer s H E hr
 exact⟨t,yb.ps.KH,aCB yb hsp⟩
theorem dR.Yd{C:Addr}{m q:Str}{st:Stmt}{dN:Bool}{N ps:List Str}{k:Nat}{g:GS}(R:dR K C m q st dN)(S:aZ N ps (aJ st))(hb:HBs dN m q st ps)
  (hbody:∀(f:Addr)(cdv:Value)(A:Around)(outer:List Env)(s:Shared)(H:Hp)(E:XK),gD k (A.deeper (envOfC q (aJ st) s.heap.objs.size f cdv))→∃t,YB K (mD Wg P w K mg base N q (aJ st) f cdv A outer s H E).KH (bR st) t g):cI P w K mg base C m (k+1) ps.length dN (spS K ps.length (lW N.length ps.length g)):=by
 obtain⟨f,Rf,M⟩:=R.ex
 obtain⟨fd,F,b1,b2⟩:=Rf.okS (P:=P) (w:=w) (mg:=mg) (base:=base) S hb hbody
 exact⟨f,fd,ps,rfl,F,b1,b2,M⟩
theorem Xz.aF2{C:Addr}{x q:Str}{st:Stmt}{N ps:List Str}{k:Nat}{g:GS}(R:Xz K mg x C q st)(S:aZ N ps (aJ st))(hb:HB "__init__" q st ps)
  (hbody:∀(f:Addr)(cdv:Value)(A:Around)(outer:List Env)(s:Shared)(H:Hp)(E:XK),gD k (A.deeper (envOfC q (aJ st) s.heap.objs.size f cdv))→∃t,YB K (mD Wg P w K mg base N q (aJ st) f cdv A outer s H E).KH (bR st) t g):XH P w K mg base x C (k+1) ps.length (spS K ps.length (lW N.length ps.length g)):=by
 obtain⟨f,Rf,M,hm⟩:=R.ex
 obtain⟨fd,F,b1,b2⟩:=Rf.okS (P:=P) (w:=w) (mg:=mg) (base:=base) S hb hbody
 exact⟨f,fd,ps,rfl,F,b1,M,hm⟩
def jF(n m:Nat)(g:GS):List D→Option D:=λds=>if ds.length=m then(match g (ds.map SD.fro++E7 (n-m) SD.no)with
 | .ret d=>some d
 | .next _=>some .non
 | _=>none)else none
theorem aF3{X:Cx}{N ps:List Str}{g:GS}{body:List Stmt}{t:TS}{vs:List V}{H:Hp}{Q:VK}{E:XK}(yb:YB K X body t g)(h:gP K ps.length (jF N.length ps.length g) vs H Q E):t {nx:=λ_ H'=>Q .non H',rt:=Q} (start N vs) H:=by
 obtain⟨ds,d,h1,h2,h3,kk⟩:=h
 refine yb.ev H _ _ H (ds.map SD.fro++E7 (N.length-ps.length) SD.no) ?_ ?_
 ·have hl:vs.length=ps.length:=by rw[h2.length];exact h1
  have:=yD (k:=N.length-ps.length) h2
  unfold start
  rw[hl]
  exact this
 ·unfold jF at h3
  rw[if_pos h1]at h3
  cases q:g (ds.map SD.fro++E7 (N.length-ps.length) SD.no)with
  | ret d'=>
   rw[q]at h3
   cases h3
   refine λv H' A' s' o=>kk v H' (s'.trans (jK _ _)) ⟨A',o,λa qa=>?_⟩
   cases e:H a with
   | none=>rfl
   | some u=>exact absurd qa (bD.mp (s' a u e)).1
  | next env'=>
   rw[q]at h3
   cases h3
   intro σ' H' ⟨A,a,b⟩
   exact kk .non H' (b.trans (jK _ _)) (.iI rfl (by unfold Rv;rfl))
  | bad=>rw[q]at h3;cases h3
  | brk e=>rw[q]at h3;cases h3
  | cont e=>rw[q]at h3;cases h3
  | rete d e=>rw[q]at h3;cases h3
theorem dR.zA{C:Addr}{m q:Str}{st:Stmt}{dN:Bool}{N ps:List Str}{k:Nat}{g:GS}(R:dR K C m q st dN)(S:aZ N ps (aJ st))(hb:HBs dN m q st ps)
  (hbody:∀(f:Addr)(cdv:Value)(A:Around)(outer:List Env)(s:Shared)(H:Hp)(E:XK),gD k (A.deeper (envOfC q (aJ st) s.heap.objs.size f cdv))→∃t,YB K (mD Wg P w K mg base N q (aJ st) f cdv A outer s H E).KH (bR st) t g):cI P w K mg base C m (k+1) ps.length dN (gP K ps.length (jF N.length ps.length g)):=by
 obtain⟨f,Rf,M⟩:=R.ex
 obtain⟨oc,od,dV,kV,doc,pm,an,cdv,ct,osl,lk,hcd,hd⟩:=Rf.ex
 obtain⟨b1,b2⟩:=Us.binds (f:=f) (oc:=oc) (od:=od) (kV:=kV) (doc:=doc) (pm:=pm) (an:=an) (cdv:=cdv) (ct:=ct) hd hb
 refine⟨f,_,ps,rfl,LC lk hcd S (λvs H Q E h=>?_) λA outer s H vs Q E hr hsp=>?_,b1,b2,M⟩
 ·obtain⟨ds,d,h1,h2,_⟩:=h
  rw[h2.length];exact h1
 obtain⟨t,yb⟩:=hbody f cdv A outer s H E hr
 exact⟨t,yb.ps.KH,aF3 yb hsp⟩
theorem QM{f:Addr}{m q:Str}{st:Stmt}{oc:Value}{od an:Option Addr}{osl:Array (Option Value)}{kV doc pm cdv ct:Value}(l:K.lookup f=some ⟨oc,od,.func (F3 m q (dJ st) (bR st) (aJ st) .none kV doc pm an cdv ct),osl⟩)(c:J9 K cdv q=true):Us K f m q st false:=⟨⟨oc,od,.none,kV,doc,pm,an,cdv,ct,osl,l,c,rfl⟩⟩
theorem aBq{C f:Addr}{m q:Str}{st:Stmt}{oc:Value}{od an:Option Addr}{osl:Array (Option Value)}{kV doc pm cdv ct:Value}(a:F4 K (.ref C) m=some (some (.ref f)))(i:P4 K (.ref f)=true)(l:K.lookup f=some ⟨oc,od,.func (F3 m q (dJ st) (bR st) (aJ st) .none kV doc pm an cdv ct),osl⟩)(c:J9 K cdv q=true)(k:J6 K (.ref f)=true):dR K C m q st false:=⟨⟨f,QM l c,⟨a,i,k⟩⟩⟩
theorem ou{C f T:Addr}{m q:Str}{st:Stmt}{oc oc2:Value}{od an od2:Option Addr}{osl aHt:Array (Option Value)}{kV doc pm cdv ct:Value}{n:Nat}(a:F4 K (.ref C) m=some (some (.ref f)))(i:P4 K (.ref f)=true)(l:K.lookup f=some ⟨oc,od,.func (F3 m q (dJ st) (bR st) (aJ st) (.ref T) kV doc pm an cdv ct),osl⟩)(c:J9 K cdv q=true)(k:J6 K (.ref f)=true)(t:K.lookup T=some ⟨oc2,od2,.seq #[.none] n,aHt⟩):dR K C m q st true:=⟨⟨f,⟨⟨oc,od,.ref T,kV,doc,pm,an,cdv,ct,osl,l,c,T,_,n,rfl,t,rfl⟩⟩,⟨a,i,k⟩⟩⟩
theorem aBr{h:Heap}{x q:Str}{C f:Addr}{st:Stmt}{oc:Value}{od an:Option Addr}{osl:Array (Option Value)}{kV doc pm cdv ct:Value}(X:K.In h)(G:h.Ns mainGlobals mg)(aC:O0 K mainGlobals x=some (some (.ref C)))(a:F4 K (.ref C) "__init__" = some (some (.ref f))) (i:P4 K (.ref f)=true) (l:K.lookup f=some ⟨oc,od,.func (F3 "__init__" q (dJ st) (bR st) (aJ st) .none kV doc pm an cdv ct),osl⟩) (c:J9 K cdv q=true) (mk:T3 K C=true) (kc:J6 K (.ref C)=true):Xz K mg x C q st:=⟨⟨f,QM l c,⟨mk,a,i,kc⟩,P8 X G aC⟩⟩
end
section
variable{K:aD}{X:Cx}{st:Stmt}{g g1 g2 gb:GS}{e a b c o:Expr}{es rest:List Expr}{te ta tb tc t0 tv:TE}{f f0 fa fb fc:FE}{tA:TA}{fs:FA}{pos apos:Pos}{i j:Nat}{π:FP}{tbs:TS}
def XS(φ φ':D→D→Option D)(f g h:FE):FT:=λe=>(f e).bind λa=>(g e).bind λb=>(φ a b).bind λr=>match r with
  | .bl true=>(h e).bind λc=>(φ' b c).bind λr2=>match r2 with | .bl k=>some k | _=>none
  | .bl false=>some false
  | _=>none
theorem Kz{op op':CmpOp}{r r':R2}{φ φ':D→D→Option D}(ho:sY X (compareOp op) r)(ho':sY X (compareOp op') r')(hd:Xd K r φ)(hd':Xd K r' φ')(ha:XR K X a ta fa)(hb:XR K X b tb fb)(hc:XR K X c tc fc)(hm:lastMarks [op,op'] [b,c]=false:=by with_unfolding_all rfl):XT K X (.Compare a [op,op'] [b,c] pos) (Qa (cj r r' ta tb tc)) (XS φ φ' fa fb fc):=⟨ha.hk,cu ho ho' ha.pe hb.pe hc.pe hm,λσ H e k Q re q kk=>by
 obtain⟨d1,q1,q⟩:=aX q
 obtain⟨d2,q2,q⟩:=aX q
 obtain⟨d3,q3,q⟩:=aX q
 refine ha.ev σ H H e d1 _ (Zn.self K H) re q1 λx H1 Z1 s1 t1 z1 rx=>hb.ev σ H1 H1 e d2 _ (Zn.self K H1) (re.same s1) q2 λy H2 Z2 s2 t2 z2 ry=>?_
 refine hd x y H2 d1 d2 d3 _ (s2.rv _ _ (z1.sm.rv _ _ rx)) (z2.sm.rv _ _ ry) q3 λz H3 s3 n=>?_
 have rz:=n.rv
 split at q
 ·obtain⟨d4,q4,q⟩:=aX q
  obtain⟨d5,q5,q⟩:=aX q
  unfold Rv at rz
  refine⟨true,rz,?_⟩
  rw[if_pos rfl]
  refine hc.ev σ H3 H3 e d4 _ (Zn.self K H3) (re.same (s1.trans (s2.trans s3))) q4 λw H4 Z4 s4 t4 z4 Oa=>?_
  refine hd' y w H4 d2 d4 d5 _ ((s3.trans s4).rv _ _ (z2.sm.rv _ _ ry)) (z4.sm.rv _ _ Oa) q5 λv H5 s5 n5=>?_
  have r5:=n5.rv
  split at q
  ·cases q
   unfold Rv at r5
   exact⟨_,r5,kk H5 (s1.trans (s2.trans (s3.trans (s4.trans s5))))⟩
  ·cases q
 ·cases q
  unfold Rv at rz
  refine⟨false,rz,?_⟩
  rw[if_neg (by decide)]
  exact⟨_,rfl,kk H3 (s1.trans (s2.trans s3))⟩
 ·cases q⟩
open Classical in
noncomputable def vQ(j i:Nat)(g:GS)(v:V)(all:List D):List D→EN→SR
 | [],env=>if env[j]?=some (.inn v (.lst all))then .next env else .bad
 | x::xs,env=>if i<env.length∧env[j]?=some (.inn v (.lst all))then(match g (env.set i (.fro x))with
  | .next e=>vQ j i g v all xs e
  | .cont e=>vQ j i g v all xs e
  | _=>.bad)else .bad
open Classical in
noncomputable def Cd(j i:Nat)(g:GS):GS:=λenv=>match env[j]? with
 | some (.own (.lst xs))=>if h:(intsOf xs).isSome=true∧∃env':EN,env'[j]?=some (.own (.lst xs))∧∀v,vQ j i g v xs xs (env.set j (.inn v (.lst xs)))=.next (env'.set j (.inn v (.lst xs)))then .next h.2.choose else .bad
 | _=>.bad
theorem aBs{α:Type}{l m:List α}{j:Nat}{s:α}(h1:l.set j s=m.set j s)(h2:l[j]?=m[j]?):l=m:=by
 apply M6
 intro k
 by_cases c:j=k
 ·subst c;exact h2
 ·have:=congrArg (λx=>x[k]?) h1
  simp only[L3,if_neg c]at this
  exact this
theorem ph{env env':EN}{ns:List Int}(h:env[j]?=some (.own (.lst (ns.map D.int))))(h1:env'[j]?=some (.own (.lst (ns.map D.int))))(h2:∀v,vQ j i g v (ns.map D.int) (ns.map D.int) (env.set j (.inn v (.lst (ns.map D.int))))=.next (env'.set j (.inn v (.lst (ns.map D.int))))):Cd j i g env=.next env':=by
 have ex:(intsOf (ns.map D.int)).isSome=true∧∃env':EN,env'[j]?=some (.own (.lst (ns.map D.int)))∧∀v,vQ j i g v (ns.map D.int) (ns.map D.int) (env.set j (.inn v (.lst (ns.map D.int))))=.next (env'.set j (.inn v (.lst (ns.map D.int)))):=⟨by rw[jL];rfl,env',h1,h2⟩
 unfold Cd
 rw[h]
 dsimp only
 rw[dif_pos ex]
 have c:=ex.2.choose_spec
 have e:=(c.2 .non).symm.trans (h2 .non)
 injection e with e
 rw[aBs e (c.1.trans h1.symm)]
theorem XX{xs:List D}{ns:List Int}(h:intsOf xs=some ns):xs=ns.map D.int:=by
 induction xs generalizing ns with
 | nil=>unfold intsOf at h;cases h;rfl
 | cons x xs ih=>
  unfold intsOf at h
  cases x with
  | int i=>
   obtain⟨ms,h1,h2⟩:=mF h
   subst h2
   rw[D2,ih h1]
  | _=>cases h
theorem aBt(hb:DS K tbs g):DS K (CN (aDO K (pN j)) (fY i) tbs) (Cd j i g):=λB E σ H env r p=>by
 unfold Cd at p
 split at p
 ·rename_i xs q
  split at p
  ·rename_i ex
   obtain⟨ns,hns⟩:=V7.mp ex.1
   have exx:=XX hns
   obtain⟨c1,c2⟩:=ex.2.choose_spec
   generalize ex.2.choose=env' at *
   subst exx
   have hj:j<env'.length:=(D3.mp c1).1
   obtain⟨v,hσ,rv⟩:=r.r j _ (by unfold rE;rw[C5,q];rfl)
   have c2:=c2 v
   have r1:=r.mj q hσ
   have lst:∀{cY:EN} {σ2:St} {H2:Hp},Rel K B cY σ2 H2→cY[j]?=some (.inn v (.lst (ns.map D.int)))→∃a,v=.ref a∧pY K H2 a (ns.map V.int):=by
    rintro cY σ2 H2 ⟨A,aa,bb⟩ e2
    obtain⟨y,A1,C,h1,h2,h3,h4,_⟩:=aa.focus e2
    have:=Ow.rv _ _ _ h4.2
    unfold Rv at this
    obtain⟨a,ys,e,sq,l⟩:=this
    rw[gZ.mp l]at sq
    exact⟨a,e,sq⟩
   obtain⟨a,rfl,sq0⟩:=lst r1 (F9 (D3.mp q).1)
   refine .inl ⟨.ref a,hσ,a,rfl,⟨_,sq0⟩,?_⟩
   refine Ub Wy (λk σ2 H2=>∃cY,Rel K B cY σ2 H2∧cY[j]?=some (.inn (.ref a) (.lst (ns.map D.int)))∧vQ j i g (.ref a) (ns.map D.int) ((ns.map D.int).drop k) cY=.next (env'.set j (.inn (.ref a) (.lst (ns.map D.int))))) ⟨_,r1,F9 (D3.mp q).1,by rw[List.drop_zero];exact c2⟩ (λk σ2 H2 _ ⟨cY,r2,e2,_⟩=>by
    obtain⟨a',e,sq⟩:=lst r2 e2
    cases e
    exact sq) ?_ ?_
   ·rintro k x σ2 H2 hx ⟨cY,r2,e2,f2⟩
    have hk:k<ns.length:=by
     have:=(D3.mp hx).1
     rwa [B8]at this
    rw[P0 (by rw[B8];exact hk)]at f2
    rw[C5,B6 hk]at hx
    cases hx
    rw[List.getElem_map]at f2
    unfold vQ at f2
    split at f2
    ·rename_i hlen
     have r3:Rel K B (cY.set i (.fro (.int ns[k]))) (σ2.set i (some (.int ns[k]))) H2:=by
      obtain⟨A2,a2,b2⟩:=r2
      exact Hz a2 b2 hlen.1 (aU.refl _) (aU.refl _) (Kf a2) (by unfold Rv;rfl)
     refine hb B _ _ H2 _ r3 ?_
     have fin:∀{o:SR},o=g (cY.set i (.fro (.int ns[k])))→(match o with | .next e=>vQ j i g (.ref a) (ns.map D.int) ((ns.map D.int).drop (k+1)) e | .cont e=>vQ j i g (.ref a) (ns.map D.int) ((ns.map D.int).drop (k+1)) e | _=>.bad)=.next (env'.set j (.inn (.ref a) (.lst (ns.map D.int))))→Em K B {E with nx:=λσ3 H3=>∃cY,Rel K B cY σ3 H3∧cY[j]?=some (.inn (.ref a) (.lst (ns.map D.int)))∧vQ j i g (.ref a) (ns.map D.int) ((ns.map D.int).drop (k+1)) cY=.next (env'.set j (.inn (.ref a) (.lst (ns.map D.int)))),ct:=λσ3 H3=>∃cY,Rel K B cY σ3 H3∧cY[j]?=some (.inn (.ref a) (.lst (ns.map D.int)))∧vQ j i g (.ref a) (ns.map D.int) ((ns.map D.int).drop (k+1)) cY=.next (env'.set j (.inn (.ref a) (.lst (ns.map D.int)))),bk:=E.nx} o:=by
      intro o _ ho
      have there:∀{e3:EN} {xs:List D},vQ j i g (.ref a) (ns.map D.int) xs e3=.next (env'.set j (.inn (.ref a) (.lst (ns.map D.int))))→e3[j]?=some (.inn (.ref a) (.lst (ns.map D.int))):=by
       intro e3 xs h3
       cases xs with
       | nil=>
        unfold vQ at h3
        split at h3
        ·rename_i z;exact z
        ·cases h3
       | cons y ys=>
        unfold vQ at h3
        split at h3
        ·rename_i z;exact z.2
        ·cases h3
      cases o with
      | next e3=>exact λσ3 H3 r4=>⟨e3,r4,there ho,ho⟩
      | cont e3=>exact λσ3 H3 r4=>⟨e3,r4,there ho,ho⟩
      | ret d=>cases ho
      | brk d=>cases ho
      | bad=>cases ho
      | rete d e=>cases ho
     exact fin rfl f2
    ·cases f2
   ·rintro σ2 H2 ⟨cY,r2,e2,f2⟩
    rw[B8]at f2
    rw[show ns.length=(ns.map D.int).length by rw[B8],W3]at f2
    unfold vQ at f2
    rw[if_pos e2]at f2
    injection f2 with f2
    rw[f2]at r2
    obtain⟨r3,_⟩:=r2.lz (F9 hj)
    rw[W6,set_same c1]at r3
    exact p σ2 H2 r3
  ·exact p.elim
 ·exact p.elim
theorem QQ{tg:Expr}{body:List Stmt}(hp:PassesOwn (model X.prog X.w) X.A X.env X.xe)(WD:X.calm=true)(hv:PE X e (pN j))(hg:PG X tg (fY i))(hb:YB K X body tbs g)(hs:∀x,foldedSetIterable e X.env x=pure x:=by intro _;rfl)(hk:X.K=K:=by rfl):YS K X (.For tg e body [] pos) (CN (aDO K (pN j)) (fY i) tbs) (Cd j i g):=by
 subst hk
 refine⟨CP hp WD (λpins s σ H R I h=>?_) hg hb.ps hs,aBt hb.ev⟩
 rcases h with h | h
 ·exact KN hv pins s σ H R I h
 ·exact bh hv pins s σ H R I h
end
end L2


namespace L2
open PySem PySem.Spec PySem.Calls PyProof.Rows PyProof.V
theorem Ye{H:Hp}{p:Addr}{kvs:List (List Key×V)}(h:H p=some (.dT kvs)):vC H p:=⟨λys e=>(by rw[h]at e;cases e),λo ys e=>(by rw[h]at e;cases e)⟩
section
variable{K:aD}{B H:Hp}{env:EN}{σ:St}
theorem Rel.aHu{i:Nat}{p:List Step}{d0:D}{ks:List (List Key)}{ds:List D}(h:Rel K B env σ H)(e:env[i]?=some (.own d0))(q:fD p d0=some (.dt ks ds)):∃v0 a xs Bs,σ[i]?=some (some v0)∧Hf H p v0=some (.ref a)∧H a=some (.dT (ks.zip xs))∧ks.length=xs.length∧¬Bs a∧eY K H ds Bs xs ∧
    ∀H2 ks' ds' xs' Bn,aU H H2→ks'.length=xs'.length→eY K H2 ds' Bn xs'→(∀b,Bn b→Bs b∨H b=none)→Rel K B (env.set i (.own (eN p d0 (.dt ks' ds')))) σ (upd H2 a (.dT (ks'.zip xs'))):=by
  obtain⟨v0,w,A1,C,h1,h2,h3,h4,h5,h6⟩:=h.at e q
  unfold Ow at h3
  obtain⟨a,xs,Bs,rfl,o2,o2',o3,o4,o5⟩:=h3
  refine⟨v0,a,xs,Bs,h1,h2,o2,o2',o3,o5,λH2 ks' ds' xs' Bn s hl o hb=>?_⟩
  have ju:¬Bn a:=λz=>(hb a z).elim o3 λz=>by rw[o2]at z;cases z
  have hC:∀x,C x→¬x=a:=λx z y=>h4 x ((o4 x).mpr (.inl y)) z
  have Og:H2 a=some (.dT (ks.zip xs)):=s a _ o2
  refine h6 _ (.dt ks' ds') (fH (·=a) Bn) (λx z1 z2=>?_) (λx z=>?_) (s.tk.trans (rY (Ye Og))) ?_ (λx u ex=>?_)
  · rcases z1 with z1 | z1
    · exact hC x z2 z1
    · rcases hb x z1 with z | z
      · exact h4 x ((o4 x).mpr (.inr z)) z2
      · obtain⟨⟨u,eu⟩,_⟩:=h5 x z2
        rw[z]at eu;cases eu
  · obtain⟨⟨u,eu⟩,_⟩:=h5 x z
    rw[bL (hC x z),eu,s x u eu]
  · unfold Ow
    refine⟨a,xs',Bn,rfl,bW,hl,ju,λ_=>Iff.rfl,eY.frame (rY (Ye Og)) _ _ _ o λx zx=>bL λy=>ju (y▸zx)⟩
  · obtain⟨e1,e2⟩:=bD.mp ex
    have na:x≠a:=λy=>e1 (.inl ((o4 x).mpr (.inl y)))
    refine bD.mpr ⟨λz=>?_,by rw[bL na];exact s x u e2⟩
    rcases z with (z | z) | z
    · exact na z
    · rcases hb x z with z | z
      · exact e1 (.inl ((o4 x).mpr (.inr z)))
      · rw[z]at e2;cases e2
    · exact e1 (.inr z)
end
def Yg:List D→Option (List Key)
 | []=>some []
 | d::ds=>(Oe d).bind λk=>(Yg ds).map λr=>k::r
theorem Yh{K:aD}{H:Hp}:∀{ds:List D} {ks:List Key} {vs:List V},Yg ds=some ks→eE K H ds vs→vs=ks.map kV
 | [],ks,vs,h,r=>by
  unfold Yg at h
  cases h
  unfold eE at r
  exact r
 | d::ds,ks,vs,h,r=>by
  unfold Yg at h
  obtain⟨k,h1,h2⟩:=aX h
  obtain⟨ks',h3,rfl⟩:=mF h2
  unfold eE at r
  obtain⟨y,ys,rfl,r1,r2⟩:=r
  rw[Hx h1 r1,Yh h3 r2]
  rfl
abbrev FK:=DE→Option (List Key)
def EvK(K:aD)(t:TE)(fk:FK):Prop:=∀(σ:St)(H:Hp)(e:DE)(k:List Key)(Q:VK),yV K H e σ→fk e=some k→(∀b H',aU H H'→H' b=some (.tup (k.map kV))→Q (.ref b) H')→t σ H Q
structure XKt(K:aD)(X:Cx)(e:Expr)(t:TE)(fk:FK):Prop where
 hk:X.K=K
 pe:PE X e t
 ev:EvK K t fk
section
variable{K:aD}{X:Cx}{st:Stmt}{e a b c o:Expr}{es rest:List Expr}{te ta tb tc t0 tv:TE}{f fa fb:FE}{g:FK}{gd:FE}{tA:TA}{fs:FA}{pos apos:Pos}{i j:Nat}{π:FP}{tbs:TS}
def Ep(fs:FA):FK:=λe=>(fs e).bind λds=>if ds.length≤100 then Yg ds else none
theorem La{x1:Nat}(h:XA K X es tA fs):XKt K X (.Tuple es x1 pos) (aAA tA) (Ep fs):=⟨h.hk,dm h.pa,λσ H e k Q re q kk=>by
 obtain⟨ds,q1,q2⟩:=aX q
 split at q2
 ·rename_i hl
  refine h.ev σ H H e ds _ (Zn.self K H) re q1 λvs H1 Z1 s1 t1 z1 rvs=>⟨Qt (by rw[rvs.length];omega),λp hp=>kk p _ (s1.trans (cT hp _)) ?_⟩
  rw[bW,Yh q2 rvs]
 ·cases q2⟩
def Oi(neg:Bool)(fk:FK)(f:FE):FE:=λe=>(fk e).bind λk=>(f e).bind λd=>match d with
 | .dt ks _=>some (.bl (if neg then !(posK ks k).isSome else(posK ks k).isSome))
 | _=>none
theorem HN{ks:List (List Key)}{xs:List V}{k:List Key}(h:ks.length=xs.length):(uH (ks.zip xs) k).isSome=(posK ks k).isSome:=by
 rw[qG h]
 cases q:posK ks k with
 | none=>rfl
 | some j=>
  obtain⟨h1,h2⟩:=pP q
  rw[B7,B6 (by omega)]
  rfl
theorem aD6{neg:Bool}{d:D}{σ:St}{H:Hp}{e:DE}{Q:VK}(ha:EvK K ta g)(hb:Ea K tb f)(re:yV K H e σ)(q:Oi neg g f e=some d)(k:∀v H',aU H H'→Nu K H H' d v→Q v H') :
  ta σ H λy H1=>tb σ H1 λx H2=>∃a o,x=.ref a∧Jo H2 a y o∧Q (.bl (if neg then !o.isSome else o.isSome)) H2:=by
 obtain⟨kk,q1,q⟩:=aX q
 obtain⟨d1,q2,q⟩:=aX q
 split at q
 ·rename_i ks ds
  cases q
  refine ha σ H e kk _ re q1 λbb H1 s1 hb1=>hb σ H1 H1 e _ _ (Zn.self K H1) (re.same s1) q2 λx H2 Z2 s2 t2 z2 rx=>?_
  have rx:=z2.sm.rv _ _ rx
  unfold Rv at rx
  obtain⟨p,xs,r1,r2,r3,r4⟩:=rx
  refine⟨p,uH (ks.zip xs) kk,r1,.inr ⟨_,kk,bb,r2,rfl,s2 _ _ hb1,rfl⟩,?_⟩
  rw[HN r3]
  exact k _ H2 (s1.trans s2) (.iI rfl (by unfold Rv;rfl))
 ·cases q
theorem aBu(hu:X.A.units+1<cLine)(ha:XKt K X a ta g)(hb:XR K X b tb f)(h1:behindInMarks .In b=false:=by first | exact nobehind _ (by decide) (by decide) | rfl):XN K X (.Compare a [.In] [b] pos) (aDk ta tb) (Oi false g f):=
 ⟨ha.hk,aj (gr hu ha.pe hb.pe) h1,λσ H e d Q re q k=>aD6 (neg:=false) ha.ev hb.ev re q k⟩
theorem QR(hu:X.A.units+1<cLine)(ha:XKt K X a ta g)(hb:XR K X b tb f)(h1:behindInMarks .In b=false:=by first | exact nobehind _ (by decide) (by decide) | rfl):XT K X (.Compare a [.In] [b] pos) (tB (aDk ta tb)) (fB (Oi false g f)):=aCh (aBu hu ha hb h1) (gr hu ha.pe hb.pe) h1
def Lb(f:FE)(fk:FK):FE:=λe=>(f e).bind λd=>(fk e).bind λk=>match d with
 | .dt ks ds=>(posK ks k).bind λj=>(ds[j]?).bind λr=>if r.iI=true then some r else none
 | _=>none
theorem Yi(hu:X.A.units+1<cLine)(ha:XR K X a ta f)(hb:XKt K X b tb g)(hs:aDj b):XN K X (.Subscript a b pos) (aCc ta tb) (Lb f g):=
 ⟨ha.hk,aAK hu ha.pe hb.pe hs,λσ H e d Q re q k=>by
  obtain⟨d1,q1,q⟩:=aX q
  obtain⟨kk,q2,q⟩:=aX q
  split at q
  ·rename_i ks ds
   obtain⟨j,q3,q⟩:=aX q
   obtain⟨r,q4,q⟩:=aX q
   split at q
   ·rename_i im
    cases q
    refine ha.ev σ H H e _ _ (Zn.self K H) re q1 λx H1 Z1 s1 t1 z1 rx=>hb.ev σ H1 e kk _ (re.same s1) q2 λbb H2 s2 hb2=>?_
    have rx:=s2.rv _ _ (z1.sm.rv _ _ rx)
    unfold Rv at rx
    obtain⟨p,xs,r1,r2,r3,r4⟩:=rx
    obtain⟨v,e1,e2⟩:=r4.get q4
    refine⟨p,v,r1,.inr ⟨_,kk,bb,r2,rfl,hb2,?_⟩,k v H2 (s1.trans s2) (.iI im e2)⟩
    rw[qG r3,q3,B7,e1]
   ·cases q
  ·cases q⟩
theorem pq(hk:X.K=K:=by rfl):XN K X (.Dict [] [] pos) ig (fC (.dt [] [])):=⟨hk,ir,λσ H e d Q re q k=>by
 cases q
 intro p hp
 refine k _ _ (cT hp _) ⟨(·=p),?_,λa q=>by cases q;exact hp⟩
 unfold Ow
 exact⟨p,[],nil,rfl,bW,rfl,λz=>z,λx=>⟨.inl,λz=>z.elim id False.elim⟩,by unfold eY;exact⟨λ_ z=>z,rfl⟩⟩⟩
def Rc(i:Nat)(π:FP)(g:FK)(f:FE):GS:=λenv=>match env[i]?,π (rE env),g (rE env),f (rE env)with
 | some (.own d0),some p,some k,some d=>(match fD p d0 with
  | some (.dt ks ds)=>if d.iI=true∧ks.length<100000 then .next (env.set i (.own (eN p d0 (.dt (kW ks k) (putD ks ds k d)))))else .bad
  | _=>.bad)
 | _,_,_,_=>.bad
theorem Yj{H:Hp}{d:D}{v:V}(o:Ow K H d nil v)(k:List Key):∀{ks:List (List Key)} {ds:List D} {A:Fp} {xs:List V},ks.length=xs.length→eY K H ds A xs→∃A',(∀x,A' x→A x)∧eY K H (R3 (λk' d'=>if k'=k then d else d') ks ds) A' (R3 (λk' d'=>if k'=k then v else d') ks xs)
 | [],ds,A,xs,hl,h=>by
  cases xs with
  | nil=>exact⟨nil,λ_ z=>z.elim,by rw[Q2,Q2];unfold eY;exact⟨λ_ z=>z,rfl⟩⟩
  | cons x xs=>simp at hl
 | k0::ks,[],A,xs,hl,h=>by unfold eY at h;rw[h.2]at hl;simp at hl
 | k0::ks,d0::ds,A,xs,hl,h=>by
  unfold eY at h
  obtain⟨y,yt,A1,A2,rfl,h2,h3,h4,h5⟩:=h
  obtain⟨A',a1,a2⟩:=Yj o k (by simpa using hl) h5
  by_cases c:k0=k
  ·refine⟨A',λx q=>(h3 x).mpr (.inr (a1 x q)),?_⟩
   rw[J0,J0,if_pos c,if_pos c]
   unfold eY
   exact⟨v,_,nil,A',rfl,λ_ z=>z.elim,λx=>⟨.inr,λz=>z.elim False.elim id⟩,o,a2⟩
  ·refine⟨fH A1 A',λx q=>(h3 x).mpr (q.imp id (a1 x)),?_⟩
   rw[J0,J0,if_neg c,if_neg c]
   unfold eY
   exact⟨y,_,A1,A',rfl,λx z1 z2=>h2 x z1 (a1 x z2),λ_=>Iff.rfl,h4,a2⟩
theorem aBv(h:EvP K ta i π)(hx:EvK K tb g)(he:Ea K te f):ZV K (Bk ta tb te) (Rc i π g f):=λB E σ H env r p=>by
 unfold Rc at p
 split at p
 ·rename_i d0 pp k d q1 q2 q3 q3'
  split at p
  ·rename_i ks ds q4
   split at p
   ·rename_i hc
    obtain⟨v0,a,xs,Bs,k1,k2,k3,k3',k4,k5,k6⟩:=r.aHu q1 q4
    refine he σ H H (rE env) d _ (Zn.self K H) r.r q3' λy H1 Z1 s1 t1 z1 ry=>?_
    refine h σ H1 (rE env) v0 pp _ _ (r.r.same s1) k1 q2 (wM s1 k2) λH2 s2=>hx σ H2 (rE env) _ _ (r.r.same (s1.trans s2)) q3 λbb H3 s3 hb3=>?_
    have BV:=s1.trans (s2.trans s3)
    have o:Ow K H3 d nil y:=wF d y hc.1 ((z1.sm.trans (s2.trans s3)).rv _ _ ry)
    refine⟨a,_,rfl,.inr ⟨ks.zip xs,k,bb,BV _ _ k3,rfl,hb3,Qu (by rw[X6];omega),rfl⟩,p _ ?_⟩
    rw[Xf k3']
    have ow3:=k5.same BV
    by_cases c:(posK ks k).isSome=true
    ·obtain⟨A',a1,a2⟩:=Yj o k k3' ow3
     refine k6 H3 (kW ks k) (putD ks ds k d) (putD ks xs k y) A' BV (tO k3') ?_ λb z=>.inl (a1 b z)
     unfold putD
     rw[if_pos c,if_pos c]
     exact a2
    ·refine k6 H3 (kW ks k) (putD ks ds k d) (putD ks xs k y) (fH Bs nil) BV (tO k3') ?_ λb z=>z.elim .inl False.elim
     unfold putD
     rw[if_neg c,if_neg c]
     exact cN.mpr ((cN.mp ow3).snoc o λ_ _ z=>z)
   ·exact p.elim
  ·exact p.elim
 ·exact p.elim
def Ce:List Key→Option (List Int)
 | []=>some []
 | .inl k::ks=>(Ce ks).map λr=>k::r
 | .inr _::_=>none
theorem Yk:∀{ks:List Key} {ns:List Int},Ce ks=some ns→ks=ns.map G9
 | [],ns,h=>by unfold Ce at h;cases h;rfl
 | .inl k::ks,ns,h=>by
  unfold Ce at h
  obtain⟨r,h1,rfl⟩:=mF h
  rw[Yk h1]
  rfl
 | .inr _::ks,ns,h=>by unfold Ce at h;cases h
theorem Rg:∀ns:List Int,Ce (ns.map G9)=some ns
 | []=>rfl
 | n::ns=>by rw[D2];unfold Ce;rw[Rg ns];rfl
def Cg:List D→Option D
 | [.dk ks _]=>(Ce ks).bind λns=>if ns.length<64 then some (.lst ((sortI ns).map D.int))else none
 | _=>none
theorem HQ:wH K (λxs H Q=>∃(p:Addr)(kvs:List (Key×V))(ks:List Int),xs=[.ref p]∧Rd H p (.dK kvs)∧kvs.map (·.1)=ks.map G9∧ks.length<64∧∀l ms,H l=none→rising ks ms→Q (.ref l) (upd H l (.lst (ms.map V.int)))) Cg:=λvs H ds d Q rs q k=>by
 unfold Cg at q
 split at q
 ·rename_i ks es
  obtain⟨ns,q1,q2⟩:=aX q
  split at q2
  ·rename_i hl
   cases q2
   obtain⟨v,rfl,r⟩:=qH rs
   unfold Rv at r
   obtain⟨p,xs,rfl,r2,r3,r4⟩:=r
   refine⟨p,_,ns,rfl,r2,?_,hl,λl ms hl hr=>?_⟩
   ·rw[←Yk q1]
    exact g6 (by omega)
   rw[Br hr]
   exact k _ _ (cT hl _) (rB (aU.refl _) (.fZ (cV _) (gZ.mpr rfl)) hl)
  ·cases q2
 ·cases q
def aHw(K:aD)(t:TA)(fs:FA)(i:Nat):Prop:=∀(σ:St)(H:Hp)(e:DE)(ds:List D)(v:V)(Q:List V→Hp→Prop),yV K H e σ→fs e=some ds→σ[i]?=some (some v)→(∀vs H',aU H H'→Ue K H H' ds vs→Q (vs++[v]) H')→t σ H Q
structure XBm(K:aD)(X:Cx)(es:List Expr)(t:TA)(fs:FA)(i:Nat):Prop where
 hk:X.K=K
 pa:PA X es t
 ev:aHw K t fs i
end
end L2


namespace L2
open PySem PySem.Spec PySem.Calls PyProof.Rows PyProof.V
section
variable{K:aD}{X:Cx}{st:Stmt}{e a b c o:Expr}{es rest:List Expr}{te ta tb tc t0 tv:TE}{f fa fb g:FE}{gk:FK}{gd:FE}{tA:TA}{fs:FA}{pos apos:Pos}{i j:Nat}{π:FP}{tbs:TS}{gm:GM}
def gmN(f:FE):GM:=λenv=>(f (rE env)).map λd=>(d,env)
theorem aBw(h:XN K X e te f):XM K X e te (gmN f):=aHs h
theorem Cj(h:XR K X e te f)(hs:swapsWith e none pos.line X.env=pure false:=by rfl):YS K X (.Expr e pos) (lU te) (wL f):=⟨mG h.pe hs,aBc h.ev⟩
theorem lE{C:Addr}{Xr:List Str}{x:Str}{pos':Pos}(F:gB K C Xr)(hx:x∈Xr)(h:XP K X a ta i π)(he:XN K X e te f)(hs:swapsWith e (some (.Attribute a x pos')) pos.line X.env=pure false:=by rfl):YS K X (.Assign [.Attribute a x pos'] e pos) (aC9 K ta te x) (jA i (tR C i π x f)):=⟨by have:=h.hk;subst this;exact aDa h.pe he.pe hs,(my (aD2 F hx h.ev he.ev)).ds⟩
theorem Ut{m:Str}{apos cpos:Pos}(h:XP K X a ta i π)(he:XN K X e te f)(hp:PE X a ta→PE X e te→PS X (.Expr (.Call (.Attribute a m apos) [e] [] cpos) pos) (lU (Qi K "list" pO ta (fJ te mJ)))):YS K X (.Expr (.Call (.Attribute a m apos) [e] [] cpos) pos) (lU (Qi K "list" pO ta (fJ te mJ))) (jA i (Bv i π f)):=Ku i (hp h.pe he.pe) (jx h.ev he.ev)
theorem Ld{pos':Pos}(h:XP K X a ta i π)(hx:XR K X b tb g)(he:XR K X e te f)(hp:PE X a ta→PE X b tb→PE X e te→PS X (.Assign [.Subscript a b pos'] e pos) (Bk ta tb te)):YS K X (.Assign [.Subscript a b pos'] e pos) (Bk ta tb te) (jA i (vD i π g f)):=Ku i (hp h.pe hx.pe he.pe) (PK h.ev hx.ev he.ev)
theorem qd{pos':Pos}(h:XP K X a ta i π)(hx:XKt K X b tb gk)(he:XR K X e te f)(hp:PE X a ta→PE X b tb→PE X e te→PS X (.Assign [.Subscript a b pos'] e pos) (Bk ta tb te)):YS K X (.Assign [.Subscript a b pos'] e pos) (Bk ta tb te) (jA i (Rc i π gk f)):=Ku i (hp h.pe hx.pe he.pe) (aBv h.ev hx.ev he.ev)
end
end L2
namespace L2
open PySem PySem.Spec PySem.Calls PyProof.Rows PyProof.V
def D.Yl:D→Bool
 | .non=>true
 | _=>false
theorem Ym{K:aD}{H:Hp}{d:D}{v:V}(r:Rv K H d v):decide (v=.non)=d.Yl:=by
 cases d with
 | non=>unfold Rv at r;subst r;rfl
 | bl b=>unfold Rv at r;subst r;rfl
 | int b=>unfold Rv at r;subst r;rfl
 | str b=>unfold Rv at r;subst r;rfl
 | lst ds=>unfold Rv at r;obtain⟨a,xs,rfl,_⟩:=r;rfl
 | tup ds=>unfold Rv at r;obtain⟨a,xs,rfl,_⟩:=r;rfl
 | dk ks ds=>unfold Rv at r;obtain⟨a,xs,rfl,_⟩:=r;rfl
 | dt ks ds=>unfold Rv at r;obtain⟨a,xs,rfl,_⟩:=r;rfl
 | ins C nm ds=>unfold Rv at r;obtain⟨a,dx,xs,rfl,_⟩:=r;rfl
def Oj(neg:Bool)(a b:D):Option D:=match b with
 | .non=>some (.bl (if neg then !a.Yl else a.Yl))
 | _=>none
theorem qe{K:aD}:Xd K (λx y H Q=>y=.non∧Q (.bl (decide (x=.non))) H) (Oj false):=λx y H a b d Q ra rb q k=>by
 unfold Oj at q
 split at q
 ·cases q
  unfold Rv at rb
  refine⟨rb,?_⟩
  rw[Ym ra]
  exact k _ H (aU.refl _) (.iI rfl (by unfold Rv;rfl))
 ·cases q
theorem Rh{K:aD}:Xd K (λx y H Q=>y=.non∧Q (.bl (!decide (x=.non))) H) (Oj true):=λx y H a b d Q ra rb q k=>by
 unfold Oj at q
 split at q
 ·cases q
  unfold Rv at rb
  refine⟨rb,?_⟩
  rw[Ym ra]
  exact k _ H (aU.refl _) (.iI rfl (by unfold Rv;rfl))
 ·cases q
end L2


namespace L2
open PySem PySem.Spec PySem.Calls PyProof.Rows PyProof.V
section
variable{K:aD}{X:Cx}{e stx:Expr}{te ts:TE}{f g:FE}{pos p2:Pos}
end
end L2


namespace L2
open PySem PySem.Spec PySem.Calls PyProof.Rows PyProof.V
abbrev FE2:=DE→DE→Option D
def EvZ(K:aD)(t:TE)(f:FE2):Prop:=∀{N:Fp}(σ:St)(H Z:Hp)(eF eZ:DE)(d:D)(Q:VK),Zn K N Z H→yV K H eF σ→yV K Z eZ σ→f eF eZ=some d →
 (∀v H' Z',aU H H'→aU Z Z'→Zn K N Z' H'→Rv K Z' d v→Q v H')→t σ H Q
def aHx(K:aD)(t:TA)(f:FA2):Prop:=∀{N:Fp}(σ:St)(H Z:Hp)(eF eZ:DE)(ds:List D)(Q:List V→Hp→Prop),Zn K N Z H→yV K H eF σ→yV K Z eZ σ→f eF eZ=some ds →
 (∀vs H' Z',aU H H'→aU Z Z'→Zn K N Z' H'→eE K Z' ds vs→Q vs H')→t σ H Q
structure XZ(K:aD)(X:Cx)(e:Expr)(t:TE)(f:FE2):Prop where
 hk:X.K=K
 pe:PE X e t
 ev:EvZ K t f
structure XZA(K:aD)(X:Cx)(es:List Expr)(t:TA)(f:FA2):Prop where
 hk:X.K=K
 pa:PA X es t
 ev:aHx K t f
section
variable{K:aD}{X:Cx}{e a b:Expr}{es:List Expr}{te ta tb:TE}{f:FE}{g h:FE2}{tA:TA}{fs:FA2}{pos:Pos}{i:Nat}
def faZ(g:FE2)(fs:FA2):FA2:=λeF eZ=>(g eF eZ).bind λd=>(fs eF eZ).map λr=>d::r
def aIi(fs:FA2):FE2:=λeF eZ=>(fs eF eZ).bind λds=>cap ds.length (.lst ds)
def aF5(a b:D):Option D:=match a,b with
 | .lst x,.lst y=>if x.length+y.length≤100000 then some (.lst (x++y))else none
 | _,_=>none
def aIj(g h:FE2):FE2:=λeF eZ=>(g eF eZ).bind λa=>(h eF eZ).bind λb=>aF5 a b
def aHy(js:List Nat)(i:Nat)(g:FE2):GS:=λenv=>match g (rE (Bf js env)) (zE (Bf js env))with
 | some d=>if i<(Bf js env).length then .next ((Bf js env).set i (.fro d))else .bad
 | none=>.bad
end
end L2


namespace L2
open PySem PySem.Spec PySem.Calls PyProof.Rows PyProof.V
inductive Ar where
  | ch (i:Nat) | rd (f:FE) | nw (f:FE)
def chA:List Ar→List Nat
 | []=>[]
 | .ch i::as=>i::chA as
 | .rd _::as=>chA as
 | .nw _::as=>chA as
def QS:List Ar→List Bool
 | []=>[]
 | .ch _::as=>true::QS as
 | .rd _::as=>false::QS as
 | .nw _::as=>false::QS as
def rdA:List Ar→DE→DE→Option (List D)
 | [],_,_=>some []
 | .ch _::as,eF,eZ=>rdA as eF eZ
 | .rd f::as,eF,eZ=>(f eZ).bind λd=>(rdA as eF eZ).map λr=>d::r
 | .nw f::as,eF,eZ=>(f eF).bind λd=>(rdA as eF eZ).map λr=>d::r
def HR:List Bool→List D→List D→List D
 | true::m,c::cs,rs=>c::HR m cs rs
 | false::m,cs,r::rs=>r::HR m cs rs
 | _,_,_=>[]
def QT(K:aD)(Z:Hp)(σ:St):List Ar→List D→List V→Prop
 | [],ds,vs=>ds=[]∧vs=[]
 | .ch i::as,ds,vs=>∃v r,vs=v::r∧σ[i]?=some (some v)∧QT K Z σ as ds r
 | .rd _::as,ds,vs=>∃d dr v r,ds=d::dr∧vs=v::r∧Rv K Z d v∧QT K Z σ as dr r
 | .nw _::as,ds,vs=>∃d dr v r,ds=d::dr∧vs=v::r∧Rv K Z d v∧QT K Z σ as dr r
def VsA(σ:St):List Nat→List V→Prop
 | [],vs=>vs=[]
 | j::js,vs=>∃v r,vs=v::r∧σ[j]?=some (some v)∧VsA σ js r
def takes:List Nat→EN→Option (List D×EN)
 | [],env=>some ([],env)
 | j::js,env=>(env[j]?.bind SD.hold).bind λdb=>(takes js (env.set j .no)).map λde=>(db.1::de.1,de.2)
def aF7:List Nat→List D→EN→EN
 | j::js,d::ds,env=>(match env[j]?.bind SD.hold with
  | some db=>(aF7 js ds (env.set j .no)).set j (db.2 d)
  | none=>env)
 | _,_,env=>env
section
variable{K:aD}{X:Cx}{e:Expr}{es:List Expr}{te:TE}{f:FE}{tA:TA}{as:List Ar}{pos:Pos}{i:Nat}
def aHz(K:aD)(t:TA)(as:List Ar):Prop:=∀(A1:Fp)(σ:St)(H:Hp)(eF eZ:DE)(ds:List D)(cv:List V)(Q:List V→Hp→Prop),(∀x,A1 x→nM H x)→yV K H eF σ→yV K (out H A1) eZ σ→VsA σ (chA as) cv→rdA as eF eZ=some ds →
 (∀vs H',aU H H'→QT K (out H' A1) σ as ds vs→Q vs H')→t σ H Q
structure XAC(K:aD)(X:Cx)(es:List Expr)(t:TA)(as:List Ar):Prop where
 hk:X.K=K
 pa:PA X es t
 ev:aHz K t as
end
section
variable{K:aD}{H H' Z Z' B:Hp}{σ:St}
end
def aIl(as:List Ar)(F:List D→Option (D×List D)):GM:=λenv=>(takes (chA as) env).bind λce=>(rdA as (rE env) (rE ce.2)).bind λrds=>(F (HR (QS as) ce.1 rds)).map λrd=>(rd.1,aF7 (chA as) rd.2 env)
section
variable{K:aD}{X:Cx}{e:Expr}{es:List Expr}{tA:TA}{as:List Ar}{pos pf:Pos}
end
section
variable{P:Program}{w:World}{K:aD}{mg:Str→Option Value}{base:Heap}
end
section
variable{K:aD}{X:Cx}{a b:Expr}{rest:List Expr}{ta tb:TE}{g h:GM}{f:FE}{pos:Pos}
def aIn(g h:GM):GM:=λenv=>(g env).bind λde=>match de.1 with
 | .bl true=>h de.2
 | .bl false=>some (.bl false,de.2)
 | _=>none
def aGT(f:FE):GS:=λenv=>match f (rE env)with
 | some (.lst _)=>.next env
 | _=>.bad
end
end L2


namespace L2
open PySem PySem.Spec PySem.Calls PyProof.Rows PyProof.V
section
variable{prog:Program}{w:World}{A:Around}{R:Result→Shared→Prop}{I:Addr}{fp wr:List Addr}{n:Nat}{P:Nat→Value→Prop}{St:Nat→Heap→Prop}{kw:List (Str×Value)}
end
section
variable{prog:Program}{w:World}{A:Around}{E:Value→Shared→Prop}{s:Shared}
end
section
variable{K:aD}{X:Cx}{e e2:Expr}{te t2:TE}{f g:FE}{x:Str}{p pos kp:Pos}
end
end L2


namespace L2
open PySem PySem.Spec PySem.Calls PyProof.Rows PyProof.V
section
variable{X:Cx}
def Ii:V→List V→Hp→VK→Prop:=λx vs H Q=>∃l xs i y,x=.ref l∧vs=[.int i,y]∧H l=some (.lst xs)∧0≤i∧i.toNat≤xs.length∧xs.length<sizeLine∧Q .non (upd H l (.lst (xs.take i.toNat++y::xs.drop i.toNat)))
theorem YC:MtM X "list.insert" Ii:=by
 intro pins s σ H x vs v us Q I rx rv h
 obtain⟨l,xs,i,y,rfl,rfl,hH,h0,h1,hz,q⟩:=h
 cases rx
 obtain⟨u1,u2,rfl,ru1,ru2⟩:=rv.two
 obtain⟨t,rfl⟩:=ru1
 obtain⟨z,its,n,r,hl,e⟩:=I.aAH hH
 have hsl:sizeLine<2 ^ 62:=by decide
 refine call_meets F.slot_list_insert ⟨_,e,rfl⟩ F.entry_list_insert (F.args_list_insert_3 _ _ _) (AutoSeq1.list_insert_list_int_val_1 l its.toArray n i t u2 (by rw[fitsIndex_both (by omega) (by omega)];decide) (by rw[C9];omega)) ⟨e,?_⟩
 refine⟨.non,_,I.aAG (its':=its.take i.toNat++u2::its.drop i.toNat) hH e ?_ ((r.take _).append (.cons ru2 (r.drop _))) ?_,rfl,q⟩
 ·show (its.toArray.extract 0 (if i<0 then(i+(its.toArray.size:Int)).toNat else min i.toNat its.toArray.size)).push u2++its.toArray.extract (if i<0 then(i+(its.toArray.size:Int)).toNat else min i.toNat its.toArray.size)=_
  rw[if_neg (by omega),C9,show min i.toNat its.length=i.toNat by omega]
  apply Array.ext'
  simp
  exact List.take_of_length_le (by rw[W4];omega)
 ·rw[D4,E9,O4,W4]
  omega
theorem Uu{i:Int}{t:Tok}:∀{ns:List Int} {us:List Value},Vals (ns.map V.int) us→∀y∈us,MeetsSeq.EqGives y (.int i t) (Tr (.int i) y)
 | [],_,.nil=>λy hy=>by cases hy
 | n::ns,u::us,.cons r rs=>λy hy=>by
  rcases C6.mp hy with rfl | hy
  ·obtain⟨t',rfl⟩:=r
   exact MeetsSeq.EqGives.int n i t' t
  ·exact Uu rs y hy
theorem Af{i:Int}:∀{ns:List Int} {m:Nat} (h:m<ns.length),m<ns.idxOf i→ns[m]≠i
 | [],m,h,_=>absurd h (L5 _)
 | a::ns,0,h,hl=>λe=>by
  have e:a=i:=e
  rw[X7,e,beq_self_eq_true]at hl
  exact absurd hl (J7 _)
 | a::ns,m+1,h,hl=>by
  rw[X7]at hl
  cases q:a==i with
  | true=>rw[q]at hl;exact absurd hl (L5 _)
  | false=>
   rw[q]at hl
   have hl:m+1<ns.idxOf i+1:=hl
   exact Af (ns:=ns) (m:=m) (by simpa using h) (by omega)
theorem qg{α β:Type}(φ:α→β):∀(l:List α)(k:Nat),(l.map φ).eraseIdx k=(l.eraseIdx k).map φ
 | [],_=>rfl
 | _::_,0=>rfl
 | a::l,k+1=>congrArg (φ a::·) (qg φ l k)
theorem int_at{ns:List Int}{us:List Value}(h:Vals (ns.map V.int) us)(i:Int){m:Nat}(hm:m<us.toArray.size):∃hn:m<ns.length,Tr (.int i) us.toArray[m]=(ns[m]==i):=by
 have hl:=h.length
 rw[B8]at hl
 have hm':m<us.length:=by simpa using hm
 obtain⟨u,eu,ru⟩:=h.get (i:=m) (x:=.int (ns[m]'(by omega))) (by rw[C5,B6 (by omega)];rfl)
 obtain⟨t,rfl⟩:=ru
 have e:us.toArray[m]=.int (ns[m]'(by omega)) t:=by
  have:=B6 hm'
  rw[eu]at this
  simpa using (F0 this).symm
 refine⟨by omega,?_⟩
 rw[e]
 rfl
def Ij:V→List V→Hp→VK→Prop:=λx vs H Q=>∃(l:Addr)(ns:List Int)(i:Int),x=.ref l∧vs=[.int i]∧H l=some (.lst (ns.map V.int))∧i∈ns∧Q .non (upd H l (.lst ((ns.eraseIdx (ns.idxOf i)).map V.int)))
theorem Ri:MtM X "list.remove" Ij:=by
 intro pins s σ H x vs v us Q I rx rv h
 obtain⟨l,ns,i,rfl,rfl,hH,hi,q⟩:=h
 cases rx
 obtain⟨u,rfl,ru⟩:=rv.one
 obtain⟨t,rfl⟩:=ru
 obtain⟨z,its,n,r,hl,e⟩:=I.aAH hH
 rw[B8]at hl
 have hj:ns.idxOf i<ns.length:=O7 hi
 have hz:its.length≤sizeLine:=by rw[B8]at z;omega
 refine call_meets F.slot_list_remove ⟨_,e,rfl⟩ F.entry_list_remove (F.args_list_remove_2 _ _) (MeetsSeq.list_remove l its.toArray n (.int i t) (Tr (.int i)) (λy hy=>Uu r y (by simpa using hy)) (ns.idxOf i) (by rw[C9];omega) ?_ ?_ (by rw[C9];exact hz)) ⟨e,?_⟩
 ·obtain⟨h1,h2⟩:=int_at r i (m:=ns.idxOf i) (by rw[C9];omega)
  rw[h2,b9]
  exact beq_self_eq_true i
 ·intro m hm hlt
  obtain⟨h1,h2⟩:=int_at r i hm
  rw[h2]
  exact beq_eq_false_iff_ne.mpr (Af h1 hlt)
 ·refine⟨.non,_,I.aAG (its':=its.eraseIdx (ns.idxOf i)) hH e ?_ ?_ ?_,rfl,q⟩
  ·rw[T1]
  ·have:=r.eraseIdx (ns.idxOf i)
   rw[qg]at this
   exact this
  ·rw[B8]
   have:=Ec ns (ns.idxOf i)
   omega
def HS(K:aD):V→List V→Hp→VK→Prop:=λx vs H Q=>∃(l:Addr)(ns:List Int)(i:Int),x=.ref l∧vs=[.int i]∧pY K H l (ns.map V.int)∧i∈ns∧Q (.int (ns.idxOf i)) H
theorem qi:MtM X "list.index" (HS X.K):=by
 intro pins s σ H x vs v us Q I rx rv h
 obtain⟨l,ns,i,rfl,rfl,hq,hi,q⟩:=h
 cases rx
 obtain⟨u,rfl,ru⟩:=rv.one
 obtain⟨t,rfl⟩:=ru
 obtain⟨its,r,pl,z⟩:=I.list hq
 have hl:=r.length
 rw[B8]at hl z
 have hj:ns.idxOf i<ns.length:=O7 hi
 have hsl:sizeLine<2 ^ 62:=by decide
 obtain⟨⟨cls,dd,data,sl⟩,ho,hc,n,hd⟩:=pl.isList
 dsimp only at hc hd
 subst hc hd
 refine call_meets F.slot_list_index ⟨_,ho,rfl⟩ F.entry_list_index (F.args_list_index_2 _ _) (SeqAt.list_indexAt l its.toArray n dd sl (.int i t) (Tr (.int i)) (ns.idxOf i) (by rw[C9];omega) (by omega) ?_ ?_) ⟨ho,λy hy=>MeetsSeq.EqGives.at (Uu r y (by simpa using hy)) _ _,?_⟩
 ·obtain⟨h1,h2⟩:=int_at r i (m:=ns.idxOf i) (by rw[C9];omega)
  rw[h2,b9]
  exact beq_self_eq_true i
 ·intro m hm hlt
  obtain⟨h1,h2⟩:=int_at r i hm
  rw[h2]
  exact beq_eq_false_iff_ne.mpr (Af h1 hlt)
 ·exact⟨.int (ns.idxOf i),H,I.tok _,⟨_,rfl⟩,q⟩
end
section
variable{K:aD}{X:Cx}{a b e:Expr}{ta tb te:TE}{f g:FE}{i:Nat}{π:FP}{pos apos cpos:Pos}{m:Str}
def YD(i:Nat)(π:FP)(g f:FE):GS:=λenv=>match env[i]?,π (rE env),g (rE env),f (rE env)with
 | some (.own d0),some p,some (.int k),some (.int y)=>(match fD p d0 with
  | some (.lst ds)=>(match intsOf ds with
   | some ns=>if 0≤k∧k.toNat≤ns.length∧ns.length<1000 then .next (env.set i (.own (eN p d0 (.lst ((ns.take k.toNat++y::ns.drop k.toNat).map D.int)))))else .bad
   | none=>.bad)
  | _=>.bad)
 | _,_,_,_=>.bad
theorem aD7(h:EvP K ta i π)(hx:Ea K tb g)(he:Ea K te f):ZV K (lU (Qi K "list" Ii ta (fJ tb (fJ te mJ)))) (YD i π g f):=λB E σ H env r p=>by
 unfold YD at p
 split at p
 ·rename_i d0 pp k y q1 q2 q3 q3'
  split at p
  ·rename_i ds q4
   split at p
   ·rename_i ns q5
    split at p
    ·rename_i hc
     obtain⟨c0,c1,c2⟩:=hc
     obtain⟨v0,a,xs,Bs,k1,k2,k3,k4,k5,k6⟩:=r.GF q1 q4
     have ed:=rC q5
     subst ed
     have ex:=gZ.mp (eY.rv _ _ _ k5)
     subst ex
     refine h σ H (rE env) v0 pp _ _ r.r k1 q2 k2 λH1 s1=>⟨.inl ⟨rfl,_,pY.of (s1 _ _ k3)⟩,?_⟩
     refine hx σ H1 H1 (rE env) _ _ (Zn.self K H1) (r.r.same s1) q3 λu H2 Z2 s2 t2 z2 ru=>he σ H2 H2 (rE env) _ _ (Zn.self K H2) (r.r.same (s1.trans s2)) q3' λw H3 Z3 s3 t3 z3 Oa=>?_
     unfold Rv at ru Oa
     subst ru Oa
     have BV:=s1.trans (s2.trans s3)
     refine⟨a,_,k,.int y,rfl,rfl,BV _ _ k3,c0,by rw[B8];exact c1,Qu (by rw[B8];omega),p _ ?_⟩
     have e:(ns.map V.int).take k.toNat++V.int y::(ns.map V.int).drop k.toNat=(ns.take k.toNat++y::ns.drop k.toNat).map V.int:=by rw[K3,D2,List.map_take,List.map_drop]
     rw[e]
     exact k6 H3 _ _ nil BV (Bo _ _ (cV _) (gZ.mpr rfl)) λb z=>z.elim
    ·exact p.elim
   ·exact p.elim
  ·exact p.elim
 ·exact p.elim
def HW(i:Nat)(π:FP)(f:FE):GS:=λenv=>match env[i]?,π (rE env),f (rE env)with
 | some (.own d0),some p,some (.int y)=>(match fD p d0 with
  | some (.lst ds)=>(match intsOf ds with
   | some ns=>if y∈ns then .next (env.set i (.own (eN p d0 (.lst ((ns.eraseIdx (ns.idxOf y)).map D.int)))))else .bad
   | none=>.bad)
  | _=>.bad)
 | _,_,_=>.bad
theorem aD8(h:EvP K ta i π)(he:Ea K te f):ZV K (lU (Qi K "list" Ij ta (fJ te mJ))) (HW i π f):=λB E σ H env r p=>by
 unfold HW at p
 split at p
 ·rename_i d0 pp y q1 q2 q3
  split at p
  ·rename_i ds q4
   split at p
   ·rename_i ns q5
    split at p
    ·rename_i hc
     obtain⟨v0,a,xs,Bs,k1,k2,k3,k4,k5,k6⟩:=r.GF q1 q4
     have ed:=rC q5
     subst ed
     have ex:=gZ.mp (eY.rv _ _ _ k5)
     subst ex
     refine h σ H (rE env) v0 pp _ _ r.r k1 q2 k2 λH1 s1=>⟨.inl ⟨rfl,_,pY.of (s1 _ _ k3)⟩,?_⟩
     refine he σ H1 H1 (rE env) _ _ (Zn.self K H1) (r.r.same s1) q3 λw H2 Z2 s2 t2 z2 Oa=>?_
     unfold Rv at Oa
     subst Oa
     have s12:=s1.trans s2
     refine⟨a,ns,y,rfl,rfl,s12 _ _ k3,hc,p _ ?_⟩
     exact k6 H2 _ _ nil s12 (Bo _ _ (cV _) (gZ.mpr rfl)) λb z=>z.elim
    ·exact p.elim
   ·exact p.elim
  ·exact p.elim
 ·exact p.elim
theorem aBx(h:XP K X a ta i π)(hx:XR K X b tb g)(he:XR K X e te f)(hp:PE X a ta→PE X b tb→PE X e te→PS X (.Expr (.Call (.Attribute a m apos) [b,e] [] cpos) pos) (lU (Qi K "list" Ii ta (fJ tb (fJ te mJ))))):YS K X (.Expr (.Call (.Attribute a m apos) [b,e] [] cpos) pos) (lU (Qi K "list" Ii ta (fJ tb (fJ te mJ)))) (jA i (YD i π g f)):=Ku i (hp h.pe hx.pe he.pe) (aD7 h.ev hx.ev he.ev)
theorem QV(h:XP K X a ta i π)(he:XR K X e te f)(hp:PE X a ta→PE X e te→PS X (.Expr (.Call (.Attribute a m apos) [e] [] cpos) pos) (lU (Qi K "list" Ij ta (fJ te mJ)))):YS K X (.Expr (.Call (.Attribute a m apos) [e] [] cpos) pos) (lU (Qi K "list" Ij ta (fJ te mJ))) (jA i (HW i π f)):=Ku i (hp h.pe he.pe) (aD8 h.ev he.ev)
def Le(a b:D):Option D:=match a,b with
 | .lst ds,.int i=>(intsOf ds).bind λns=>if i∈ns then some (.int (ns.idxOf i))else none
 | _,_=>none
theorem ql(ha:XR K X a ta f)(he:XR K X e te g)(hp:PE X a ta→PE X e te→PE X (.Call (.Attribute a m apos) [e] [] pos) (Qi X.K "list" (HS X.K) ta (fJ te mJ))):XN K X (.Call (.Attribute a m apos) [e] [] pos) (Qi K "list" (HS K) ta (fJ te mJ)) (f2 Le f g):=⟨ha.hk,by have:=ha.hk;subst this;exact hp ha.pe he.pe,λσ H e d Q re q k=>by
 obtain⟨d1,q1,q⟩:=aX q
 obtain⟨d2,q2,q⟩:=aX q
 unfold Le at q
 split at q
 ·obtain⟨ns,q3,q⟩:=aX q
  split at q
  ·rename_i hi
   cases q
   refine ha.ev σ H H e _ _ (Zn.self K H) re q1 λv H1 Z1 s1 t1 z1 rv=>?_
   have rv:=z1.sm.rv _ _ rv
   obtain⟨p,rfl,r2⟩:=wI q3 rv
   refine⟨.inl ⟨rfl,_,r2⟩,he.ev σ H1 H1 e _ _ (Zn.self K H1) (re.same s1) q2 λu H2 Z2 s2 t2 z2 ru=>?_⟩
   unfold Rv at ru
   subst ru
   obtain⟨p',e',r3⟩:=wI q3 (s2.rv _ _ rv)
   cases e'
   exact⟨p,ns,_,rfl,rfl,r3,hi,k _ H2 (s1.trans s2) (.iI rfl (by unfold Rv;rfl))⟩
  ·cases q
 ·cases q⟩
def Lf(a b:D):Option D:=match a with
 | .dk ks ds=>(Oe b).bind λk=>match posK ks k with
  | none=>some .non
  | some j=>(ds[j]?).bind λr=>if r.iI=true then some r else none
 | _=>none
theorem Lg(hu:X.A.units+1<cLine)(ha:XR K X a ta f)(he:XR K X e te g)(mm:M1 X a "get" apos e cpos):XN K X (.Call (.Attribute a "get" apos) [e] [] cpos) (iu ta te) (f2 Lf f g):=⟨ha.hk,iw hu ha.pe he.pe mm,λσ H e d Q re q k=>by
 obtain⟨d1,q1,q⟩:=aX q
 obtain⟨d2,q2,q⟩:=aX q
 unfold Lf at q
 split at q
 ·rename_i ks ds _
  obtain⟨kk,h1,q⟩:=aX q
  refine ha.ev σ H H e _ _ (Zn.self K H) re q1 λx H1 Z1 s1 t1 z1 rx=>?_
  have rx:=z1.sm.rv _ _ rx
  have rx':=rx
  unfold Rv at rx
  obtain⟨p,xs,r1,r2,r3,r4⟩:=rx
  refine⟨p,r1,.inl ⟨_,r2⟩,he.ev σ H1 H1 e _ _ (Zn.self K H1) (re.same s1) q2 λu H2 Z2 s2 t2 z2 ru=>?_⟩
  have ru:=z2.sm.rv _ _ ru
  have rx2:=s2.rv _ _ rx'
  unfold Rv at rx2
  obtain⟨p',xs',e1,r2',r3',r4'⟩:=rx2
  rw[r1]at e1
  cases e1
  refine⟨uH (ks.zip xs') kk,.inl ⟨_,kk,r2',Hx h1 ru,rfl⟩,?_⟩
  rw[qG r3']
  split at q
  ·rename_i hn
   cases q
   rw[hn]
   exact k _ H2 (s1.trans s2) (.iI rfl (by unfold Rv;rfl))
  ·rename_i j hj
   obtain⟨r,q4,q⟩:=aX q
   split at q
   ·rename_i im
    cases q
    obtain⟨v,e1,e2⟩:=r4'.get q4
    rw[hj,B7,e1]
    exact k v H2 (s1.trans s2) (.iI im e2)
   ·cases q
 ·cases q⟩
def aBy:List D→Option D
 | [.int a]=>some (.int (if a<0 then -a else a))
 | _=>none
def aF8:List V→Hp→VK→Prop:=λxs H Q=>∃a:Int,xs=[.int a]∧Q (.int (if a<0 then -a else a)) H
theorem aD9:wH K aF8 aBy:=λvs H ds d Q rs q k=>by
 unfold aBy at q
 split at q
 ·cases q
  obtain⟨v,rfl,r⟩:=qH rs
  unfold Rv at r
  subst r
  exact⟨_,rfl,k _ H (aU.refl _) (.iI rfl (by unfold Rv;rfl))⟩
 ·cases q
theorem aEa:lV X (.builtin "abs") aF8:=by
 intro pins s σ H xs us Q I r h
 obtain⟨a,rfl,q⟩:=h
 obtain⟨u,rfl,rx⟩:=vals1 r
 obtain⟨t,rfl⟩:=rx
 exact call_abs_int λu tk=>⟨.int _,H,I.tok _,⟨u,rfl⟩,q⟩
end
end L2


namespace L2
open PySem PySem.Spec PySem.Calls PyProof.Rows PyProof.V
def aEb(ks:List Key)(vs:List V):List (V×V):=(ks.zip vs).map λkv=>(kV kv.1,kv.2)
def aHA(K:aD)(t:List (TE×TE))(ks:List Key)(is:List Nat)(fs:FA):Prop:=∀(σ:St)(H:Hp)(e:DE)(ds:List D)(xs:List V)(Q:List (V×V)→Hp→Prop),yV K H e σ→fs e=some ds→xs.length=is.length →
 (∀(k i:Nat),is[k]?=some i→∃x,xs[k]?=some x∧σ[i]?=some (some x))→(∀vs H',aU H H'→Ue K H H' ds vs→Q (aEb ks (xs++vs)) H')→DQ t σ H Q
structure XDm(K:aD)(X:Cx)(p:Pos)(keys:List (Option Expr))(vals:List Expr)(t:List (TE×TE))(ks:List Key)(is:List Nat)(fs:FA):Prop where
 hk:X.K=K
 pps:PPs X p keys vals t
 ev:aHA K t ks is fs
section
variable{K:aD}{X:Cx}{st:Stmt}{e:Expr}{vals:List Expr}{keys:List (Option Expr)}{te:TE}{f:FE}{fs:FA}{pos p p1:Pos}{i j:Nat}{t:List (TE×TE)}{ks:List Key}{is:List Nat}{x:Str}
def aIp(ks:List Key)(is:List Nat)(fs:FA):GS:=λenv=>match fs (rE env),jz env is with
 | some ds,some os=>if decide is.Nodup=true∧decide ks.Nodup=true∧ks.length=os.length+ds.length∧ks.length≤15 then .ret (.dk ks (os++ds))else .bad
 | _,_=>.bad
end
section
variable{X:Cx}{K:aD}{x y:Str}{p p2 pos pos2:Pos}{a b:Expr}{t:TA}{fs:FA}
theorem Yn(lo:Int):∀(m:Nat)(us:List Value)(s:Nat),us.length=m→(∀(j:Nat)(w:Value),us[j]?=some w→∃t,w=.int (lo+((s+j:Nat):Int)) t)→Vals ((List.range' s m).map λk=>V.int (lo+((k:Nat):Int))) us
 | 0,us,s,hl,_=>by
  have:us=[]:=I0 hl
  subst this
  exact .nil
 | m+1,us,s,hl,hw=>by
  cases us with
  | nil=>cases hl
  | cons w us=>
   rw[List.range'_succ,D2]
   obtain⟨t0,e0⟩:=hw 0 w rfl
   refine .cons ⟨t0,by rw[e0];rfl⟩ (Yn lo m us (s+1) (by simpa using hl) λj w' hj=>?_)
   obtain⟨t1,e1⟩:=hw (j+1) w' (by simpa using hj)
   exact⟨t1,by rw[e1,show s+(j+1)=s+1+j by omega]⟩
def Uv:List V→Hp→VK→Prop:=λvs H Q=>∃lo hi:Int,vs=[.int lo,.int hi]∧0≤lo∧lo≤1000∧0≤hi∧hi≤1000∧∀l,H l=none→Q (.ref l) (upd H l (.lst ((D5 (hi-lo).toNat).map λk=>V.int (lo+((k:Nat):Int)))))
theorem qm(hc:X.calm=true)(pins:List (Addr×Obj))(s:Shared)(σ:St)(H:Hp)(vs:List V)(us:List Value)(Q:VK)(I:Inv X pins σ H s)(rv:Vals vs us)(h:Uv vs H Q) :
  wpAny (model X.prog X.w) X.A (call (.type "range") us) (λu' s'=>wpAny (model X.prog X.w) X.A (call (.type "list") [u']) (EP X pins σ Q) X.xe s') X.xe s:=by
 obtain⟨lo,hi,rfl,h0,h1,h2,h3,q⟩:=h
 cases rv with
 | cons r rr=>
  cases rr with
  | cons r' rr=>
   cases rr
   obtain⟨t,rfl⟩:=r
   obtain⟨t',rfl⟩:=r'
   refine call_range_2 ?_
   refine call_list_range (n:=(hi-lo).toNat) (I.ok.hd hc) (IsRange.new _ _ _ _ _ _ _) (small_one (by omega) (by omega) (by omega) (by omega)) (by rw[rangeSize_one];split<;>omega) (by omega) λh' tk acc c kp g it=>?_
   have I1:Inv X pins σ H {s with heap:=s.heap.push {cls:=.type "range", data:=.fields #[.int lo t,.int hi t',.int 1 s.toks]},toks:=s.toks+1}:=I.kept (t':=s.toks+1) λb o e=>Heap.get?_push_of_some _ e
   generalize hg':s.heap.push {cls:=.type "range", data:=.fields #[.int lo t,.int hi t',.int 1 s.toks]}=hp at *
   have hs:H hp.objs.size=none:=I1.hok.fresh (C8 _)
   have rr:Vals ((D5 (hi-lo).toNat).map λk=>V.int (lo+((k:Nat):Int))) acc.toList:=by
    rw[List.range_eq_range']
    refine Yn lo _ acc.toList 0 (by rw[G6];exact it.1) λj w hj=>?_
    obtain⟨t1,e1⟩:=it.2 j w (by rw[←K5];exact hj)
    exact⟨t1,by rw[e1,show lo+(j:Int)*1=lo+((0+j:Nat):Int) by omega]⟩
   exact⟨.ref _,_,I1.laid (t':=tk) (a:=hp.objs.size) (o:=.lst ((D5 (hi-lo).toNat).map λk=>V.int (lo+((k:Nat):Int)))) kp (C8 _) ⟨by rw[B8,E6];exact N7 (nH (by omega)),acc.toList,c,rr,by simpa[seqObj]using g⟩,rfl,q _ hs⟩
theorem YF(hc:X.calm=true)(ha:PA X [a,b] t)(hg:Gl X x)(hm:X.mg x=none)(hv:bootBuiltins x=some (.type "list")) (hg2:Gl X y) (hm2:X.mg y=none) (hv2:bootBuiltins y=some (.type "range")) (hn:x ≠ "__name__" := by decide) (hdb:(x==("__debug__" : Str))=false:=by decide) (hn2:y ≠ "__name__" := by decide) (HH:(y==("__debug__" : Str))=false:=by decide)
  (he:starEach [a,b] X.env=[(false,eval a X.env),(false,eval b X.env)]:=by rfl) (he1:starEach [b] X.env=[(false,eval b X.env)]:=by rfl) (he2:starEach [.Call (.Name y p2) [a,b] [] pos2] X.env=[(false,eval (.Call (.Name y p2) [a,b] [] pos2) X.env)]:=by rfl) :
  PE X (.Call (.Name x p) [.Call (.Name y p2) [a,b] [] pos2] [] pos) (tCB Uv t):=by
 intro pins s σ H Q I h
 refine wpAny_Call_Name_kw (uF I hg hm hv ?_ hn hdb)
 refine K8 ?_ he2 rfl
 rw[he2]
 refine Calls.spliced_cons (wpAny_Call_Name_kw (uF I hg2 hm2 hv2 ?_ hn2 HH))
 exact K8 (gQ (ha pos2 pins s σ H _ I h) λus s1 ⟨vs,H1,I1,r1,q1⟩=>gQ (qm hc pins s1 σ H1 vs us Q I1 r1 q1) λu' s' z=>Calls.spliced_nil z) (by rw[he,he1]) (by rw[he1];rfl)
def Cp:List D→Option D
 | [.int lo,.int hi]=>if 0≤lo∧lo≤1000∧0≤hi∧hi≤1000 then some (.lst ((D5 (hi-lo).toNat).map λk=>D.int (lo+((k:Nat):Int))))else none
 | _=>none
theorem YG(h:XA K X [a,b] t fs)(hg:Gl X x)(hm:X.mg x=none)(hv:bootBuiltins x=some (.type "list")) (hg2:Gl X y) (hm2:X.mg y=none) (hv2:bootBuiltins y=some (.type "range")) (hc:X.calm=true:=by rfl) (hn:x ≠ "__name__" := by decide) (hdb:(x==("__debug__" : Str))=false:=by decide) (hn2:y ≠ "__name__" := by decide) (HH:(y==("__debug__" : Str))=false:=by decide)
  (he:starEach [a,b] X.env=[(false,eval a X.env),(false,eval b X.env)]:=by rfl) (he1:starEach [b] X.env=[(false,eval b X.env)]:=by rfl) (he2:starEach [.Call (.Name y p2) [a,b] [] pos2] X.env=[(false,eval (.Call (.Name y p2) [a,b] [] pos2) X.env)]:=by rfl) :
  XN K X (.Call (.Name x p) [.Call (.Name y p2) [a,b] [] pos2] [] pos) (tCB Uv t) (fL Cp fs):=⟨h.hk,YF hc h.pa hg hm hv hg2 hm2 hv2 hn hdb hn2 HH he he1 he2,λσ H e d Q re q k=>by
 obtain⟨ds,q1,q2⟩:=aX q
 unfold Cp at q2
 split at q2
 ·rename_i lo hi
  split at q2
  ·rename_i hl
   cases q2
   refine h.ev σ H H e _ _ (Zn.self K H) re q1 λvs H1 Z1 s1 t1 z1 rvs=>?_
   unfold eE at rvs
   obtain⟨v1,r1,rfl,e1,rvs⟩:=rvs
   unfold eE at rvs
   obtain⟨v2,r2,rfl,e2,rvs⟩:=rvs
   unfold eE at rvs
   subst rvs
   unfold Rv at e1 e2
   subst e1 e2
   refine⟨lo,hi,rfl,hl.1,hl.2.1,hl.2.2.1,hl.2.2.2,λl hl=>k _ _ (s1.trans (cT hl _)) ((rB (aU.refl _) (.fZ ?_ ?_) hl).back s1)⟩
   ·have:=cV ((D5 (hi-lo).toNat).map λk=>lo+((k:Nat):Int))
    rw[K0]at this
    exact this
   ·have:=gZ (K:=K) (H:=H1) (ns:=(D5 (hi-lo).toNat).map λk=>lo+((k:Nat):Int)) |>.mpr rfl
    rw[K0]at this
    rw[show (λk:Nat=>V.int (lo+(k:Int)))=V.int∘λk:Nat=>lo+(k:Int)from rfl,←K0]
    exact this
  ·cases q2
 ·cases q2⟩
end
end L2


namespace L2
open PySem PySem.Spec PySem.Calls PyProof.Rows PyProof.V
section
variable{K:aD}{X:Cx}{a e:Expr}{ta te:TE}{f:FE}{π:FP}{i:Nat}{m:Str}{apos cpos pos:Pos}
def aIq(i:Nat)(π:FP)(f:FE):GS:=λenv=>match env[i]?,π (rE env),f (rE env)with
 | some (.own d0),some p,some (.int k)=>(match fD p d0 with
  | some (.lst ds)=>(match intsOf ds with
   | some ns=>if 0≤k∧k.toNat<ns.length∧ns.length<1000 then .next (env.set i (.own (eN p d0 (.lst ((ns.eraseIdx k.toNat).map D.int)))))else .bad
   | none=>.bad)
  | _=>.bad)
 | _,_,_=>.bad
end
end L2


namespace L2
open PySem PySem.Spec PySem.Calls PyProof.Rows PyProof.V
section
variable{K:aD}{X:Cx}{a b e:Expr}{es:List Expr}{ta tb te t:TE}{f g:FE}{tA:TA}{fs:FA}{pos apos cpos p2:Pos}{m:Str}
structure aIr(mg:Str→Option Value)(x:Str)(i:Str):Prop where
 ex:∃t,mg x=some (.str i t)
def aCC(i j:Int):Prop:=0<j∧j.natAbs.log2<9000
instance:∀i j,Decidable (aCC i j):=λi j=>by unfold aCC;exact inferInstance
end
section
variable{P:Program}{w:World}{K:aD}{tg:Expr}
end
section
variable{K:aD}{X:Cx}{tg e l:Expr}{t tl:TE}{f:FE}
end
end L2


namespace L2
open PySem PySem.Spec PySem.Calls PyProof.Rows PyProof.V
section
variable{K:aD}{X:Cx}{a b c e:Expr}{ta tb tc te t:TE}{f g fa fb fc:FE}{pos apos cpos:Pos}{m:Str}
end
end L2


namespace L2
open PySem PySem.Spec PySem.Calls PyProof.Rows PyProof.V
section
variable{K:aD}{B H H':Hp}{env:EN}{σ:St}{i j:Nat}{v:V}{d:D}
end
end L2


namespace L2
open PySem PySem.Spec PySem.Calls PyProof.Rows PyProof.V
abbrev Ol(h:Heap)(l:List Env):Heap:=h9 h (frs l)
structure Fl(l:List Env)(s1:Shared)(e:Addr)(cls:Value)(s':Shared):Prop where
 Uw:∃a0,Heap.FlyingW (Ol s1.heap l) l e cls a0 s'.heap
 up:s1.heap.UpToSlots s'.heap
 os:s'.os=s1.os
 bare:AllBare s'.gens
def Om(P:Program)(w:World):BR:=λouter H s E ev s'=>∃e cls H' s1,ev=.ref e∧s1.os=s.os∧AllBare s1.gens∧Un (frs outer) [] H H' s.heap s1.heap∧vL P w H' s1.heap∧Fl outer s1 e cls s'∧E cls none H'
theorem Er{h:Heap}{l:List Env}{b:Addr}{o:Obj}(e:h.get? b=some o)(hb:b∉frs l):(Ol h l).get? b=some o:=Z6 _ e hb
theorem Es{h:Heap}{l:List Env}{b:Addr}(hb:b∈frs l):(Ol h l).get? b=none:=Y9 _ hb
theorem Ux{h:Heap}{l:List Env}{b:Addr}{o:Obj}(e:(Ol h l).get? b=some o):h.get? b=some o∧b∉frs l:=by
 refine⟨b4 _ e,λhb=>?_⟩
 rw[Es hb]at e
 cases e
theorem Rj{h:Heap}{l:List Env}{b:Addr}(e:(Ol h l).get? b=none)(hb:b∉frs l):h.get? b=none:=by
 cases q:h.get? b with
 | none=>rfl
 | some o=>rw[Er q hb]at e;cases e
theorem Cq{h base:Heap}:∀{l:List Env},h.FunFrames base l→∀b∈frs l,∃o,h.get? b=some o∧∀vs,o.data≠.fields vs
 | [],_,b,hb=>by cases hb
 | env::l,⟨_,⟨L,o,hf,_,ho,hd⟩,r⟩,b,hb=>by
  unfold frs at hb
  rw[L4,hf]at hb
  rcases C6.mp hb with z | z
  ·rw[z];exact⟨o,ho,hd⟩
  ·exact Cq r b z
theorem Lh{h base base':Heap}:∀{l:List Env},h.FunFrames base l→(∀b∈frs l,base'.get? b=none)→h.FunFrames base' l
 | [],_,_=>trivial
 | env::l,⟨h1,⟨L,o,hf,_,ho,hd⟩,r⟩,k=>by
  have e:frs (env::l)=L::frs l:=by unfold frs;rw[L4,hf]
  exact⟨h1,⟨L,o,hf,k L (by rw[e];exact D1),ho,hd⟩,Lh r λb hb=>k b (by rw[e];exact C7 _ hb)⟩
section
variable{P:Program}{w:World}{l:List Env}{s1 s':Shared}{e:Addr}{cls:Value}{H:Hp}{base:Heap}
theorem Fl.keep(f:Fl l s1 e cls s'){b:Addr}{o:Obj}(q:s1.heap.get? b=some o)(hb:b∉frs l):s'.heap.get? b=some o:=by
 obtain⟨a0,x⟩:=f.Uw
 exact x.1 b o (Er q hb)
theorem Fl.slot(f:Fl l s1 e cls s')(ff:s1.heap.FunFrames base l){b:Addr}{o:Obj}(q:s1.heap.get? b=some o)(hb:b∈frs l):∃sl,s'.heap.get? b=some {o with slots:=sl}:=by
 obtain⟨o',q',hd⟩:=Cq ff b hb
 rw[q]at q'
 cases q'
 exact f.up b o q hd
theorem Fl.un(f:Fl l s1 e cls s')(ff:s1.heap.FunFrames base l):Un (frs l) [] H H s1.heap s'.heap where
 keep:=λb o q _ hb _=>f.keep q hb
 slot:=λb o q _ hb _=>f.slot ff q hb
 free:=λ_ _ _ n _=>n
 there:=λb o q _=>by
  by_cases hb:b∈frs l
  ·obtain⟨sl,z⟩:=f.slot ff q hb
   exact⟨_,z⟩
  ·exact⟨o,f.keep q hb⟩
 tups:=λ_ _ q=>q
 Gx:=λ_ _ _ q=>q
 Ja:=λb ps q=>⟨#[],by rw[q];simp⟩
theorem Fl.hok(f:Fl l s1 e cls s')(hok:vL P w H s1.heap)(hf:∀b∈frs l,H b=none):vL P w H s'.heap:=λb u eb=>
 (hok b u eb).stay (λc v hc q=>f.keep q λz=>by
  have hz:=hf c z
  rcases hc with hc | hc
  ·rw[hc,eb]at hz;cases hz
  ·rw[hc]at hz;cases hz) (λ_ q=>q) λ_ _ q=>q
end
section
variable{X:Cx}{pins:List (Addr×Obj)}{σ:St}{H:Hp}{s s1 s':Shared}{e:Addr}{cls ev:Value}{E:XK}
theorem Inv.landed(I:Inv X pins σ H s1)(f:Fl X.stack s1 e cls s'):Inv X pins σ H s':=
 I.call' (ch:=[]) f.os (f.un I.stack) (f.hok I.hok I.Th) f.bare λb z=>absurd z (by simp)
theorem Inv.ghost(I:Inv X pins σ H s)(c:Om X.prog X.w X.stack H s E ev s'):∃e cls H' s1,ev=.ref e∧Inv X pins σ H' s1∧Fl X.stack s1 e cls s'∧E cls none H':=by
 obtain⟨e,cls,H',s1,h1,h2,h3,h4,h5,h6,h7⟩:=c
 exact⟨e,cls,H',s1,h1,I.call' (ch:=[]) h2 h4 h5 h3 λb z=>absurd z (by simp),h6,h7⟩
end
section
variable{P:Program}{w:World}{env:Env}{outer:List Env}{L e:Addr}{cls a0:Value}{s0 s1:Shared}{H0 H:Hp}{E:XK}{base h':Heap}{s2:Shared}
theorem aBz(hf:env.frame=some L)(ff:s1.heap.FunFrames base (env::outer))(hL0:s0.heap.get? L=none)(hLH:H L=none)(hLo:L∉frs outer)(un:Un (frs outer) [] H0 H s0.heap s1.heap)(hok:vL P w H s1.heap)(hos:s1.os=s0.os)(hg:AllBare s1.gens)
  (fl:Heap.FlyingW (Ol s1.heap (env::outer)) outer e cls a0 h') (up:s1.heap.UpToSlots h') (os2:s2.os=s1.os) (aF9:AllBare s2.gens) (hs2:s2.heap=h') (q:E cls none H):Om P w outer H0 s0 E (.ref e) s2:=by
 have ef:frs (env::outer)=L::frs outer:=by unfold frs;rw[L4,hf]
 obtain⟨oL,hoL,hdL⟩:=Cq ff L (by rw[ef];exact D1)
 obtain⟨sl,hL'⟩:=up L oL hoL hdL
 obtain⟨k1,k2,k3,oe,vs,T,oT,ts,he,hc,hd,h1,hnT,hTe,hT,hdT,h3⟩:=fl
 have neL:∀{b:Addr} {o:Obj} {vs:Array Value},h'.get? b=some o→o.data=.fields vs→b≠L∧b∉frs outer:=λ{b o vs} q1 q2=>by
  refine⟨λz=>?_,λz=>?_⟩
  ·rw[z,hL']at q1
   cases q1
   exact hdL vs q2
  ·obtain⟨o',z1,z2⟩:=Cq k3 b z
   rw[q1]at z1
   cases z1
   exact z2 vs q2
 have hself:(s1.heap.update L (λo=>{o with slots:=sl})).get? L=some {oL with slots:=sl}:=Heap.get?_update_self _ hoL ((PySem.W.kts_isFreed oL sl).trans (Heap.get?_some_iff.mp hoL).2)
 have hoth:∀b,b≠L→(s1.heap.update L (λo=>{o with slots:=sl})).get? b=s1.heap.get? b:=λb hb=>Heap.get?_update_other _ _ (Ne.symm hb)
 have fresh:∀{b:Addr} {o:Obj} {vs:Array Value},h'.get? b=some o→o.data=.fields vs→(Ol s1.heap (env::outer)).get? b=none→(Ol (s1.heap.update L (λo=>{o with slots:=sl})) outer).get? b=none:=λ{b o vs} q1 q2 q3=>by
  obtain⟨n1,n2⟩:=neL q1 q2
  have:=Rj q3 (by rw[ef];exact λz=>(C6.mp z).elim n1 n2)
  cases q:(Ol (s1.heap.update L (λo=>{o with slots:=sl})) outer).get? b with
  | none=>rfl
  | some o'=>
   have:=(Ux q).1
   rw[hoth b n1]at this
   simp_all
 refine⟨e,cls,H,{s1 with heap:=s1.heap.update L (λo=>{o with slots:=sl})},rfl,hos,hg,?_,?_,⟨⟨a0,?_⟩,?_,os2,aF9⟩,q⟩
 ·have old:∀{b:Addr} {o:Obj},s0.heap.get? b=some o→b≠L:=λ{b o} q z=>by rw[z,hL0]at q;cases q
  refine⟨λb o q n hb hx=>?_,λb o q n hb hx=>?_,un.free,λb o q hx=>?_,un.tups,un.Gx,un.Ja⟩
  ·show (s1.heap.update L _).get? b=_
   rw[hoth b (old q)];exact un.keep b o q n hb hx
  ·show ∃sl',(s1.heap.update L _).get? b=_
   rw[hoth b (old q)];exact un.slot b o q n hb hx
  ·show ∃o',(s1.heap.update L _).get? b=_
   rw[hoth b (old q)];exact un.there b o q hx
 ·intro b u eb
  refine(hok b u eb).stay (λc v hc q=>?_) (λ_ q=>q) λ_ _ q=>q
  have:c≠L:=λz=>by
   rcases hc with hc | hc
   ·rw[←hc,z,hLH]at eb;cases eb
   ·rw[z,hLH]at hc;cases hc
  show (s1.heap.update L _).get? c=_
  rw[hoth c this];exact q
 ·rw[hs2]
  refine⟨λb o q=>?_,fresh he hd k2,Lh k3 λb hb=>Es hb,oe,vs,T,oT,ts,he,hc,hd,h1,fresh hT hdT hnT,hTe,hT,hdT,h3⟩
  obtain⟨q1,q2⟩:=Ux q
  by_cases z:b=L
  ·subst z
   rw[hself]at q1
   cases q1
   exact hL'
  ·rw[hoth b z]at q1
   exact k1 b o (Er q1 (by rw[ef];exact λy=>(C6.mp y).elim z q2))
 ·rw[hs2]
  intro b o q hn
  by_cases z:b=L
  ·subst z
   have q:(s1.heap.update b _).get? b=some o:=q
   rw[hself]at q
   cases q
   exact⟨sl,hL'⟩
  ·have q:(s1.heap.update L _).get? b=some o:=q
   rw[hoth b z]at q
   exact up b o q hn
end
section
variable{P:Program}{w:World}{K:aD}{mg:Str→Option Value}{base:Heap}{N:List Str}{qual:Str}{scope:Scope}{f:Addr}{cd:Value}{A:Around}{outer:List Env}{s0:Shared}{H0:Hp}{E:XK}
theorem qp{pins:List (Addr×Obj)}{σ:St}{H:Hp}{s:Shared}{CX:BR}(I:Inv (mD CX P w K mg base N qual scope f cd A outer s0 H0 E) pins σ H s) :
  s0.heap.get? s0.heap.objs.size=none∧H s0.heap.objs.size=none∧s0.heap.objs.size∉frs outer∧Un (frs outer) [] H0 H s0.heap s.heap∧vL P w H s.heap∧s.os=s0.os∧AllBare s.gens∧s.heap.FunFrames base (envOfC qual scope s0.heap.objs.size f cd::outer):=by
 refine⟨Heap.get?_none_of_le (C8 _),I.free,λz=>?_,I.base,I.hok,I.os,I.bare,I.stack⟩
 obtain⟨_,o,ho,_⟩:=I.ok.vW.mem z
 have:=Heap.lt_size ho
 exact absurd this (J7 _)
end
end L2


namespace L2
open PySem PySem.Spec PySem.Calls PyProof.Rows PyProof.V
abbrev GZ:=EN→Option Nat
def DZ(K:aD)(κ:Nat→Addr)(E:XK)(t:TS)(z:GZ):Prop:=∀(B:Hp)(D:Ends)(σ:St)(H:Hp)(env:EN)(i:Nat),Rel K B env σ H→z env=some i→(∀H',aU B H'→E (.ref (κ i)) none H')→t D σ H
structure YZ(K:aD)(κ:Nat→Addr)(X:Cx)(E:XK)(st:Stmt)(t:TS)(z:GZ):Prop where
 ps:PS X st t
 ev:DZ K κ E t z
structure YZB(K:aD)(κ:Nat→Addr)(X:Cx)(E:XK)(st:List Stmt)(t:TS)(z:GZ):Prop where
 ps:Wf X st t
 ev:DZ K κ E t z
def spR(K:aD)(κ:Nat→Addr)(n:Nat)(r:List D→Option Nat):Sp:=λvs H _ E=>∃ds i,ds.length=n∧eE K H ds vs∧r ds=some i∧∀H',aU H H'→E (.ref (κ i)) none H'
structure aJo(P:Program)(w:World)(K:aD)(mg:Str→Option Value)(base:Heap)(x:Str)(k:Nat)(n:Nat)(sp:Sp):Prop where
 ex:∃f fd ps,ps.length=n∧sZ P w K mg base (Om P w) k f fd ps sp∧Binds K fd ps []∧J6 K (.ref f)=true∧mg x=some (.ref f)
structure Yo(P:Program)(w:World)(K:aD)(mg:Str→Option Value)(base:Heap)(C:Addr)(m:Str)(k n:Nat)(df:Bool)(sp:Sp):Prop where
 ex:∃f fd ps,ps.length=n∧sZ P w K mg base (Om P w) k f fd ps sp∧Binds K fd ps []∧(df=true→Binds K fd ps [Value.none])∧Meth K C m f
theorem Rel.sub{K:aD}{B H:Hp}{env:EN}{σ:St}(r:Rel K B env σ H):aU B H:=let ⟨_,_,b⟩:=r;b.trans (jK _ _)
section
variable{K:aD}{κ:Nat→Addr}{X:Cx}{E:XK}{st:Stmt}{sts rest:List Stmt}{t u:TS}{z z1 z2:GZ}{g:GS}{c e o:Expr}{es:List Expr}{te ta:TE}{tA:TA}{tc:TT}{fc:FT}{f:FE}{fs:FA}{pos apos:Pos}{m:Str}
def zNo:GZ:=λ_=>none
theorem aEc:YZB K κ X E sts Jf zNo:=⟨Px,λB D σ H env i r q k=>by cases q⟩
theorem Rk(h:YZ K κ X E st t z):YZB K κ X E (st::rest) (aAq t Jf) z:=⟨Wn h.ps Px,λB D σ H env i r q k=>h.ev B _ σ H env i r q k⟩
def zIf(f:FT)(z1 z2:GZ):GZ:=λenv=>match f (rE env)with
 | some true=>z1 env
 | some false=>z2 env
 | none=>none
theorem aGa{s1 s2:List Stmt}(hc:XT K X c tc fc)(h1:YZB K κ X E s1 t z1)(h2:YZB K κ X E s2 u z2):YZ K κ X E (.If c s1 s2 pos) (aAs tc t u) (zIf fc z1 z2):=⟨aq hc.pt h1.ps h2.ps,λB D σ H env i r q k=>by
 unfold zIf at q
 split at q
 ·rename_i q1
  refine hc.ev σ H (rE env) true _ r.r q1 λH' s=>?_
  rw[if_pos rfl]
  exact h1.ev B D σ H' env i (r.same s) q k
 ·rename_i q1
  refine hc.ev σ H (rE env) false _ r.r q1 λH' s=>?_
  rw[if_neg (by decide)]
  exact h2.ev B D σ H' env i (r.same s) q k
 ·cases q⟩
def uN(C:Addr)(m:Str)(r:List D→Option Nat)(f:FE)(fs:FA)(dd:List D):DE→Option Nat:=λe=>(f e).bind λd=>match d with
 | .ins C' nm ds=>if C'=C∧m∉nm then(fs e).bind λas=>r (.ins C' nm ds::(as++dd))else none
 | _=>none
def PE1(X:Cx)(pins:List (Addr×Obj))(σ:St)(e:Expr)(t:TE):Prop:=∀(s:Shared)(H:Hp)(Q:VK),Inv X pins σ H s→t σ H Q→wpAny (model X.prog X.w) X.A (eval e X.env) (EP X pins σ Q) X.xe s
def PS1(X:Cx)(pins:List (Addr×Obj))(σ:St)(st:Stmt)(t:TS):Prop:=∀(s:Shared)(H:Hp)(D:Ends),Inv X pins σ H s→t D σ H→wpAny (model X.prog X.w) X.A (exec st X.env) (SP X pins D) X.xe s
def QW(CX:BR)(X:Cx)(pins:List (Addr×Obj))(σ:St)(E:XK):Prop:=∀(H:Hp)(s:Shared)(e:Value)(s':Shared),Inv X pins σ H s→CX X.stack H s E e s'→X.xe e s'
theorem aBA{CX:BR}{k:Nat}{f:Addr}{fd:FuncData}{ps:List Str}{sp:Sp}{vV:List V}{ds:List Value}{pins:List (Addr×Obj)}{σ:St}{H:Hp}{s:Shared}{Q:VK}{us:List Value}{vs:List V}(F:sZ X.prog X.w X.K X.mg X.base CX k f fd ps sp)(hr:gD k X.A)(hb:Binds X.K fd ps ds)(hd:Vals vV ds)(hx:QW CX X pins σ E)
  (I:Inv X pins σ H s) (r:Vals vs us) (h:sp (vs++vV) H Q E):wpAny (model X.prog X.w) X.A (call (.ref f) us) (EP X pins σ Q) X.xe s:=by
 have r2:Vals (vs++vV) (us++ds):=r.append hd
 have hl:(us++ds).length=ps.length:=by rw[←r2.length];exact F.len _ _ _ _ h
 refine wpAny_call (codeAny_mono (F.run X.A X.stack s H ⟨us,[]⟩ (us++ds) (vs++vV) Q E hr I.env0 (hb s us I.Nz hl) r2 h) λr s' hq=>?_)
 cases r with
 | error e=>exact hx H s e s' I hq
 | ok fl=>
  cases fl with
  | ret u=>exact I.after hq
  | next=>exact False.elim hq
  | brk=>exact False.elim hq
  | cont=>exact False.elim hq
structure XRz(K:aD)(κ:Nat→Addr)(X:Cx)(E:XK)(e:Expr)(t:TE)(z:DE→Option Nat):Prop where
 pe:∀(pins:List (Addr×Obj))(σ:St),QW (Om X.prog X.w) X pins σ E→PE1 X pins σ e t
 ev:∀(σ:St)(H:Hp)(de:DE)(i:Nat)(Q:VK),yV K H de σ→z de=some i→(∀H',aU H H'→E (.ref (κ i)) none H')→t σ H Q
theorem Yp{pl:Sem Bool}{C f:Addr}{CX:BR}{k:Nat}{fd:FuncData}{ps:List Str}{sp:Sp}{vV:List V}{ds:List Value}{pins:List (Addr×Obj)}{σ:St}(he:PE X o ta)(c:ZR X.K C)(hm:Meth X.K C m f)(F:sZ X.prog X.w X.K X.mg X.base CX k f fd ps sp)(hr:gD k X.A)(hb:Binds X.K fd ps ds)(hd:Vals vV ds)(hx:QW CX X pins σ E)(ha:PA X (e::es) tA)
  (hst:starEach (e::es) X.env=(false,eval e X.env)::starEach es X.env) (hpl:(backTo pos (starEach es X.env)).any (·.1)=false)
  (ht:eval (.Call (.Attribute o m apos) (e::es) [] pos) X.env=(do
   let ov ←eval o X.env
   standAt apos.atName
   let (f,first) ←holding [ov] (getMethod ov m pl)
   callWith pos f first (backTo pos (starEach (e::es) X.env)) (backToKw pos (keywordEach [] X.env)))) :
  PE1 X pins σ (.Call (.Attribute o m apos) (e::es) [] pos) (vY C m sp vV E ta tA):=by
 intro s H Q I h
 refine S7 (pl:=pl) (gQ (he pins s σ H _ I h) λu s1 ⟨x,H1,I1,rx,a,dx,fs,ex,ea,l,q⟩=>?_) ht
 subst ex
 obtain rfl:u=Value.ref a:=rx
 refine zV I1 ea c hm l ?_
 refine R1 (first:=[.ref a]) (h₀:=X.base) I.ok.mod.ZX hm.kp (gQ (ha pos pins s1 σ H1 _ I1 q) λus s2 ⟨vs,H2,I2,r,q2⟩=>⟨I2.Nz,?_⟩) hst hpl
 exact aBA (us:=.ref a::us) (vs:=.ref a::vs) F hr hb hd hx I2 (.cons rfl r) q2
theorem aBB{C:Addr}{k n:Nat}{df:Bool}{r:List D→Option Nat}{Xr:List Str}{pl:Sem Bool}(Cm:Yo X.prog X.w X.K X.mg X.base C m k n df (spR K κ n r))(hl:∀ds i,r ds=some i→ds.length=n)(Fc:gB K C Xr)(hr:gD k X.A)(ho:XR K X o ta f)(ha:XA K X (e::es) tA fs)
  (hst:starEach (e::es) X.env=(false,eval e X.env)::starEach es X.env:=by rfl) (hpl:(backTo pos (starEach es X.env)).any (·.1)=false:=by rfl)
  (ht:eval (.Call (.Attribute o m apos) (e::es) [] pos) X.env=(do
   let ov ←eval o X.env
   standAt apos.atName
   let (f,first) ←holding [ov] (getMethod ov m pl)
   callWith pos f first (backTo pos (starEach (e::es) X.env)) (backToKw pos (keywordEach [] X.env))):=by rfl):XRz K κ X E (.Call (.Attribute o m apos) (e::es) [] pos) (vY C m (spR K κ n r) [] E ta tA) (uN C m r f fs []):=by
 have hk:=ho.hk
 subst hk
 obtain⟨f,fd,ps,_,Fo,hb,_,hm⟩:=Cm.ex
 refine⟨λpins σ hx=>Yp (pl:=pl) ho.pe Fc.cl hm Fo hr hb .nil hx ha.pa hst hpl ht,λσ H de i Q re q0 k=>?_⟩
 obtain⟨d,q1,q⟩:=aX q0
 clear q0
 split at q
 ·rename_i C' nm ds
  by_cases hcc:C'=C∧m∉nm
  case neg=>rw[if_neg hcc]at q;cases q
  rw[if_pos hcc]at q
  obtain⟨rfl,hn⟩:=hcc
  obtain⟨as,q2,q3⟩:=aX q
  refine ho.ev σ H H de _ _ (Zn.self _ H) re q1 λx H1 Z1 s1 t1 z1 rx=>?_
  have rx:=z1.sm.rv _ _ rx
  have rx0:=rx
  unfold Rv at rx
  obtain⟨a,dx,xs,rfl,h2,h3,h4⟩:=rx
  refine⟨a,dx,_,rfl,h2,yH h3 hn,ha.ev σ H1 H1 de as _ (Zn.self _ H1) (re.same s1) q2 λvs H2 Z2 s2 t2 z2 rs=>?_⟩
  refine⟨_,i,hl _ _ q3,?_,q3,λH' s'=>k H' ((s1.trans s2).trans s')⟩
  rw[G0,G0]
  unfold eE
  exact⟨_,_,rfl,s2.rv _ _ rx0,z2.sm.NB _ _ rs⟩
 ·cases q
theorem Yq{C:Addr}{k n:Nat}{r:List D→Option Nat}{Xr:List Str}{pl:Sem Bool}(Cm:Yo X.prog X.w X.K X.mg X.base C m k n true (spR K κ n r))(hl:∀ds i,r ds=some i→ds.length=n)(Fc:gB K C Xr)(hr:gD k X.A)(ho:XR K X o ta f)(ha:XA K X (e::es) tA fs)
  (hst:starEach (e::es) X.env=(false,eval e X.env)::starEach es X.env:=by rfl) (hpl:(backTo pos (starEach es X.env)).any (·.1)=false:=by rfl)
  (ht:eval (.Call (.Attribute o m apos) (e::es) [] pos) X.env=(do
   let ov ←eval o X.env
   standAt apos.atName
   let (f,first) ←holding [ov] (getMethod ov m pl)
   callWith pos f first (backTo pos (starEach (e::es) X.env)) (backToKw pos (keywordEach [] X.env))):=by rfl):XRz K κ X E (.Call (.Attribute o m apos) (e::es) [] pos) (vY C m (spR K κ n r) [.non] E ta tA) (uN C m r f fs [.non]):=by
 have hk:=ho.hk
 subst hk
 obtain⟨f,fd,ps,_,Fo,_,hb,hm⟩:=Cm.ex
 refine⟨λpins σ hx=>Yp (pl:=pl) ho.pe Fc.cl hm Fo hr (hb rfl) (.cons rfl .nil) hx ha.pa hst hpl ht,λσ H de i Q re q0 k=>?_⟩
 obtain⟨d,q1,q⟩:=aX q0
 clear q0
 split at q
 ·rename_i C' nm ds
  by_cases hcc:C'=C∧m∉nm
  case neg=>rw[if_neg hcc]at q;cases q
  rw[if_pos hcc]at q
  obtain⟨rfl,hn⟩:=hcc
  obtain⟨as,q2,q3⟩:=aX q
  refine ho.ev σ H H de _ _ (Zn.self _ H) re q1 λx H1 Z1 s1 t1 z1 rx=>?_
  have rx:=z1.sm.rv _ _ rx
  have rx0:=rx
  unfold Rv at rx
  obtain⟨a,dx,xs,rfl,h2,h3,h4⟩:=rx
  refine⟨a,dx,_,rfl,h2,yH h3 hn,ha.ev σ H1 H1 de as _ (Zn.self _ H1) (re.same s1) q2 λvs H2 Z2 s2 t2 z2 rs=>?_⟩
  refine⟨_,i,hl _ _ q3,?_,q3,λH' s'=>k H' ((s1.trans s2).trans s')⟩
  unfold eE
  refine⟨_,_,rfl,s2.rv _ _ rx0,eE.append (z2.sm.NB _ _ rs) ?_⟩
  unfold eE
  exact⟨_,_,rfl,by unfold Rv;rfl,by unfold eE;rfl⟩
 ·cases q
def zX(z:DE→Option Nat):GZ:=λenv=>z (rE env)
theorem qt{pins:List (Addr×Obj)}{σ:St}(he:PE1 X pins σ e te)(hs:swapsWith e none pos.line X.env=pure false):PS1 X pins σ (.Expr e pos) (lU te):=by
 intro s H D I h
 exact wpAny_Expr_any (gQ (he s H _ I h) λv s1 ⟨x,H1,I1,r1,q1⟩=>⟨σ,H1,I1,q1⟩) I.quiet hs
end
def fRz(n m:Nat)(z:GZ):List D→Option Nat:=λds=>if ds.length=m then z (ds.map SD.fro++E7 (n-m) SD.no)else none
theorem Uy{n m:Nat}{z:GZ}(ds:List D)(i:Nat)(h:fRz n m z ds=some i):ds.length=m:=by
 unfold fRz at h
 split at h
 ·assumption
 ·cases h
section
variable{P:Program}{w:World}{K:aD}{mg:Str→Option Value}{base:Heap}{κ:Nat→Addr}
theorem aGb{X:Cx}{N ps:List Str}{z:GZ}{body:List Stmt}{t:TS}{vs:List V}{H:Hp}{Q:VK}{E:XK}(yb:YZB K κ X E body t z)(h:spR K κ ps.length (fRz N.length ps.length z) vs H Q E):t {nx:=λ_ H'=>Q .non H',rt:=Q} (start N vs) H:=by
 obtain⟨ds,i,h1,h2,h3,kk⟩:=h
 unfold fRz at h3
 rw[if_pos h1]at h3
 refine yb.ev H _ _ H _ i ?_ h3 kk
 have hl:vs.length=ps.length:=by rw[h2.length];exact h1
 have:=yD (k:=N.length-ps.length) h2
 unfold start
 rw[hl]
 exact this
theorem dR.aHE{C:Addr}{m q:Str}{st:Stmt}{dN:Bool}{N ps:List Str}{k:Nat}{z:GZ}(R:dR K C m q st dN)(S:aZ N ps (aJ st))(hb:HBs dN m q st ps)
  (hbody:∀(f:Addr)(cdv:Value)(A:Around)(outer:List Env)(s:Shared)(H:Hp)(E:XK),gD k (A.deeper (envOfC q (aJ st) s.heap.objs.size f cdv))→∃t,YZB K κ (mD (Om P w) P w K mg base N q (aJ st) f cdv A outer s H E) E (bR st) t z):Yo P w K mg base C m (k+1) ps.length dN (spR K κ ps.length (fRz N.length ps.length z)):=by
 obtain⟨f,Rf,M⟩:=R.ex
 obtain⟨oc,od,dV,kV,doc,pm,an,cdv,ct,osl,lk,hcd,hd⟩:=Rf.ex
 obtain⟨b1,b2⟩:=Us.binds (f:=f) (oc:=oc) (od:=od) (kV:=kV) (doc:=doc) (pm:=pm) (an:=an) (cdv:=cdv) (ct:=ct) hd hb
 refine⟨f,_,ps,rfl,LC lk hcd S (λvs H Q E h=>?_) λA outer s H vs Q E hr hsp=>?_,b1,b2,M⟩
 ·obtain⟨ds,d,h1,h2,_⟩:=h
  rw[h2.length];exact h1
 obtain⟨t,yb⟩:=hbody f cdv A outer s H E hr
 exact⟨t,yb.ps,aGb yb hsp⟩
end
section
variable{K:aD}{κ:Nat→Addr}{X:Cx}{E:XK}{z:GZ}{g:GS}{pos:Pos}
end
end L2


namespace L2
open PySem PySem.Spec PySem.Calls PyProof.Rows PyProof.V
abbrev Rm:List Value:=[.type "ValueError", .type "Exception", .type "BaseException", .type "object"]
structure Yr(K:aD)(mg:Str→Option Value)(x:Str)(C:Addr):Prop where
 mg:mg x=some (.ref C)
 ok:Q7 K C Rm "ValueError.__new__" = true
theorem Yr.own{K:aD}{mg:Str→Option Value}{x:Str}{C:Addr}{h₀:Heap}(F:Yr K mg x C)(X:K.In h₀):OwnCls x C Rm "ValueError.__new__" mg h₀:=by
 refine⟨F.mg,?_⟩
 have q:=F.ok
 unfold Q7 at q
 split at q
 ·rename_i dd cd sl ho
  split at q
  ·rename_i C' bm k0 k1 k2 k3 n k5 hm hs
   simp only[L6,beq_iff_eq,Bool.not_eq_true']at q
   obtain⟨⟨⟨⟨⟨rfl,rfl⟩,hdel⟩,ht⟩,hok⟩,hni⟩:=q
   obtain⟨nm,bs,mro,ns,qn,hd,sn,sub,ab,col,del⟩:=cd
   dsimp only at hm hdel hok hni
   subst hm hdel
   have hsl:sl=#[k0,k1,k2,k3,some (.builtin "ValueError.__new__"),k5]:=by
    obtain⟨l⟩:=sl
    simp only at hs
    rw[hs]
   subst hsl
   exact⟨bm,ns,nm,qn,bs,hd,sn,sub,ab,col,dd,k0,k1,k2,k3,k5,_,X _ _ ho,.of_isNs (PySem.W.isNs_of_in X hok),PySem.W.nsMap_none_of_in X hok hni,PySem.W.tail_of_in X ht⟩
  ·cases q
 ·cases q
section
variable{P:Program}{w:World}{K:aD}{mg:Str→Option Value}{base:Heap}{N:List Str}{qual:Str}{scope:Scope}{f:Addr}{cd:Value}{A:Around}{outer:List Env}{s0:Shared}{H0:Hp}{E:XK}{κ:Nat→Addr}
 {x:Str} {C:Addr} {np cpos pos:Pos} {e:Expr} {es:List Expr} {tA:TA}
def tRz(E:XK)(C:Addr)(t:TA):TS:=λ_ σ H=>t σ H λvs H1=>vs.length≤sizeLine∧E (.ref C) none H1
theorem qu(F:Yr K mg x C)(hg:Gl (mD (Om P w) P w K mg base N qual scope f cd A outer s0 H0 E) x)(ha:PA (mD (Om P w) P w K mg base N qual scope f cd A outer s0 H0 E) (e::es) tA)(hd:(x==("__debug__" : Str))=false:=by decide)
  (he:starEach (e::es) (mD (Om P w) P w K mg base N qual scope f cd A outer s0 H0 E).env=(false,eval e (mD (Om P w) P w K mg base N qual scope f cd A outer s0 H0 E).env)::starEach es (mD (Om P w) P w K mg base N qual scope f cd A outer s0 H0 E).env:=by rfl)
  (hpl:(backTo cpos (starEach es (mD (Om P w) P w K mg base N qual scope f cd A outer s0 H0 E).env)).any (·.1)=false:=by rfl) :
  PS (mD (Om P w) P w K mg base N qual scope f cd A outer s0 H0 E) (.Raise (some (.Call (.Name x np) (e::es) [] cpos)) none pos) (tRz E C tA):=by
 intro pins s σ H D I h
 obtain⟨tl,Nn,nm,q,bs,hdct,sn,sub,ab,col,dd,k0,k1,k2,k3,k5,mN,hC,hN,hni,T⟩:=(F.own I.mod.ZX).obj
 have hA:=ha cpos pins s σ H _ I h
 refine wpAny_Raise_call_subU (C:=C) (nm:=nm) (q:=q) (N:=Nn) (bs:=bs) (bm:=tl) (hdct:=hdct) (sn:=sn) (sub:=sub) (ab:=ab) (col:=col) (dd:=dd) (k0:=k0) (k1:=k1) (k2:=k2) (k3:=k3) (k5:=k5)
  Q8 rfl Q8 (mN:=mN) (T.hasType Q8.hasBase) (I.ok.hd rfl) (by rw[he];show (false||(backTo cpos (starEach es _)).any (·.1))=false;rw[hpl];rfl) hni (xX I hg F.mg ⟨rfl,?_⟩ hd)
 rw[he]at hA ⊢
 refine Calls.evalArgs_plain (gQ hA λus s1 ⟨vs,H1,I1,r,hl,q⟩=>⟨rfl,by show us.length≤sizeLine;rw[←r.length];exact hl,I1.bk _ _ hC,hN.keeps I1.bk,T.keeps I1.bk,λh' ee hx=>?_⟩)
 obtain⟨a1,a2,a3,a4,a5,a6,a7,a8⟩:=qp I1
 refine wpAny_leaves_madeW (base:=Ol s1.heap (envOfC qual scope s0.heap.objs.size f cd::outer)) (h:=s1.heap) I1.ok.frames rfl (λb o q=>(Ux q).1) (Lh a8 λb hb=>Es hb) hx λh'' t fl _ _ up=>?_
 exact aBz rfl a8 a1 a2 a3 a4 a5 a6 a7 fl ((Heap.UpToSlots.of_keeps hx.keeps).trans up) rfl I1.bare rfl q
def zRz(i:Nat)(fs:FA):GZ:=λenv=>(fs (rE env)).bind λds=>if ds.length≤100 then some i else none
theorem qw{i:Nat}{fs:FA}(F:Yr K mg x (κ i))(hg:Gl (mD (Om P w) P w K mg base N qual scope f cd A outer s0 H0 E) x)(ha:XA K (mD (Om P w) P w K mg base N qual scope f cd A outer s0 H0 E) (e::es) tA fs)(hd:(x==("__debug__" : Str))=false:=by decide)
  (he:starEach (e::es) (mD (Om P w) P w K mg base N qual scope f cd A outer s0 H0 E).env=(false,eval e (mD (Om P w) P w K mg base N qual scope f cd A outer s0 H0 E).env)::starEach es (mD (Om P w) P w K mg base N qual scope f cd A outer s0 H0 E).env:=by rfl)
  (hpl:(backTo cpos (starEach es (mD (Om P w) P w K mg base N qual scope f cd A outer s0 H0 E).env)).any (·.1)=false:=by rfl) :
  YZ K κ (mD (Om P w) P w K mg base N qual scope f cd A outer s0 H0 E) E (.Raise (some (.Call (.Name x np) (e::es) [] cpos)) none pos) (tRz E (κ i) tA) (zRz i fs):=⟨qu F hg ha.pa hd he hpl,λB D σ H env j r q k=>by
 obtain⟨ds,q1,q2⟩:=aX q
 split at q2
 ·rename_i hl
  cases q2
  exact ha.ev σ H H (rE env) ds _ (Zn.self _ H) r.r q1 λvs H1 Z1 s1 t1 z1 rs=>⟨Qt (by rw[rs.length];omega),k H1 (r.sub.trans s1)⟩
 ·cases q2⟩
end
abbrev Cx.tr(X:Cx)(pn:List (Addr×Obj))(Ex:Value→Shared→Prop):Cx:={X with pn:=pn,xe:=Ex}
abbrev Cx.hand(X:Cx)(pn:List (Addr×Obj))(e:Addr):Cx:={X with pn:=pn,A:=X.A.mark (some (.ref e)),calm:=false,xe:=λ_ _=>False}
section
variable{X:Cx}{pins Jb pn:List (Addr×Obj)}{σ:St}{H:Hp}{s s':Shared}{Ex:Value→Shared→Prop}{e:Addr}{D:Ends}{fl:Flow}
theorem Inv.tr(I:Inv X pins σ H s)(Ex:Value→Shared→Prop):Inv (X.tr (X.pn++pins) Ex) [] σ H s:=
 ⟨⟨I.ok.mod,I.ok.kind,I.ok.glob,I.ok.blt,I.ok.above,I.ok.inj,I.ok.has,I.ok.cab,I.ok.hd,I.ok.frames,I.ok.stk,I.ok.exf,I.ok.bs,I.ok.SN,I.ok.Tf,I.ok.Wl,I.ok.vW,I.ok.ZZ⟩,I.os,I.bare,I.base,I.loc,I.cell,I.free,I.oR,λp hp=>I.pin p (by simpa using hp),I.hok,I.len⟩
theorem Inv.Cr(I:Inv (X.tr (X.pn++pins) Ex) Jb σ H s):Inv X pins σ H s:=
 ⟨⟨I.ok.mod,I.ok.kind,I.ok.glob,I.ok.blt,I.ok.above,I.ok.inj,I.ok.has,I.ok.cab,I.ok.hd,I.ok.frames,I.ok.stk,I.ok.exf,I.ok.bs,I.ok.SN,I.ok.Tf,I.ok.Wl,I.ok.vW,I.ok.ZZ⟩,I.os,I.bare,I.base,I.loc,I.cell,I.free,I.oR,λp hp=>I.pin p (M4 _ hp),I.hok,I.len⟩
theorem Inv.hand(I:Inv X pins σ H s)(e:Addr):Inv (X.hand (X.pn++pins) e) [] σ H s:=
 ⟨⟨I.ok.mod,I.ok.kind,I.ok.glob,I.ok.blt,I.ok.above,I.ok.inj,I.ok.has,I.ok.cab,λz=>(by cases z),I.ok.frames,I.ok.stk,I.ok.exf,I.ok.bs,I.ok.SN,I.ok.Tf,I.ok.Wl,I.ok.vW,I.ok.ZZ⟩,I.os,I.bare,I.base,I.loc,I.cell,I.free,I.oR,λp hp=>I.pin p (by simpa using hp),I.hok,I.len⟩
theorem Inv.Ag(hd:X.calm=true→X.A.handled=none)(I:Inv (X.hand (X.pn++pins) e) Jb σ H s):Inv X pins σ H s:=
 ⟨⟨I.ok.mod,I.ok.kind,I.ok.glob,I.ok.blt,I.ok.above,I.ok.inj,I.ok.has,I.ok.cab,hd,I.ok.frames,I.ok.stk,I.ok.exf,I.ok.bs,I.ok.SN,I.ok.Tf,I.ok.Wl,I.ok.vW,I.ok.ZZ⟩,I.os,I.bare,I.base,I.loc,I.cell,I.free,I.oR,λp hp=>I.pin p (M4 _ hp),I.hok,I.len⟩
theorem SP.Cr(h:SP (X.tr (X.pn++pins) Ex) Jb D fl s'):SP X pins D fl s':=by
 cases fl with
 | next=>obtain⟨σ',H',I,q⟩:=h;exact⟨σ',H',I.Cr,q⟩
 | brk=>obtain⟨σ',H',I,q⟩:=h;exact⟨σ',H',I.Cr,q⟩
 | cont=>obtain⟨σ',H',I,q⟩:=h;exact⟨σ',H',I.Cr,q⟩
 | ret u=>obtain⟨v,σ',H',I,r,q⟩:=h;exact⟨v,σ',H',I.Cr,r,q⟩
theorem SP.Ag(hd:X.calm=true→X.A.handled=none)(h:SP (X.hand (X.pn++pins) e) Jb D fl s'):SP X pins D fl s':=by
 cases fl with
 | next=>obtain⟨σ',H',I,q⟩:=h;exact⟨σ',H',I.Ag hd,q⟩
 | brk=>obtain⟨σ',H',I,q⟩:=h;exact⟨σ',H',I.Ag hd,q⟩
 | cont=>obtain⟨σ',H',I,q⟩:=h;exact⟨σ',H',I.Ag hd,q⟩
 | ret u=>obtain⟨v,σ',H',I,r,q⟩:=h;exact⟨v,σ',H',I.Ag hd,r,q⟩
end
abbrev HX:=Nat→Nat→Bool
def Gq(sub:HX)(n:Nat):List (Nat×GS)→Nat→GS
 | [],_=>λ_=>.bad
 | (j,g)::r,i=>if i<n∧j<n then(if sub i j=true then g else Gq sub n r i)else λ_=>.bad
def Hg(z:GZ)(g:GS)(sub:HX)(n:Nat)(hs:List (Nat×GS)):GS:=λenv=>match z env with
 | none=>g env
 | some i=>Gq sub n hs i env
section
variable{K:aD}{κ:Nat→Addr}{X:Cx}{sub:HX}{n:Nat}{z:GZ}{g:GS}{st:Stmt}{pos:Pos}
theorem Rel.no{B H:Hp}{σ:St}{env:EN}{k:Nat}(h:Rel K B env σ H)(hk:k<env.length)(y:Option V):Rel K B (env.set k .no) (σ.set k y) H:=by
 obtain⟨A,a,b⟩:=h
 obtain⟨y0,A1,C,h1,h2,h3,h4,kk⟩:=a.focus (B6 hk)
 have g:aU (out H A) (out H (fH nil C)):=bU (aU.refl _) λx q=>.inl ((h3 x).mpr (.inr (q.elim False.elim id)))
 exact⟨fH nil C,kk (jD K H (out H (fH nil C))) (λe D z _ q=>q.same (aU.refl _) g) .no y nil (λx q=>q.elim) (λ_ z=>z),b.trans g⟩
def gAs(k:Nat)(g:GS):GS:=λenv=>if k<env.length then(match g (env.set k .no)with
 | .next env'=>if k<env'.length then .next (env'.set k .no)else .bad
 | _=>.bad)else .bad
structure YE(K:aD)(X:Cx)(k:Nat)(e:Addr)(sts:List Stmt)(t:TS)(g:GS):Prop where
 ps:Wf X sts t
 ev:∀(B:Hp)(D:Ends)(σ:St)(H:Hp)(env:EN),Rel K B env σ H→σ[k]?=some (some (.ref e))→Em K B D (g env)→t D σ H
theorem YH{M:Model}{A:Around}{E:Value→Shared→Prop}{pins:List (Addr×Obj)}{σ:St}{H:Hp}{s:Shared}{k:Nat}{nm:Str}{hp:Pos}{Q:Unit→Shared→Prop}(I:Inv X pins σ H s)(hN:X.N.Nodup)(hi:X.N[k]?=some nm)(hl:X.env.scope.names.lookup nm=some .local)
  (h:∀s',Inv X pins (σ.set k none) H s'→Q () s'):wpAny M A (do bindName X.env nm .none;unbindBehindTheSuite X.env nm hp) Q E s:=by
 obtain⟨m,hn,hlk⟩:=id I.loc
 have hcls:(X.env.scope.kind==.class||(X.env.scope.kind==.module&&X.env.locals != X.env.globals))=false:=by rw[I.ok.kind];rfl
 have hiσ:k<σ.length:=by rw[I.len];exact(D3.mp hi).1
 have KD:=I.KD
 refine wpAny_nameGoes_keeps hl hn hcls λh' v hn' hs=>?_
 refine h _ ⟨I.ok,I.os,I.bare,⟨λb o e n hb hx=>?_,λb o e n hb hx=>?_,I.base.free,λb o e hx=>?_,I.base.tups,I.base.Gx,I.base.Ja⟩,⟨_,hn',λj y v' e1 e2 e3=>?_⟩,λy c e=>?_,I.free,I.oR,λp hp=>?_,λb ob e=>?_,by simpa using I.len⟩
 ·exact(hs.2 b (D8 (D6 (Heap.lt_size e) I.ok.above))).trans (I.base.keep b o e n hb hx)
 ·obtain⟨sl,e1⟩:=I.base.slot b o e n hb hx
  exact⟨sl,(hs.2 b (D8 (D6 (Heap.lt_size e) I.ok.above))).trans e1⟩
 ·obtain⟨o',e1⟩:=I.base.there b o e hx
  exact⟨o',(hs.2 b (D8 (D6 (Heap.lt_size e) I.ok.above))).trans e1⟩
 ·by_cases hj:j=k
  ·subst hj
   rw[F9 hiσ]at e2
   cases e2
  ·rw[Q4 (Ne.symm hj)]at e2
   obtain⟨u',r',q⟩:=hlk j y v' e1 e2 e3
   refine⟨u',r',?_⟩
   rcases q with ⟨kk,e⟩ | ⟨kk,c,e,z⟩
   ·refine .inl ⟨kk,?_⟩
    have:y≠nm:=λe=>hj (Jc hN e1 (e▸hi))
    simp[this,e]
   ·exact .inr ⟨kk,c,e,z.sameBut hs (KD y c e)⟩
 ·obtain⟨w',z⟩:=I.cell y c e
  exact⟨w',z.sameBut hs (KD y c e)⟩
 ·obtain⟨e,n,ne,nf,d⟩:=I.pin p hp
  exact⟨(hs.2 p.1 ne).trans e,n,ne,nf,d⟩
 ·refine(I.hok b ob e).stay (λc w' hc q=>(hs.2 c ?_).trans q) (λ_ q=>q) λ_ _ q=>q
  rintro rfl
  have hfree:=I.free
  rcases hc with hc | hc
  ·rw[←hc,hfree]at e;cases e
  ·rw[hfree]at hc;cases hc
theorem aGc{P:Program}{w:World}{H:Hp}{h:Heap}{a:Addr}{o:HO}(x:iM P w H h a o):∃u,h.get? a=some u:=by
 cases o with
 | lst xs=>obtain⟨_,_,_,_,e⟩:=x;exact⟨_,e⟩
 | tup xs=>obtain⟨_,_,_,p⟩:=x;obtain⟨o,h1,_⟩:=p;exact⟨_,h1⟩
 | dK kvs=>obtain⟨_,_,_,_,o,_,_,e,_⟩:=x;exact⟨_,e⟩
 | dT kvs=>obtain⟨_,_,_,_,o,_,_,e,_⟩:=x;exact⟨_,e⟩
 | set S n=>obtain⟨o,_,_,_,e,_⟩:=x;exact⟨_,e⟩
 | ins C dx fs=>obtain⟨_,_,_,e,_⟩:=x;exact⟨_,e⟩
 | own y=>exact x
 | xd fs=>obtain⟨_,⟨_,_,_,e,_⟩,_⟩:=x;exact⟨_,e⟩
 | rng lo hi=>obtain⟨_,_,_,e⟩:=x;exact⟨_,e⟩
 | Bf ob u=>obtain⟨e,_⟩:=x;exact⟨_,e⟩
 | tbl ps=>exact⟨_,(show h.get? a=some _ from x)⟩
 | met f y=>exact⟨_,(show h.get? a=some _ from x)⟩
 | ext φ=>obtain⟨_,e,_⟩:=x;exact e
theorem Fl.e{P:Program}{w:World}{H:Hp}{l:List Env}{s1 s':Shared}{e:Addr}{cls:Value}(f:Fl l s1 e cls s')(hok:vL P w H s1.heap):∃oe,s'.heap.get? e=some oe∧oe.cls=cls∧H e=none∧e∉frs l∧∀v,oe.data≠.cell v:=by
 obtain⟨a0,k1,k2,k3,oe,vs,T,oT,ts,he,hc,hd,_⟩:=f.Uw
 have hn:e∉frs l:=λz=>by
  obtain⟨o',z1,z2⟩:=Cq k3 e z
  rw[he]at z1
  cases z1
  exact z2 vs hd
 refine⟨oe,he,hc.1,?_,hn,λv z=>by rw[hd]at z;cases z⟩
 cases q:H e with
 | none=>rfl
 | some u=>
  obtain⟨o,q1⟩:=aGc (hok e u q)
  rw[Rj k2 hn]at q1
  cases q1
inductive HK(K:aD)(κ:Nat→Addr)(X:Cx)(n:Nat):List ExceptHandler→List (Nat×GS)→Prop
 | nil:HK K κ X n [] []
 | cons {x:Str} {np hp:Pos} {b₀:Stmt} {suite:List Stmt} {rest:List ExceptHandler} {j:Nat} {gh:GS} {r:List (Nat×GS)} (hm:X.mg x=some (.ref (κ j))) (hg:Gl X x) (hd:(x==("__debug__" : Str))=false)
   (hs:∀(pn:List (Addr×Obj))(e:Addr),∃t,YB K (X.hand pn e) (b₀::suite) t gh) (hr:HK K κ X n rest r):HK K κ X n (.ExceptHandler (some (.Name x np)) none (b₀::suite) hp::rest) ((j,gh)::r)
 | as {x nm:Str} {np hp:Pos} {b₀:Stmt} {suite:List Stmt} {rest:List ExceptHandler} {j k:Nat} {gh:GS} {r:List (Nat×GS)} (hm:X.mg x=some (.ref (κ j))) (hg:Gl X x) (hd:(x==("__debug__" : Str))=false) (hN:X.N.Nodup) (hk:X.N[k]?=some nm) (hl:X.env.scope.names.lookup nm=some .local)
   (hs:∀(pn:List (Addr×Obj))(e:Addr)(oe:Obj)(i:Nat),i<n→oe.cls=.ref (κ i)→(e,oe)∈pn→∃t,YE K (X.hand pn e) k e (b₀::suite) t gh) (hr:HK K κ X n rest r):HK K κ X n (.ExceptHandler (some (.Name x np)) (some nm) (b₀::suite) hp::rest) ((j,gAs k gh)::r)
theorem Fl.ty{M:Model}{l:List Env}{s1 s':Shared}{e:Addr}{cls:Value}(f:Fl l s1 e cls s'):Z5 M s'.heap (typeOf (.ref e)) cls:=by
 obtain⟨a0,x⟩:=f.Uw
 obtain⟨ob,h1,h2⟩:=x.there
 subst h2
 exact(g7 h1).andThen .now
theorem YJ(XM:∀i j,i<n→j<n→B9 K (.ref (κ i)) (.ref (κ j))=some (sub i j))(hk:X.K=K)(hst:X.stack=X.env::X.outer)(hfr:X.env.frame=some X.env.locals){pins:List (Addr×Obj)}{σ:St}{H B:Hp}{s1:Shared}{e:Addr}{i:Nat}{D:Ends}{env:EN}
  (r:Rel K B env σ H) (I:Inv X pins σ H s1) {hs:List ExceptHandler} {gs:List (Nat×GS)} (h:HK K κ X n hs gs):∀(s':Shared),Fl X.stack s1 e (.ref (κ i)) s'→Em K B D (Gq sub n gs i env)→wpAny (model X.prog X.w) X.A (handleBy (.ref e) X.env hs) (SP X pins D) X.xe s':=by
 subst hk
 induction h with
 | nil=>intro s' f p;unfold Gq at p;exact p.elim
 | @cons x np hp b₀ suite rest j gh rr hm hg hd hs hr ih=>
  intro s' f p
  unfold Gq at p
  split at p
  ·rename_i hij
   have I':=I.landed f
   refine wpAny_handleBy_cons (codeAny_handlers_test ?_) (by intro q;cases q)
   have J:=I'.hand e
   refine xX (X:=X.hand (X.pn++pins) e) (u:=.ref (κ j)) J hg hm ?_ hd
   have xm:=XM i j hij.1 hij.2
   cases hb:sub i j with
   | true=>
    rw[hb]at xm
    rw[hb,if_pos rfl]at p
    refine(T8 (M:=model X.prog X.w) I'.Nz f.ty xm).here ?_
    show codeAny _ _ _ _ _
    refine codeAny_handlers_suite ?_
    obtain⟨a0,Uw⟩:=f.Uw
    refine wpAny_setFlight_noneW Uw.1 Uw.2.2.1 Uw.2.2.2.at λh' k1 k2 k3 k4=>?_
    have f':Fl X.stack s1 e (.ref (κ i)) {s' with heap:=h'}:=⟨⟨a0,k1,Uw.2.1,k2,k3⟩,f.up.trans λb o hb hn=>⟨o.slots,k4 b o hb hn⟩,f.os,f.bare⟩
    have J2:=(I.landed f').hand e
    obtain⟨t,yb⟩:=hs (X.pn++pins) e
    exact wpAny_mono (yb.ps [] _ σ H D J2 (yb.ev B D σ H env r p)) (λfl s2 q=>q.Ag I.ok.hd) λ_ _ z=>z.elim
   | false=>
    rw[hb]at xm
    rw[hb,if_neg D7]at p
    refine(T8 (M:=model X.prog X.w) I'.Nz f.ty xm).here ?_
    exact ih s' f p
  ·exact p.elim
 | @as x nm np hp b₀ suite rest j k gh rr hm hg hd hN hkk hl hs hr ih=>
  intro s' f p
  unfold Gq at p
  split at p
  ·rename_i hij
   have I':=I.landed f
   refine wpAny_handleBy_cons (codeAny_handlers_test ?_) (by intro q;cases q)
   have J:=I'.hand e
   refine xX (X:=X.hand (X.pn++pins) e) (u:=.ref (κ j)) J hg hm ?_ hd
   have xm:=XM i j hij.1 hij.2
   cases hb:sub i j with
   | true=>
    rw[hb]at xm
    rw[hb,if_pos rfl]at p
    refine(T8 (M:=model X.prog X.w) I'.Nz f.ty xm).here ?_
    show codeAny _ _ _ _ _
    refine codeAny_handlers_suite_as ?_
    obtain⟨a0,Uw⟩:=f.Uw
    refine wpAny_setFlight_noneW Uw.1 Uw.2.2.1 Uw.2.2.2.at λh' k1 k2 k3 k4=>?_
    have f':Fl X.stack s1 e (.ref (κ i)) {s' with heap:=h'}:=⟨⟨a0,k1,Uw.2.1,k2,k3⟩,f.up.trans λb o hb hn=>⟨o.slots,k4 b o hb hn⟩,f.os,f.bare⟩
    have I2:=I.landed f'
    obtain⟨oe,x1,x2,x3,x4,x5⟩:=f'.e I.hok
    have ef:frs X.stack=X.env.locals::X.fs:=by rw[hst];show j8 _ (X.env::X.outer)=X.env.locals::j8 _ X.outer;rw[L4,hfr]
    rw[ef]at x4
    have I3:Inv X (pins++[(e,oe)]) σ H {s' with heap:=h'}:=I2.Hr λp hp=>by
     rcases K6.mp hp with z | z
     ·exact I2.pin p (F2 _ z)
     ·rw[E8.mp z]
      exact⟨x1,x3,λz=>x4 (by have z:e=X.env.locals:=z;rw[z];exact D1),λz=>x4 (C7 _ z),x5⟩
    have J2:=I3.hand e
    obtain⟨t,yps,yev⟩:=hs (X.pn++(pins++[(e,oe)])) e oe i hij.1 x2 (F2 _ (F2 _ D1))
    unfold gAs at p
    split at p
    case isFalse=>exact p.elim
    rename_i hke
    refine Jd (X:=X.hand (X.pn++(pins++[(e,oe)])) e) (v:=.ref e) J2 hN hkk (.inl hl) rfl (λs2 J3=>?_) (.inr hl)
    have hkσ:k<σ.length:=by rw[I.len];exact(D3.mp hkk).1
    have run:=yps [] s2 (σ.set k (some (.ref e))) H {nx:=λσ' H'=>∃env',gh (env.set k .no)=.next env'∧Rel X.K B env' σ' H',rt:=λ_ _=>False} J3 (yev B _ _ H (env.set k .no) (r.no hke _) (F9 hkσ) (by
     cases qq:gh (env.set k .no)with
     | next env'=>exact λσ' H' r'=>⟨env',rfl,r'⟩
     | ret d=>rw[qq]at p;exact p.elim
     | brk d=>rw[qq]at p;exact p.elim
     | cont d=>rw[qq]at p;exact p.elim
     | bad=>rw[qq]at p;exact p.elim
     | rete d e=>rw[qq]at p;exact p.elim))
    refine wpAny_mono run (λfl s3 q=>?_) λ_ _ z=>z.elim
    cases fl with
    | next=>
     obtain⟨σ',H',J4,env',q1,r'⟩:=q
     rw[q1]at p
     dsimp only at p
     split at p
     ·rename_i hk'
      have I5:Inv X (pins++[(e,oe)]) σ' H' s3:=J4.Ag I.ok.hd
      have I6:Inv X pins σ' H' s3:=I5.Hr λp hp=>I5.pin p (F2 _ (M4 _ hp))
      exact YH I6 hN hkk hl λs4 I7=>⟨_,H',I7,p _ _ (r'.no hk' none)⟩
     ·exact p.elim
    | brk=>obtain⟨_,_,_,z⟩:=q;exact z.elim
    | cont=>obtain⟨_,_,_,z⟩:=q;exact z.elim
    | ret u=>obtain⟨_,_,_,_,_,z⟩:=q;exact z.elim
   | false=>
    rw[hb]at xm
    rw[hb,if_neg D7]at p
    refine(T8 (M:=model X.prog X.w) I'.Nz f.ty xm).here ?_
    exact ih s' f p
  ·exact p.elim
structure ZS(K:aD)(κ:Nat→Addr)(X:Cx)(E:XK)(st:Stmt)(t:TS)(z:GZ):Prop where
 ps:∀(pins:List (Addr×Obj))(σ:St),QW (Om X.prog X.w) X pins σ E→PS1 X pins σ st t
 ev:∀(B:Hp)(D:Ends)(σ:St)(H:Hp)(env:EN)(i:Nat),Rel K B env σ H→z env=some i→(∀H',aU H H'→E (.ref (κ i)) none H')→t D σ H
theorem Uz{e:Expr}{te:TE}{E:XK}{zz:DE→Option Nat}(h:XRz K κ X E e te zz)(hs:swapsWith e none pos.line X.env=pure false:=by rfl):ZS K κ X E (.Expr e pos) (lU te) (zX zz):=
 ⟨λpins σ hx=>qt (h.pe pins σ hx) hs,λB D σ H env i r q k=>h.ev σ H (rE env) i _ r.r q k⟩
def aHG(K:aD)(z:GZ)(g:GS)(sub:HX)(n:Nat)(gs:List (Nat×GS)):TS:=λD σ H=>∃B env,Rel K B env σ H∧Em K B D (Hg z g sub n gs env)
theorem HY{h:ExceptHandler}{hs:List ExceptHandler}{gs:List (Nat×GS)}(XM:∀i j,i<n→j<n→B9 K (.ref (κ i)) (.ref (κ j))=some (sub i j))(hN:∀pn,∃t,YB K (X.tr pn λ_ _=>False) [st] t g)(hZ:∀pn Ex E,∃t,ZS K κ (X.tr pn Ex) E st t z)(hH:HK K κ X n (h::hs) gs)
  (hk:X.K=K:=by rfl) (hst:X.stack=X.env::X.outer:=by rfl) (hfr:X.env.frame=some X.env.locals:=by rfl) (WD:X.calm=true:=by rfl):YS K X (.Try [st] (h::hs) [] [] pos) (aHG K z g sub n gs) (Hg z g sub n gs):=by
 refine⟨λpins s σ H D I ⟨B,env,r,p⟩=>?_,λB D σ H env r p=>⟨B,env,r,p⟩⟩
 refine wpAny_Try_except ?_
 unfold Hg at p
 cases hz:z env with
 | none=>
  rw[hz]at p
  obtain⟨t,yb⟩:=hN (X.pn++pins)
  refine wpAny_mono (yb.ps [] s σ H D (I.tr _) (yb.ev B D σ H env r p)) (λf s1 q=>?_) λ_ _ z=>z.elim
  cases f with
  | next=>exact wpAny_execs_nil q.Cr
  | brk=>exact q.Cr
  | cont=>exact q.Cr
  | ret u=>exact q.Cr
 | some i=>
  rw[hz]at p
  have fr:X.A.frames=some (X.env::X.outer):=by rw[←hst];exact I.ok.frames
  obtain⟨t,zs⟩:=hZ (X.pn++pins) (λev s'=>∃e H' s1,ev=.ref e∧Inv X pins σ H' s1∧Fl X.stack s1 e (.ref (κ i)) s'∧aU H H') (λcls _ H'=>cls=.ref (κ i)∧aU H H')
  have run:=zs.ps [] σ (λH2 s2 ev s' I2 c=>by
   obtain⟨e,cls,H',s1,rfl,I3,fl,rfl,sm⟩:=I2.ghost c
   exact⟨e,H',s1,rfl,I3.Cr,fl,sm⟩) s H D (I.tr _) (zs.ev B D σ H env i r hz λH' s=>⟨rfl,s⟩)
  refine wpAny_execs_cons (wpAny_mono run (λf s1 q=>?_) λev s1 q=>?_)
  ·cases f with
   | next=>exact wpAny_execs_nil (wpAny_execs_nil q.Cr)
   | brk=>exact q.Cr
   | cont=>exact q.Cr
   | ret u=>exact q.Cr
  ·obtain⟨e,H',sg,rfl,Ig,fl,sm⟩:=q
   obtain⟨a0,Uw⟩:=fl.Uw
   rw[hst]at Uw
   refine wpAny_looks_onW fr hfr Uw λh' held up=>wpAny_landsW held λh'' aGd up'=>?_
   rw[←hst]at aGd
   have fl2:Fl X.stack sg e (.ref (κ i)) {s1 with heap:=h''}:=⟨⟨a0,aGd⟩,fl.up.trans (up.trans up'),fl.os,fl.bare⟩
   exact YJ XM hk hst hfr (r.same sm) Ig hH _ fl2 p
end
end L2


namespace L2
open PySem PySem.Spec PySem.Calls PyProof.Rows PyProof.V
theorem aBC{K:aD}{c t:Value}{e:Addr}(hk:R8 K t c=some true):PySem.Answers (λs=>K.In s.heap∧∃oe,s.heap.get? e=some oe∧oe.cls=t) (.ref e) c true:=by
  intro dep tk prog w A R s hs
  obtain⟨h0,g,d,tt,os⟩:=s
  obtain⟨⟨X,oe,he,hc⟩,hq⟩:=hs
  have LT:Z5 (model prog w) h0 (typeOf (.ref e)) t:=hc▸(g7 he).andThen .now
  unfold Builtin.«isinstance.nested»
  refine wpAny_bind (LT.at ?_)
  by_cases q:(t==c)=true
  · rw[if_pos q]
    first
      | ((repeat lk);exact hq tt)
      | exact wpAny_bind (wpAny_rule (hq tt))
      | exact wpAny_bind (wpAny_rule (wpAny_pure (hq tt)))
  · rw[if_neg q]
    obtain⟨hty,his,hsub⟩:=PySem.W.kit_cls (M:=model prog w) X hk
    have LI:Z5 (model prog w) h0 (isInstance (.ref e) c) true:=LT.andThen hsub
    refine wpAny_bind (hty.at ?_)
    rw[if_pos (by decide)]
    k_delta "plainIsInstance"
    refine wpAny_bind (wpAny_bind (his.at ?_))
    simp only[Bool.not_true,U8,if_false]
    refine wpAny_bind (LI.at ?_)
    first
      | exact wpAny_pure (wpAny_pure (hq tt))
      | (simp only[if_true];first | exact wpAny_pure (wpAny_pure (hq tt)) | exact wpAny_pure (hq tt) | exact wpAny_bind (wpAny_pure (wpAny_pure (hq tt))))
section
variable{K:aD}{X:Cx}{κ:Nat→Addr}{pos p:Pos}
def aEe(e:Addr)(T:String):List V→Hp→VK→Prop:=λxs H Q=>xs=[.ref e,.ty T]∧Q (.bl true) H
theorem aEf{pn:List (Addr×Obj)}{e:Addr}{oe:Obj}{t:Value}{T:String}(hpn:X.pn=pn)(hm:(e,oe)∈pn)(hc:oe.cls=t)(hk:R8 X.K t (.type T)=some true):lV X (.builtin "isinstance") (aEe e T):=by
 intro pins s σ H xs us Q I r h
 obtain⟨rfl,q⟩:=h
 obtain⟨u,w',rfl,rx,rt⟩:=vals2 r
 cases rt
 cases rx
 have hp:=(I.pin (e,oe) (M4 _ (by rw[hpn];exact hm))).1
 exact PySem.call_isinstance (S:=λ_ R s=>(X.K.In s.heap∧∃oe,s.heap.get? e=some oe∧oe.cls=t)∧∀tk,R (.ok (.ret (.bool true))) {s with toks:=tk})
  (λprog w A R s hs=>PySem.isinstance_outer (aBC hk 0 _ prog w A R s hs) (λz=>nomatch z)) ⟨⟨I.Nz,oe,hp,hc⟩,λtk=>⟨.bl true,H,I.tok _,rfl,q⟩⟩
structure XE(K:aD)(X:Cx)(k:Nat)(ea:Addr)(e:Expr)(t:TE)(d:D):Prop where
 pe:PE X e t
 ev:∀(σ:St)(H:Hp)(Q:VK),σ[k]?=some (some (.ref ea))→(∀v H',aU H H'→Nu K H H' d v→Q v H')→t σ H Q
theorem aEg{k i:Nat}{ea:Addr}{e:Expr}{te:TE}{d:D}{x:Str}{pos':Pos}(h:XE K X k ea e te d)(hp:PE X e te→PS X (.Assign [.Name x pos'] e pos) (sX te (fY i))):YE K X k ea [.Assign [.Name x pos'] e pos] (sX te (fY i)) (cW i (fC d)):=
 ⟨KJ (hp h.pe),λB D σ H env r hk q=>by
  unfold cW fC at q
  dsimp only at q
  split at q
  ·rename_i hi
   exact h.ev σ H _ hk λv H' s n=>q _ _ (r.own hi s n)
  ·exact q.elim⟩
theorem aEh{k:Nat}{ea:Addr}{e eT:Expr}{T:String}(h:PE X e (pN k))(hT:PE X eT (tC (.ty T)))(hcr:lV X (.builtin "isinstance") (aEe ea T)) (hg:Gl X "isinstance") (hm:X.mg "isinstance" = none) (hst:starEach (e::[eT]) X.env=(false,eval e X.env)::starEach [eT] X.env:=by rfl) (hst2:starEach [eT] X.env=(false,eval eT X.env)::starEach [] X.env:=by rfl)
  (hpl:(backTo pos (starEach [eT] X.env)).any (·.1)=false:=by rfl):XE K X k ea (.Call (.Name "isinstance" p) [e,eT] [] pos) (tCB (aEe ea T) (fJ (pN k) (fJ (tC (.ty T)) mJ))) (.bl true):=
 ⟨Wu hcr hg hm PyProof.Rows.boot_isinstance (eO h (eO hT kO hst2) hst) (by decide) (by decide) hst hpl,λσ H Q hk q=>⟨_,hk,rfl,q _ H (aU.refl _) (.iI rfl (by unfold Rv;rfl))⟩⟩
end
section
variable{K:aD}{X:Cx}{g:GS}{pos:Pos}
end
end L2


namespace L2
open PySem PySem.Spec PySem.Calls PyProof.Rows PyProof.V
section
variable{K:aD}{X:Cx}{pos p0:Pos}
theorem aEi{k:Nat}{ea:Addr}{e:Expr}{t:TE}{b:Bool}{p:Pos}(h:XE K X k ea e t (.bl b))(hg:Gl X "int") (hm:X.mg "int" = none) (he:starEach [e] X.env=(false,eval e X.env)::starEach [] X.env:=by rfl):XE K X k ea (.Call (.Name "int" p) [e] [] pos) (tCB aCv (fJ t mJ)) (.int (if b then 1 else 0)):=
 ⟨Qh aBo hg hm PyProof.Rows.boot_int (eO h.pe kO he) (by decide) (by decide) he rfl,λσ H Q hk q=>h.ev σ H _ hk λv H1 s1 n1=>by
  have rv:=n1.rv
  unfold Rv at rv
  subst rv
  exact⟨b,rfl,q _ H1 s1 (.iI rfl (by unfold Rv;rfl))⟩⟩
theorem aBD{k j:Nat}{ea:Addr}{L i:Expr}{tL ti:TE}{f:FE}{ds:List D}{d:D}{m:Int}(hL:XN K X L tL f)(hi:XE K X k ea i ti (.int m))(hs:Ht i)(hf:f []=some (.lst ds))(hj:m=(j:Int))(hd:ds[j]?=some d)(him:d.iI=true):XE K X k ea (.Subscript L i pos) (Pz (aAF K) tL ti) d:=
 ⟨gf (ixL K hL.hk) hL.pe hi.pe hs,λσ H Q hk q=>hL.ev σ H [] _ _ (λi d z=>by cases z) hf λv H1 s1 n1=>hi.ev σ H1 _ hk λu H2 s2 n2=>by
  have ru:=n2.rv
  unfold Rv at ru
  subst ru
  have rl:=n1.rv
  unfold Rv at rl
  obtain⟨a,xs,rfl,r2,r3⟩:=rl
  obtain⟨x,hx,rx⟩:=r3.get hd
  refine⟨a,xs,m,x,rfl,rfl,s2.seq r2,aFF (by omega) (by rw[hj,D9];exact hx),q _ H2 (s1.trans s2) (.iI him (s2.rv _ _ rx))⟩⟩
end
end L2


namespace L2
open PySem PySem.Spec PyProof.Rows
abbrev aN(ns:List Int):D:=.lst (ns.map D.int)
theorem Et{i:Nat}{g:GS}(I:Nat→EN→Prop):∀(xs:List D)(env:EN)(n:Nat),I n env→(∀k x env,xs[k]?=some x→I (n+k) env→i<env.length∧∃env',g (env.set i (.fro x))=.next env'∧I (n+k+1) env')→∃env',Aa i g xs env=.next env'∧I (n+xs.length) env'
 | [],env,n,h,_=>⟨env,by unfold Aa;rfl,h⟩
 | x::xs,env,n,h,st=>by
  obtain⟨h1,env',h2,h3⟩:=st 0 x env rfl h
  obtain⟨cY,a1,a2⟩:=Et I xs env' (n+1) h3 λk y e hk hi=>by
   have:=st (k+1) y e (by simpa using hk) (by rw[show n+(k+1)=n+1+k by omega];exact hi)
   rw[show n+(k+1)+1=n+1+k+1 by omega]at this
   exact this
  refine⟨cY,?_,?_⟩
  ·unfold Aa
   rw[if_pos h1,h2]
   exact a1
  ·rw[E9,show n+(xs.length+1)=n+1+xs.length by omega]
   exact a2
theorem cD{g1 g2:GS}{env env':EN}(h:g1 env=.next env'):aW g1 g2 env=g2 env':=by unfold aW;rw[h]
theorem Li{g1 g2:GS}{env:EN}{d:D}(h:g1 env=.ret d):aW g1 g2 env=.ret d:=by unfold aW;rw[h]
theorem Cu{f:FT}{g1 g2:GS}{env:EN}(h:f (rE env)=some true):zN f g1 g2 env=g1 env:=by unfold zN;rw[h]
theorem lX{f:FT}{g1 g2:GS}{env:EN}(h:f (rE env)=some false):zN f g1 g2 env=g2 env:=by unfold zN;rw[h]
theorem rJ{i:Nat}{f:FE}{env:EN}{d:D}(h:f (rE env)=some d)(hi:i<env.length):cW i f env=.next (env.set i (.own d)):=by unfold cW;rw[h];dsimp only;rw[if_pos hi]
theorem qy{i:Nat}{f:FE}{env:EN}{d:D}(h:f (zE env)=some d)(hi:i<env.length):Kg i f env=.next (env.set i (.fro d)):=by unfold Kg;rw[h];dsimp only;rw[if_pos hi]
theorem dO{f:FE}{env:EN}{d:D}(h:f (rE env)=some d):gU f env=.ret d:=by unfold gU;rw[h]
theorem qz{i:Nat}{fi:FA}{g:GS}{env:EN}{xs:List D}(h:fi (rE env)=some xs):wN i fi g env=Aa i g xs env:=by unfold wN;rw[h]
theorem QX{js:List Nat}{i:Nat}{fi:FA}{g:GS}{env Gz:EN}{xs:List D}(h0:Bf js env=Gz)(h:fi (zE Gz)=some xs):Xj js i fi g env=Aa i g xs Gz:=by unfold Xj;rw[h0,h]
theorem mR{n m:Nat}{g:GS}{ds:List D}{d:D}(hl:ds.length=m)(h:g (ds.map SD.fro++E7 (n-m) SD.no)=.ret d):qZ n m g ds=some d:=by unfold qZ;rw[if_pos hl,h]
theorem aQ{φ:D→D→Option D}{f g:FE}{e:DE}{a b d:D}(h1:f e=some a)(h2:g e=some b)(h:φ a b=some d):f2 φ f g e=some d:=by unfold f2;rw[h1,h2];exact h
theorem gR{φ:List D→Option D}{fs:FA}{e:DE}{ds:List D}{d:D}(h1:fs e=some ds)(h:φ ds=some d):fL φ fs e=some d:=by unfold fL;rw[h1];exact h
theorem aA{f:FE}{fs:FA}{e:DE}{a:D}{r:List D}(h1:f e=some a)(h2:fs e=some r):aB f fs e=some (a::r):=by unfold aB;rw[h1,h2];rfl
theorem bK{n:Nat}{F:List D→Option D}{fs:FA}{e:DE}{ds:List D}{d:D}(h1:fs e=some ds)(hl:ds.length=n)(h:F ds=some d):cM n F fs e=some d:=by unfold cM;rw[h1];dsimp only[B7];rw[if_pos hl];exact h
theorem fQ{f:FE}{e:DE}{b:Bool}(h:f e=some (.bl b)):fB f e=some b:=by unfold fB;rw[h];rfl
theorem Ik{f:FT}{e:DE}{b:Bool}(h:f e=some b):Xg f e=some (!b):=by unfold Xg;rw[h];rfl
theorem rm{f g:FT}{e:DE}(h:f e=some true):Ui f g e=g e:=by unfold Ui;rw[h];rfl
theorem aEj{f g:FT}{e:DE}(h:f e=some false):Ui f g e=some false:=by unfold Ui;rw[h];rfl
theorem bJ{f:FE}{e:DE}{d:D}(h:f e=some d)(i:d.iI=true):dH f e=some d:=Qq.mpr ⟨h,i⟩
theorem bT(i j:Int):fP (.int i) (.int j)=some (.int (i+j)):=rfl
theorem Cv(i j:Int):aA0 (.int i) (.int j)=some (.int (i-j)):=by unfold aA0 Jw;exact if_pos True.intro
theorem gM{i j:Int}(h:Tj i j):vO (.int i) (.int j)=some (.int (i*j)):=by unfold vO Jw;exact if_pos h
theorem iR{i j:Int}(h:0<j)(h2:j<1073741824):yW (.int i) (.int j)=some (.int (i/j)):=by unfold yW Jw;exact if_pos (show TQ i j from⟨h,h2⟩)
theorem bM{i j:Int}(h:0<j):jJ (.int i) (.int j)=some (.int (i%j)):=by unfold jJ Jw;exact if_pos h
theorem wO{i j:Int}(h:TV i j):Od (.int i) (.int j)=some (.int (i ^ j.toNat)):=by unfold Od Jw;exact if_pos h
theorem Il(i j:Int):dLt (.int i) (.int j)=some (.bl (decide (i<j))):=by unfold dLt Jw;exact if_pos True.intro
theorem Va(i j:Int):dGt (.int i) (.int j)=some (.bl (decide (j<i))):=by unfold dGt Jw;exact if_pos True.intro
theorem Vb(i j:Int):dLe (.int i) (.int j)=some (.bl (decide (i≤j))):=by unfold dLe Jw;exact if_pos True.intro
theorem QZ(i j:Int):decide (V.int i=V.int j)=decide (i=j):=by
 by_cases c:i=j
 ·subst c;simp
 ·rw[decide_eq_false c,decide_eq_false (λz=>c (by cases z;rfl))]
theorem lF(i j:Int):Gi (.int i) (.int j)=some (.bl (decide (i=j))):=by
 unfold Gi toV
 dsimp only
 rw[if_pos (by rfl),QZ]
theorem yI(i j:Int):Hv (.int i) (.int j)=some (.bl (!decide (i=j))):=by
 unfold Hv toV
 dsimp only
 rw[if_pos (by rfl),QZ]
theorem IK{α:Type}{xs:List α}{i:Int}{x:α}(h0:0≤i)(h:xs[i.toNat]?=some x):LK xs i=some x:=by
 have h1:i.toNat<xs.length:=by
  obtain⟨h1,_⟩:=D3.mp h
  exact h1
 unfold LK UJ
 rw[if_pos h0,if_pos (by omega)]
 exact h
theorem yJ{ds:List D}{i:Int}{d:D}(h0:0≤i)(h:ds[i.toNat]?=some d):lD (.lst ds) (.int i)=some d:=IK h0 h
theorem Cw{ds:List D}{i:Int}{d:D}(h0:0≤i)(h:ds[i.toNat]?=some d):lD (.tup ds) (.int i)=some d:=IK h0 h
theorem oV{ns:List Int}{i:Int}(h0:0≤i)(h:i<ns.length):lD (aN ns) (.int i)=some (.int (ns.getD i.toNat 0)):=IK h0 (by
 rw[C5,C4,B6 (show i.toNat<ns.length by omega)];rfl)
theorem Lj(ds:List D):pQ [.lst ds]=some (.int ds.length):=rfl
theorem nQ(ns:List Int):pQ [aN ns]=some (.int ns.length):=by show some (D.int ((ns.map D.int).length:Nat))=_;rw[B8]
theorem Rn{c:D→Option Bool}{el:D→Option D}{φ:D→D}:∀{xs:List D},(∀x∈xs,c x=some true)→(∀x∈xs,el x=some (φ x))→mL c el xs=some (xs.map φ)
 | [],_,_=>by unfold mL;rfl
 | x::xs,hc,he=>by
  unfold mL
  rw[hc x D1,he x D1,Rn (xs:=xs) (λy hy=>hc y (C7 _ hy)) λy hy=>he y (C7 _ hy)]
  rfl
theorem Cy{c:D→Option Bool}{el:D→Option D}{p:D→Bool}{φ:D→D}:∀{xs:List D},(∀x∈xs,c x=some (p x))→(∀x∈xs,p x=true→el x=some (φ x))→mL c el xs=some ((xs.filter p).map φ)
 | [],_,_=>by unfold mL;rfl
 | x::xs,hc,he=>by
  have ih:=Cy (xs:=xs) (p:=p) (φ:=φ) (λy hy=>hc y (C7 _ hy)) λy hy=>he y (C7 _ hy)
  unfold mL
  rw[hc x D1,B7,P6]
  cases q:p x with
  | true=>rw[if_pos rfl,if_pos rfl,he x D1 q,ih];rfl
  | false=>rw[if_neg (by decide),if_neg (by decide)];exact ih
theorem wQ{fi:FA}{fr:List Nat}{fc:FT}{fe:FE}{e:DE}{xs ys:List D}(h1:fi e=some xs)(hl:xs.length≤100000)(h:mL (λx=>fc (some x::rF e fr)) (λx=>fe (some x::rF e fr)) xs=some ys):jM fi fr fc fe e=some (.lst ys):=by
 unfold jM
 rw[h1,B7,if_pos hl,h]
 rfl
theorem Ah(lo:Int)(n:Nat):(iB lo n).length=n:=by unfold iB;rw[B8,E6]
theorem Lk{lo:Int}{n k:Nat}{x:D}(h:(iB lo n)[k]?=some x):k<n∧x=.int (lo+k):=by
 unfold iB at h
 rw[C5]at h
 cases q:(D5 n)[k]? with
 | none=>rw[q]at h;cases h
 | some j=>
  rw[q]at h
  obtain⟨h1,h2⟩:=D3.mp q
  rw[E6]at h1
  rw[List.getElem_range]at h2
  subst h2
  exact⟨h1,(F0 h).symm⟩
theorem Ai{lo:Int}{n:Nat}{x:D}(h:x∈iB lo n):∃k:Nat,k<n∧x=.int (lo+k):=by
 obtain⟨k,hk,e⟩:=O3 h
 obtain⟨a1,a2⟩:=Lk (k:=k) (x:=x) (by rw[B6 hk,e])
 exact⟨k,a1,a2⟩
theorem Ys{fs:FA}{e:DE}{n:Int}(h:fs e=some [.int n])(h1:-100000≤n)(h2:n≤100000):pK fs e=some (iB 0 n.toNat):=by
 unfold pK
 rw[h]
 dsimp only[B7]
 rw[if_pos (show lim n=true from decide_eq_true ⟨h1,h2⟩)]
theorem rn{fs:FA}{e:DE}{i j:Int}(h:fs e=some [.int i,.int j])(h1:-100000≤i)(h2:i≤100000)(h3:-100000≤j)(h4:j≤100000):Xi fs e=some (iB i (j-i).toNat):=by
 unfold Xi
 rw[h]
 dsimp only[B7]
 rw[if_pos ⟨show lim i=true from decide_eq_true ⟨h1,h2⟩,show lim j=true from decide_eq_true ⟨h3,h4⟩⟩]
theorem Eu{i j:Int}(h1:-18446744073709551616<i)(h2:i<18446744073709551616):Tj i j:=.inl ⟨h1,h2⟩
theorem aEk{i:Nat}{f:FE}{env:EN}{ds:List D}{d:D}(h1:env[i]?=some (.own (.lst ds)))(h2:f (rE env)=some d)(hl:ds.length<100000):Bv i fG f env=.next (env.set i (.own (.lst (ds++[d])))):=by
 unfold Bv fG
 rw[h1,h2]
 dsimp only[fD]
 rw[if_pos hl]
 rfl
end L2


namespace L2
open PySem PySem.Spec PyProof.Rows
section
variable{i j:Nat}{f:FE}{c:FT}{g1 g2 g:GS}{env env':EN}{d:D}{r:SR}{ds:List D}
theorem sr(h:f (rE env)=some d)(hi:i<env.length)(k:g (env.set i (.own d))=r):aW (cW i f) g env=r:=(cD (rJ h hi)).trans k
theorem aBE(h:f (zE env)=some d)(hi:i<env.length)(k:g (env.set i (.fro d))=r):aW (Kg i f) g env=r:=(cD (qy h hi)).trans k
theorem aCE{b:Bool}(h:c (rE env)=some b)(k1:b=true→aW g1 g env=r)(k2:b=false→aW g2 g env=r):aW (zN c g1 g2) g env=r:=by
 cases b with
 | true=>have k:=k1 rfl;unfold aW at k ⊢;rw[Cu h];exact k
 | false=>have k:=k2 rfl;unfold aW at k ⊢;rw[lX h];exact k
theorem aEm{b:Bool}(h:c (rE env)=some b)(hb:b=false)(k:aW g2 g env=r):aW (zN c g1 g2) g env=r:=aCE h (λz=>by rw[hb]at z;cases z) λ_=>k
theorem aEn{b:Bool}(h:c (rE env)=some b)(hb:b=true)(k:aW g1 g env=r):aW (zN c g1 g2) g env=r:=aCE h (λ_=>k) (λz=>by rw[hb]at z;cases z)
theorem aGe(k:g env=r):aW iC g env=r:=k
theorem aGf(h:f (rE env)=some d)(k:SR.ret d=r):aW (gU f) g env=r:=(Li (dO h)).trans k
theorem aGg(h:g1 env=.next env')(k:g env'=r):aW g1 g env=r:=(cD h).trans k
theorem YK(h:env[i]?=some (.own d)):wK i env=.ret d:=by unfold wK;rw[h]
theorem oH{fs:FA}{e:DE}(h:fs e=some ds)(hl:ds.length≤100000):vN fs e=some (.tup ds):=by unfold vN cap;rw[h];dsimp only[B7];rw[if_pos hl]
theorem gO{fs:FA}{e:DE}(h:fs e=some ds)(hl:ds.length≤100000):lK fs e=some (.lst ds):=by unfold lK cap;rw[h];dsimp only[B7];rw[if_pos hl]
theorem mU{e:DE}{z:Int}(h:f e=some (.int z)):tQ f e=some (.int (-z)):=by unfold tQ;rw[h];rfl
theorem su{e:DE}{c':FT}{a b:Bool}(h:c e=some a)(k:c' e=some b):fOr c c' e=some (a||b):=by
 unfold fOr;rw[h]
 cases a with
 | true=>rfl
 | false=>exact k
theorem oW{e:DE}(h:f e=some (.lst ds)):yX f e=some ds:=by unfold yX;rw[h];rfl
theorem Ro{a b:List D}(h:D.fZ (a++b)=true)(hl:a.length+b.length≤100000):fP (.lst a) (.lst b)=some (.lst (a++b)):=by
 show (if D.fZ (a++b)=true∧a.length+b.length≤100000 then some (D.lst (a++b))else none)=_
 rw[if_pos ⟨h,hl⟩]
theorem pZ(d:D)(ds:List D):D.fZ (d::ds)=(d.iI&&D.fZ ds):=by rw[D.fZ]
theorem Yt{a b:List D}:D.fZ (a++b)=(D.fZ a&&D.fZ b):=by
 induction a with
 | nil=>rw[X5,D.fZ];rfl
 | cons x a ih=>rw[P5,pZ,pZ,ih,Bool.and_assoc]
theorem Cz{ds:List D}(h:∀d∈ds,d.iI=true):D.fZ ds=true:=by
 induction ds with
 | nil=>unfold D.fZ;rfl
 | cons d ds ih=>unfold D.fZ;rw[h d D1,ih λe he=>h e (C7 _ he)];rfl
theorem lA(ns:List Int):(dTup ns).iI=true:=by unfold dTup D.iI;exact cV ns
theorem qC(h:D.fZ ds=true):dList [.lst ds]=some (.lst ds):=by
 show (if D.fZ ds=true then some (D.lst ds)else none)=_
 rw[if_pos h]
theorem qO(ns:List Int):fO (ns.map D.int)=some (ns.map DV.int):=by
 induction ns with
 | nil=>unfold fO;rfl
 | cons n ns ih=>rw[D2];unfold fO eG;rw[B7,ih];rfl
theorem sy(ns ms:List Int):Gi (aN ns) (aN ms)=some (.bl (decide (ns=ms))):=by
 unfold Gi toV
 dsimp only
 unfold eG
 rw[qO,qO]
 dsimp only[G4]
 rw[if_pos (by unfold DV.depth;rw[nJ];decide)]
 congr 2
 rw[N8,tH,decide_eq_true_iff]
 constructor
 ·intro z;injection z with z;exact Xb.mp z
 ·intro z;rw[z]
end
end L2
namespace L2
theorem Im{i:Nat}{e:DE}{d:D}(h:e[i]?=some (some d)):aG i e=some d:=by unfold aG;rw[h];rfl
theorem aGh{e:DE}{d:D}:fC d e=some d:=rfl
theorem tu{e:DE}:aK e=some []:=rfl
end L2
namespace L2
theorem uc{i:Nat}{fi:FA}{gb:GS}{env:EN}{n:Nat}(I:Nat→EN→Prop)(h:fi (rE env)=some (iB 0 n))(h0:I 0 env)
  (st:∀(k:Nat) env,k<n→I k env→i<env.length∧∃env',gb (env.set i (.fro (.int k)))=.next env'∧I (k+1) env'):∃env',wN i fi gb env=.next env'∧I n env':=by
 obtain⟨env',h1,h2⟩:=Et (i:=i) (g:=gb) I (iB 0 n) env 0 h0 λk x e hx hi=>by
  rw[Q3]at hi ⊢
  obtain⟨hk,rfl⟩:=Lk hx
  rw[c6]
  exact st k e hk hi
 rw[Q3,Ah]at h2
 exact⟨env',(qz h).trans h1,h2⟩
theorem Rp{α β:Type}(φ:α→β):∀(l:List α)(k:Nat),(l.map φ).eraseIdx k=(l.eraseIdx k).map φ
 | [],k=>by simp
 | a::l,0=>by simp
 | a::l,k+1=>by rw[D2,M5,M5,D2,Rp φ l k]
theorem Vc{i j:Nat}{f:FE}{env:EN}{ns ms:List Int}{k:Int}(h1:env[i]?=some (.own (aN ns)))(h2:env[j]?=some (.own (aN ms)))(h3:f (rE env)=some (.int k))(hij:i≠j)(hn:ns.length<1000)(hm:ms.length<1000)(k0:0≤k)(k1:k<ms.length) :
  yC i j f env=.next ((env.set j (.own (aN (ms.eraseIdx k.toNat)))).set i (.own (aN (ns++[ms.getD k.toNat 0])))):=by
 have hk:k.toNat<ms.length:=by omega
 unfold yC
 rw[h1,h2,h3]
 dsimp only
 rw[if_pos ⟨hij,by rw[B8];omega,k0,by rw[B8];exact k1,by rw[B8];omega⟩]
 have e:(ms.map D.int)[k.toNat]?=some (.int (ms.getD k.toNat 0)):=by
  rw[C5,C4,B6 hk];rfl
 rw[e]
 dsimp only
 rw[if_pos (show D.iI (.int (ms.getD k.toNat 0))=true from rfl)]
 have e1:(ms.map D.int).eraseIdx k.toNat=(ms.eraseIdx k.toNat).map D.int:=by
  rw[Rp]
 have e2:ns.map D.int++[D.int (ms.getD k.toNat 0)]=(ns++[ms.getD k.toNat 0]).map D.int:=by rw[K3];rfl
 rw[e1,e2]
theorem Aj(ns:List Int)(n:Int):D.lst (ns.map D.int++[.int n])=aN (ns++[n]):=by unfold aN;rw[K3];rfl
end L2


namespace L2
open PySem PySem.Spec PyProof.Rows
def Qs(Pr:SR→Prop)(r:SR):Prop:=Pr r
section
variable{i j:Nat}{f:FE}{c:FT}{g1 g2 g gb:GS}{env env':EN}{d:D}{ds:List D}{Pr:SR→Prop}
theorem eQ(h:f (rE env)=some d)(hi:i<env.length)(k:Qs Pr (g (env.set i (.own d)))):Qs Pr (aW (cW i f) g env):=by rw[cD (rJ h hi)];exact k
theorem aEo(h:f (rE env)=some d)(hi:i<env.length)(k:Pr (.next (env.set i (.own d)))):Qs Pr (cW i f env):=by rw[rJ h hi];exact k
theorem Ln(h:g1 env=.next env')(k:Qs Pr (g env')):Qs Pr (aW g1 g env):=by rw[cD h];exact k
theorem Lp(k:Qs Pr (g env)):Qs Pr (aW iC g env):=k
theorem aGi(k:Pr (.next env)):Qs Pr (iC env):=k
theorem Oo{b:Bool}(h:c (rE env)=some b)(k1:b=true→Qs Pr (aW g1 g env))(k2:b=false→Qs Pr (aW g2 g env)):Qs Pr (aW (zN c g1 g2) g env):=by
 cases b with
 | true=>have k:=k1 rfl;unfold aW at k ⊢;rw[Cu h];exact k
 | false=>have k:=k2 rfl;unfold aW at k ⊢;rw[lX h];exact k
theorem ud{b:Bool}(h:c (rE env)=some b)(hb:b=false)(k:Qs Pr (aW g2 g env)):Qs Pr (aW (zN c g1 g2) g env):=Oo h (λz=>by rw[hb]at z;cases z) λ_=>k
theorem aGj{b:Bool}(h:c (rE env)=some b)(hb:b=true)(k:Qs Pr (aW g1 g env)):Qs Pr (aW (zN c g1 g2) g env):=Oo h (λ_=>k) (λz=>by rw[hb]at z;cases z)
theorem ue(h:f (rE env)=some d)(k:Pr (.ret d)):Qs Pr (aW (gU f) g env):=by rw[Li (dO h)];exact k
theorem Ew(h:f (rE env)=some d)(k:Pr (.ret d)):Qs Pr (gU f env):=by rw[dO h];exact k
theorem IV(h:env[i]?=some (.own d))(k:Pr (.ret d)):Qs Pr (wK i env):=by rw[YK h];exact k
theorem Io{fi:FA}{n:Nat}(I:Nat→EN→Prop)(h:fi (rE env)=some (iB 0 n))(h0:I 0 env)
  (st:∀(k:Nat) env,k<n→I k env→i<env.length∧Qs (λr=>∃env',r=.next env'∧I (k+1) env') (gb (env.set i (.fro (.int k))))) (k:∀env',I n env'→Qs Pr (g env')):Qs Pr (aW (wN i fi gb) g env):=by
 obtain⟨env',h1,h2⟩:=uc (gb:=gb) I h h0 λk env hk hi=>⟨(st k env hk hi).1,let ⟨e,a,b⟩:=(st k env hk hi).2;⟨e,a,b⟩⟩
 rw[cD h1]
 exact k env' h2
theorem aGk{js:List Nat}{fi:FA}{Gz:EN}{xs:List D}(I:Nat→EN→Prop)(hf:Bf js env=Gz)(h:fi (zE Gz)=some xs)(h0:I 0 Gz)
  (st:∀(k:Nat) x env,xs[k]?=some x→I k env→i<env.length∧Qs (λr=>∃env',r=.next env'∧I (k+1) env') (gb (env.set i (.fro x)))) (k:∀env',I xs.length env'→Qs Pr (g env')):Qs Pr (aW (Xj js i fi gb) g env):=by
 obtain⟨env',h1,h2⟩:=Et (i:=i) (g:=gb) I xs Gz 0 h0 λk x e hx hi=>by
  rw[Q3]at hi ⊢
  exact⟨(st k x e hx hi).1,let ⟨e,a,b⟩:=(st k x e hx hi).2;⟨e,a,b⟩⟩
 rw[Q3]at h2
 rw[cD ((QX hf h).trans h1)]
 exact k env' h2
theorem aGl{is:List Nat}(h:f (rE env)=some (.tup ds))(hl:is.length=ds.length)(hi:is.all (λi=>decide (i<env.length))=true)(k:Qs Pr (g (rH env is ds))):Qs Pr (aW (uL is f) g env):=by
 have:uL is f env=.next (rH env is ds):=by unfold uL;rw[h];dsimp only;rw[if_pos ⟨hl,hi⟩]
 rw[cD this]
 exact k
theorem wR{n m:Nat}{Pd:D→Prop}(hl:ds.length=m)(h:Qs (λr=>∃d,r=.ret d∧Pd d) (g (ds.map SD.fro++E7 (n-m) SD.no))):∃d,qZ n m g ds=some d∧Pd d:=by
 obtain⟨d,h1,h2⟩:=h
 exact⟨d,mR hl h1,h2⟩
theorem yK{fs:FA}{e:DE}{n:Nat}(h:fs e=some [.int (n:Int)])(hn:n≤100000):pK fs e=some (iB 0 n):=by
 rw[Ys h (by omega) (by omega),D9]
end
end L2
namespace L2
theorem Al{fi:FA}{fr:List Nat}{fe:FE}{e:DE}{n:Nat}{φ:Nat→D}(h1:fi e=some (iB 0 n))(hn:n≤1000)(he:∀k:Nat,k<n→fe (some (.int k)::rF e fr)=some (φ k)):jM fi fr qI fe e=some (.lst ((D5 n).map φ)):=by
 refine wQ h1 (by rw[Ah];omega) ?_
 refine(Rn (c:=λx=>qI (some x::rF e fr)) (φ:=λx=>match x with | .int i=>φ i.toNat | d=>d) (λ_ _=>rfl) ?_).trans ?_
 rotate_left
 ·congr 1
  unfold iB
  rw[K0]
  apply R0
  intro k _
  show φ ((0:Int)+(k:Int)).toNat=φ k
  rw[c6,D9]
 ·intro x hx
  obtain⟨k,hk,rfl⟩:=Ai hx
  rw[c6]
  show _=some (φ ((k:Int)).toNat)
  rw[D9]
  exact he k hk
theorem Ey{fi:FA}{fr:List Nat}{fe:FE}{e:DE}{α:Type}{xs:List α}{ψ φ:α→D}(h1:fi e=some (xs.map ψ))(hn:xs.length≤1000)(he:∀x∈xs,fe (some (ψ x)::rF e fr)=some (φ x)):jM fi fr qI fe e=some (.lst (xs.map φ)):=by
 refine wQ h1 (by rw[B8];omega) ?_
 clear h1 hn
 induction xs with
 | nil=>rw[F8,F8];unfold mL;rfl
 | cons x xs ih=>
  rw[D2]
  unfold mL
  show (some true).bind _=_
  rw[B7,if_pos rfl,he x D1,B7,ih λy hy=>he y (C7 _ hy)]
  rfl
theorem Lq{α:Type} [Inhabited α]:∀(l:List α)(k:Nat)(d:α),k<l.length→(l.getD k d::l.eraseIdx k).Perm l
 | [],k,d,h=>absurd h (by simp)
 | a::l,0,d,_=>by simp
 | a::l,k+1,d,h=>by
  rw[M5,U3]
  exact(j6 _ _ _).trans ((Lq l k d (by simpa using h)).cons a)
theorem rK{α:Type}{l:List α}{k:Nat}{x d:α}(h:l[k]?=some x):l.getD k d=x:=by rw[C4,h];rfl
theorem wU{α:Type}{l:List α}{k:Nat}{d:α}(h:k<l.length):l[k]?=some (l.getD k d):=by rw[C4,B6 h];rfl
theorem Am(ns ms:List Int)(h:ns.length+ms.length≤100000):fP (aN ns) (aN ms)=some (aN (ns++ms)):=by
 have:=Ro (a:=ns.map D.int) (b:=ms.map D.int) (by rw[Yt,cV,cV];rfl) (by rw[B8,B8];exact h)
 rw[←K3]at this
 exact this
end L2


namespace L2
open PySem PySem.Spec PyProof.Rows
section
variable{i j:Nat}{f:FE}{c:FT}{g1 g2 g gb:GS}{env env':EN}{d:D}{ds:List D}{Pr:SR→Prop}
theorem Rq{fc:FT}(I:Nat→EN→Prop)(hs:∀n env,I n env→(fc (rE env)=some false)∨(fc (rE env)=some true∧0<n∧∃env',gb env=.next env'∧I (n-1) env')):∀(fuel n:Nat)(env:EN),n<fuel→I n env→∃env' n',mO fc gb fuel env=.next env'∧I n' env'∧fc (rE env')=some false
 | 0,n,env,h,_=>absurd h (by omega)
 | fuel+1,n,env,h,hi=>by
  rcases hs n env hi with q | ⟨q,hn,env',h1,h2⟩
  ·exact⟨env,n,by unfold mO;rw[q],hi,q⟩
  ·obtain⟨e2,n2,a1,a2,a3⟩:=Rq I hs fuel (n-1) env' (by omega) h2
   refine⟨e2,n2,?_,a2,a3⟩
   unfold mO
   rw[q,h1]
   exact a1
end
end L2
namespace L2
theorem aBF{l:List Int}{b:Int}:(G9 b:Key)∈l.map (G9:Int→Key)↔b∈l:=by
 rw[G8]
 constructor
 ·rintro⟨a,h1,h2⟩;cases h2;exact h1
 ·intro h;exact⟨b,h,rfl⟩
theorem Lr{l:List Int}{b:Int}(h:b∉l):posK (l.map (G9:Int→Key)) (G9 b)=none:=Ej.mpr λz=>h (aBF.mp z)
theorem aBG{i:Nat}{f f':FE}{env:EN}{ks:List Key}{ds:List D}{kd d:D}{k:Key}(h1:env[i]?=some (.own (.dk ks ds)))(h2:f (rE env)=some kd)(h3:f' (rE env)=some d)(h4:Oe kd=some k)(h5:posK ks k=none)(im:d.iI=true)(hl:ks.length<100000):vD i fG f f' env=.next (env.set i (.own (.dk (ks++[k]) (ds++[d])))):=by
 have e1:kW ks k=ks++[k]:=by unfold kW;rw[h5];rfl
 have e2:putD ks ds k d=ds++[d]:=by unfold putD;rw[h5];rfl
 unfold vD fG
 rw[h1,h2,h3]
 dsimp only[fD]
 rw[h4]
 dsimp only
 rw[if_pos ⟨im,hl⟩,e1,e2]
 rfl
theorem YL(l:List Int):D.lst ((l.map (G9:Int→Key)).map kD)=aN l:=by
 unfold aN
 rw[K0]
 rfl
theorem Vd{fc:FT}{gb g:GS}{env:EN}{Pr:SR→Prop}{fuel n:Nat}(I:Nat→EN→Prop)(h0:I n env)(hn:n<fuel)(hs:∀n env,I n env→(fc (rE env)=some false)∨(fc (rE env)=some true∧0<n∧∃env',gb env=.next env'∧I (n-1) env'))
  (k:∀env' n',I n' env'→fc (rE env')=some false→Qs Pr (g env')):Qs Pr (aW (mO fc gb fuel) g env):=by
 obtain⟨env',n',a1,a2,a3⟩:=Rq I hs fuel n env hn h0
 rw[cD a1]
 exact k env' n' a2 a3
end L2
namespace L2
theorem YM(ns:List Int):Xe (ns.map D.int)=some (ns.map V.int):=by
 induction ns with
 | nil=>unfold Xe;rfl
 | cons n ns ih=>rw[D2];unfold Xe toV;rw[B7,ih];rfl
theorem Yu(neg:Bool)(i:Int)(ns:List Int):dIn neg (.int i) (aN ns)=some (.bl (if neg then !decide (i∈ns)else decide (i∈ns))):=by
 unfold dIn
 show (some (V.int i)).bind _=_
 rw[B7]
 show (some (ns.map D.int)).bind _=_
 rw[B7,YM,B7,if_pos ⟨rfl,VG ns⟩,aAV]
theorem Ve{ns:List Int}(h:ns.length<64):Hy [aN ns]=some (aN (sortI ns)):=by
 show (intsOf (ns.map D.int)).bind _=_
 rw[jL,B7,if_pos h]
end L2


namespace L2
open PySem PySem.Spec PyProof.Rows
def dkT(ks:List Int):D:=.dk (ks.map G9) (ks.map λ_=>.bl true)
theorem Rr{fi:FA}{fr:List Nat}{fc:FT}{fe:FE}{e:DE}{ms:List Int}(p:Int→Bool)(φ:Int→D)(h1:fi e=some (ms.map D.int))(hn:ms.length≤1000)(hc:∀m∈ms,fc (some (.int m)::rF e fr)=some (p m))(he:∀m∈ms,p m=true→fe (some (.int m)::rF e fr)=some (φ m)) :
  jM fi fr fc fe e=some (.lst ((ms.filter p).map φ)):=by
 refine wQ h1 (by rw[B8];omega) ?_
 clear h1 hn
 induction ms with
 | nil=>rw[F8];unfold mL;rfl
 | cons m ms ih=>
  have ih:=ih (λy hy=>hc y (C7 _ hy)) λy hy=>he y (C7 _ hy)
  rw[D2]
  unfold mL
  rw[hc m D1,B7,P6]
  cases q:p m with
  | true=>rw[if_pos rfl,if_pos rfl,he m D1 q,B7,ih];rfl
  | false=>rw[if_neg (by decide),if_neg (by decide)];exact ih
theorem cR{φ:D→Option D}{f:FE}{e:DE}{a d:D}(h1:f e=some a)(h:φ a=some d):qY φ f e=some d:=by unfold qY;rw[h1];exact h
theorem IW{ns:List Int}(h:ns.length<64):QG (aN ns)=some (aN (QD ns)):=by
 show (intsOf (ns.map D.int)).bind _=_
 rw[jL,B7,if_pos h]
theorem Yv(ns:List Int):Ke [aN ns]=some (dTup ns):=by
 unfold Ke
 dsimp only
 rw[show vP (aN ns)=some (ns.map D.int)from by unfold aN vP;rfl,B7,if_pos (cV _)]
 rfl
theorem JB{ns:List Int}(h:0<ns.length):OD [aN ns]=some (.int (FZ ns)):=by
 show (intsOf (ns.map D.int)).bind _=_
 rw[jL,B7,if_pos h]
structure vG where
 mV:Int
 place:Int
 thing:List Int
 needs:List Int
 deriving Inhabited
def Yw(c:vG):D:=.tup [.int c.mV,.int c.place,dTup c.thing,dTup c.needs]
def zB(cs:List vG):D:=.lst (cs.map Yw)
theorem aEp(c:vG):(Yw c).iI=true:=by
 unfold Yw D.iI
 rw[pZ,pZ,pZ,pZ,lA,lA]
 rfl
theorem uf(cs:List vG):D.fZ (cs.map Yw)=true:=Cz λd h=>by
 obtain⟨c,_,rfl⟩:=G8.mp h
 exact aEp c
abbrev at_(cs:List vG)(k:Nat):vG:=cs.getD k default
theorem ug{cs:List vG}{k:Nat}(h:k<cs.length):lD (zB cs) (.int k)=some (Yw (at_ cs k)):=yJ (by omega) (by
 rw[D9,C5,wU (d:=default) h]
 rfl)
theorem Yx(c:vG):lD (Yw c) (.int 2)=some (dTup c.thing):=Cw (by decide) rfl
theorem Vf(cs:List vG):pQ [zB cs]=some (.int cs.length):=by show some (D.int ((cs.map Yw).length:Nat))=_;rw[B8]
def Good(cs:List vG):Prop:=cs.length≤140∧∀k,k<cs.length→(∀m∈(at_ cs k).needs,0≤m∧m<k)∧(at_ cs k).needs.Pairwise (·<·)∧(at_ cs k).needs.length≤9
def chV(c:vG):DV:=.tup [.int c.mV,.int c.place,.tup (c.thing.map DV.int),.tup (c.needs.map DV.int)]
theorem Ls(ns:List Int):eG (dTup ns)=some (.tup (ns.map DV.int)):=by
 unfold dTup eG
 rw[qO]
 rfl
theorem aBH(c:vG):eG (Yw c)=some (chV c):=by
 have i1:∀i:Int,eG (.int i)=some (.int i):=λi=>by unfold eG;rfl
 unfold Yw eG fO
 rw[i1,B7]
 unfold fO
 rw[i1,B7]
 unfold fO
 rw[Ls,B7]
 unfold fO
 rw[Ls,B7]
 unfold fO
 rfl
theorem Rt:∀cs:List vG,fO (cs.map Yw)=some (cs.map chV)
 | []=>by rw[F8];unfold fO;rfl
 | c::cs=>by rw[D2];unfold fO;rw[aBH,B7,Rt cs];rfl
theorem uh(c:vG):(chV c).depth≤2:=by
 unfold chV DV.depth bQ
 have e:∀i:Int,(DV.int i).depth=0:=λi=>by unfold DV.depth;rfl
 have t:∀ns:List Int,(DV.tup (ns.map DV.int)).depth=1:=λns=>by unfold DV.depth;rw[nJ]
 rw[e]
 unfold bQ
 rw[e]
 unfold bQ
 rw[t]
 unfold bQ
 rw[t]
 unfold bQ
 decide
theorem Lw:∀cs:List vG,bQ (cs.map chV)≤2
 | []=>by rw[F8];unfold bQ;decide
 | c::cs=>by
  rw[D2]
  unfold bQ
  have:=uh c
  have:=Lw cs
  omega
theorem Yy(ns ms:List Int):Hv (aN ns) (aN ms)=some (.bl (!decide (ns=ms))):=by
 have e:∀l:List Int,eG (aN l)=some (.lst (l.map DV.int)):=λl=>by unfold aN eG;rw[qO];rfl
 unfold Hv
 rw[e,e]
 unfold toV
 dsimp only
 rw[if_pos (by rw[nJ];decide)]
 congr 3
 rw[N8,tH,decide_eq_true_iff]
 constructor
 ·intro z;injection z with z;exact Xb.mp z
 ·intro z;rw[z]
end L2
namespace L2
theorem qP{cs:List vG}{c:vG}{k:Nat}(h:k<cs.length):at_ (cs++[c]) k=at_ cs k:=by
 unfold at_
 rw[C4,C4,G3 h]
theorem uO(cs:List vG)(c:vG):at_ (cs++[c]) cs.length=c:=by
 unfold at_
 rw[C4,N2 (C8 _)]
 simp
theorem YQ(cs:List vG)(c:vG):D.lst (cs.map Yw++[Yw c])=zB (cs++[c]):=by unfold zB;rw[K3];rfl
end L2
namespace L2
end L2


namespace L2
open PySem PySem.Spec PyProof.Rows
end L2


namespace L2
open PySem PySem.Spec PyProof.Rows
theorem tV:∀(n:Nat)(l:List Int),l.Nodup→(∀x∈l,0≤x∧x<(n:Int))→l.length≤n
 | 0,l,_,h=>by
  cases l with
  | nil=>exact C8 _
  | cons a l=>
   have:=h a D1
   omega
 | n+1,l,hn,h=>by
  by_cases c:(n:Int)∈l
  ·have e:=W5 c
   have:=tV n (l.erase (n:Int)) (hn.erase _) λx hx=>by
    obtain⟨h1,h2⟩:=(hn.mem_erase_iff).mp hx
    have:=h x h2
    omega
   omega
  ·have:=tV n l hn λx hx=>by
    have:=h x hx
    have ne:x≠(n:Int):=λz=>c (by rw[←z];exact hx)
    omega
   omega
section
variable{i j:Nat}{f f':FE}{c:FT}{g1 g2 g gb:GS}{env env':EN}{d d0 d' r:D}{ds:List D}{Pr:SR→Prop}{v:V}{π:FP}{p:List Step}
theorem gH{n m:Nat}(hl:ds.length=m)(h:g (ds.map SD.fro++E7 (n-m) SD.no)=.ret d):jF n m g ds=some d:=by unfold jF;rw[if_pos hl,h]
theorem An{n m:Nat}(hl:ds.length=m)(h:g (ds.map SD.fro++E7 (n-m) SD.no)=.next env'):jF n m g ds=some .non:=by unfold jF;rw[if_pos hl,h]
theorem RB{n m:Nat}{Pd:D→Prop}(hl:ds.length=m)(h:Qs (λr=>∃d,r=.ret d∧Pd d) (g (ds.map SD.fro++E7 (n-m) SD.no))):∃d,jF n m g ds=some d∧Pd d:=by
 obtain⟨d,h1,h2⟩:=h
 exact⟨d,gH hl h1,h2⟩
theorem oJ{n m:Nat}{es:List D}(hl:es.length+1=m)(h:∀v,Qs (Yb r d' v) (g (XQ n m d es v))):lW n m g (d::es)=some (r,d'):=oh hl h
theorem RC(h1:env[i]?=some (.inn v d))(h2:g1 (env.set i (.own d))=.next env')(h3:env'[i]?=some (.own d')):jA i g1 env=.next (env'.set i (.inn v d')):=by
 unfold jA
 rw[h1]
 dsimp only
 rw[h2]
 dsimp only
 rw[h3]
theorem qQ(h1:env[i]?=some (.inn v d))(h2:g1 (env.set i (.own d))=.next env')(h3:env'[i]?=some (.own d'))(k:Qs Pr (g (env'.set i (.inn v d')))):Qs Pr (aW (jA i g1) g env):=by rw[cD (RC h1 h2 h3)];exact k
theorem um(h1:env[i]?=some (.inn v d))(h2:g1 (env.set i (.own d))=.next env')(h3:env'[i]?=some (.own d'))(k:Pr (.next (env'.set i (.inn v d')))):Qs Pr (jA i g1 env):=by rw[RC h1 h2 h3];exact k
theorem Dc(h:f (rE env)=some d):wL f env=.next env:=by unfold wL;rw[h]
theorem uo(h:f (rE env)=some d)(k:Qs Pr (g env)):Qs Pr (aW (wL f) g env):=by rw[cD (Dc h)];exact k
theorem Vg(h1:env[i]?=some (.own d0))(h2:π (rE env)=some p)(h3:fD p d0=some (.lst ds))(h4:f (rE env)=some d)(hl:ds.length<100000):Bv i π f env=.next (env.set i (.own (eN p d0 (.lst (ds++[d]))))):=by
 unfold Bv
 rw[h1,h2,h4]
 dsimp only
 rw[h3]
 dsimp only
 rw[if_pos hl]
theorem Vh{ks:List Key}{k:Key}{kd:D}(h1:env[i]?=some (.own d0))(h2:π (rE env)=some p)(h3:fD p d0=some (.dk ks ds))(h4:f (rE env)=some kd)(h5:Oe kd=some k)(h6:f' (rE env)=some d)(im:d.iI=true)(hl:ks.length<100000):vD i π f f' env=.next (env.set i (.own (eN p d0 (.dk (kW ks k) (putD ks ds k d))))):=by
 unfold vD
 rw[h1,h2,h4,h6]
 dsimp only
 rw[h3,h5]
 dsimp only
 rw[if_pos ⟨im,hl⟩]
theorem aBI{ks:List (List Key)}{k:List Key}{fk:FK}(h1:env[i]?=some (.own d0))(h2:π (rE env)=some p)(h3:fD p d0=some (.dt ks ds))(h4:fk (rE env)=some k)(h6:f' (rE env)=some d)(im:d.iI=true)(hl:ks.length<100000):Rc i π fk f' env=.next (env.set i (.own (eN p d0 (.dt (kW ks k) (putD ks ds k d))))):=by
 unfold Rc
 rw[h1,h2,h4,h6]
 dsimp only
 rw[h3]
 dsimp only
 rw[if_pos ⟨im,hl⟩]
theorem aEq{C:Addr}{nm:List Str}{x:Str}(h1:env[i]?=some (.own d0))(h2:π (rE env)=some p)(h3:fD p d0=some (.ins C nm ds))(h4:f (rE env)=some d)(hl:nm.length<900):tR C i π x f env=.next (env.set i (.own (eN p d0 (.ins C (Rb nm ds x d).1 (Rb nm ds x d).2)))):=by
 unfold tR
 rw[h1,h2,h4]
 dsimp only
 rw[h3]
 dsimp only
 rw[if_pos ⟨rfl,hl⟩]
theorem bI{C:Addr}{m:Str}{n:Nat}{F:List D→Option D}{fo:FE}{fs:FA}{BW es:List D}{e:DE}{nm:List Str}(h1:fo e=some (.ins C nm ds))(hm:m∉nm)(h2:fs e=some es)(hl:es.length+BW.length+1=n)(h3:F (.ins C nm ds::(es++BW))=some r):bZ C m n F fo fs BW e=some r:=by
 unfold bZ
 rw[h1]
 dsimp only[B7]
 rw[if_pos ⟨rfl,hm⟩,h2]
 dsimp only[B7]
 rw[if_pos hl]
 exact h3
theorem mW{C:Addr}{m:Str}{F:List D→Option (D×D)}{fs:FA2}{es:List D}{nm:List Str}{back:D→SD}(h1:env[i]?.bind SD.hold=some (d0,back))(h2:π (rE env)=some p)(h3:fD p d0=some (.ins C nm ds))(hm:m∉nm)(h4:fs (rE env) (rE (env.set i .no))=some es)(h5:F (.ins C nm ds::es)=some (r,d')):oU C m i π F fs env=some (r,env.set i (back (eN p d0 d'))):=by
 unfold oU
 rw[h1,h2,h4]
 dsimp only
 rw[h3]
 dsimp only
 rw[if_pos ⟨rfl,hm⟩,h5]
 rfl
theorem Ip{F:List D→Option (D×D)}{fs:FA2}{es:List D}{back:D→SD}(h1:env[i]?.bind SD.hold=some (d0,back))(h4:fs (rE env) (rE (env.set i .no))=some es)(h5:F (d0::es)=some (r,d')):Oh i F fs env=some (r,env.set i (back d')):=by
 unfold Oh
 rw[h1,h4]
 dsimp only
 rw[h5]
 rfl
theorem Yz{C:Addr}{F:List D→Option (D×D)}{fs:FA}{e:DE}{es:List D}(h1:fs e=some es)(h2:F (.ins C [] []::es)=some (.non,d')):Xx C F fs e=some d':=by
 unfold Xx
 rw[h1]
 dsimp only[B7]
 rw[h2]
theorem cJ{fs:FA2}{eF eZ:DE}{es:List D}(h1:f eZ=some d)(h2:fs eF eZ=some es):qN f fs eF eZ=some (d::es):=by unfold qN;rw[h1,h2];rfl
theorem Lx{fs:FA2}{eF eZ:DE}{es:List D}(h1:f eF=some d)(h2:fs eF eZ=some es):faN f fs eF eZ=some (d::es):=by unfold faN;rw[h1,h2];rfl
theorem Vi{gm:GM}(h:gm env=some (d,env'))(hi:i<env'.length)(k:Qs Pr (g (env'.set i (.own d)))):Qs Pr (aW (By i gm) g env):=by
 have:By i gm env=.next (env'.set i (.own d)):=by unfold By;rw[h];dsimp only;rw[if_pos hi]
 rw[cD this];exact k
theorem Ez{gm:GM}(h:gm env=some (d,env')):sG gm env=.next env':=by unfold sG;rw[h]
theorem aBJ{gm:GM}(h:gm env=some (d,env'))(k:Qs Pr (g env')):Qs Pr (aW (sG gm) g env):=by rw[cD (Ez h)];exact k
theorem Vj{gm:GM}(h:gm env=some (d,env'))(k:Pr (.rete d env')):Qs Pr (Gp gm env):=by
 have:Gp gm env=.rete d env':=by unfold Gp;rw[h]
 rw[this];exact k
theorem Dd(h:env[i]?=some (.own d))(k:Pr (.rete d (env.set i .no))):Qs Pr (lO i env):=by
 have:lO i env=.rete d (env.set i .no):=by unfold lO;rw[h]
 rw[this];exact k
theorem aEr(h:f (rE env)=some d):gmN f env=some (d,env):=by unfold gmN;rw[h];rfl
theorem Vk{f1 f2 f3:FE}{e:DE}{a b c:Int}(h1:f1 e=some (.int a))(h2:f2 e=some (.int b))(h3:f3 e=some (.int c)):XS dLe dLt f1 f2 f3 e=some (decide (a≤b)&&decide (b<c)):=by
 unfold XS
 rw[h1,h2,h3]
 dsimp only[B7]
 rw[Vb,B7]
 by_cases q:a≤b
 ·rw[decide_eq_true q]
  dsimp only
  rw[Il,B7]
  simp
 ·rw[decide_eq_false q]
  simp
theorem Ru{all:List D}(I:Nat→EN→Prop)(hI:∀k env,I k env→env[j]?=some (.inn v (.lst all))):∀(xs:List D)(n:Nat)(env:EN),I n env→(∀k x env,xs[k]?=some x→I (n+k) env→i<env.length∧∃cY,g (env.set i (.fro x))=.next cY∧I (n+k+1) cY)→∃cY,vQ j i g v all xs env=.next cY∧I (n+xs.length) cY
 | [],n,env,h,_=>⟨env,by unfold vQ;rw[if_pos (hI _ _ h)],h⟩
 | x::xs,n,env,h,st=>by
  obtain⟨h1,cY,h2,h3⟩:=st 0 x env rfl h
  obtain⟨e3,a1,a2⟩:=Ru I hI xs (n+1) cY h3 λk y e hk hi=>by
   have:=st (k+1) y e (by simpa using hk) (by rw[show n+(k+1)=n+1+k by omega];exact hi)
   rw[show n+(k+1)+1=n+1+k+1 by omega]at this
   exact this
  refine⟨e3,?_,?_⟩
  ·unfold vQ
   rw[if_pos ⟨h1,hI _ _ h⟩,h2]
   exact a1
  ·rw[E9,show n+(xs.length+1)=n+1+xs.length by omega]
   exact a2
def lv(ns:List Int)(o:SD):Nat→SD
 | 0=>o
 | k+1=>.fro (.int (ns.getD k 0))
theorem uq{ns:List Int}(env':EN)(h:env[j]?=some (.own (aN ns)))(h1:env'[j]?=some (.own (aN ns)))(I:V→Nat→EN→Prop)(h0:∀v,I v 0 (env.set j (.inn v (aN ns))))(hI:∀v k env,I v k env→env[j]?=some (.inn v (aN ns)))(st:∀v k x env,ns[k]?=some x→I v k env→i<env.length∧∃cY,gb (env.set i (.fro (.int x)))=.next cY∧I v (k+1) cY)(fin:∀v cY,I v ns.length cY→cY=env'.set j (.inn v (aN ns)))(k:Qs Pr (g env')):Qs Pr (aW (Cd j i gb) g env):=by
 have:Cd j i gb env=.next env':=ph h h1 λv=>by
  obtain⟨e2,a1,a2⟩:=Ru (i:=i) (g:=gb) (I v) (hI v) (ns.map D.int) 0 _ (h0 v) λk x e hx hi=>by
   rw[Q3]at hi ⊢
   rw[C5]at hx
   cases q:ns[k]? with
   | none=>rw[q]at hx;cases hx
   | some y=>
    rw[q]at hx
    cases hx
    exact st v k y e q hi
  rw[Q3,B8]at a2
  rw[a1,fin v e2 a2]
 rw[cD this]
 exact k
theorem De(neg:Bool)(a:D):Oj neg a .non=some (.bl (if neg then !a.Yl else a.Yl)):=rfl
theorem aCF{f g:FE}{e:DE}(h:c e=some true)(h2:f e=some d):fIf c f g e=some d:=by unfold fIf;rw[h];exact h2
theorem aCG{f g:FE}{e:DE}(h:c e=some false)(h2:g e=some d):fIf c f g e=some d:=by unfold fIf;rw[h];exact h2
theorem JC{ks:List Int}(h:ks.length<64):Cg [dkT ks]=some (aN (sortI ks)):=by
 show (Ce (ks.map G9)).bind _=_
 rw[Rg,B7,if_pos h]
end
end L2


local macro_rules | `(tactic| walk_at "fs")=>`(tactic| exact⟨rfl,rfl,rfl,by decide +kernel,rfl,by decide +kernel,by decide +kernel⟩)
namespace Rs
open PySem L2
def top(i:Nat):Stmt:=PySem.Challenge.pw_ripestone_k29_full.main.body.getD i (.Pass ⟨0,0,0,0⟩)
def Ly:HX:=λi j=>match i,j with | 0,0=>true | 1,0=>true | 1,1=>true | 2,0=>true | 2,2=>true | 3,0=>true | 3,3=>true | _,_=>false
def gW:List Str:=["panes", "asked", "newest", "held", "unsettled"]
def cA:List Str:=["bench", "spots", "string", "loose", "lasts", "comings", "goings"]
abbrev Lz:Stmt:=top 27
noncomputable def Za:GS:=aW (zN (fB (f2 dLt (aG 1) (fL pQ (aB (aG 0) aK)))) (gU (dH (f2 lD (aG 0) (aG 1)))) iC)
 (gU (fC (.int 0)))
noncomputable def cH:List D→Option D:=qZ 2 2 (Za)
abbrev Fb:Stmt:=top 29
noncomputable def Rw:GS:=aW (cW 1 (cM 2 cH (aB (aG 0) (aB (fC (.int 0)) aK))))
 (aW (zN (fB (f2 Gi (f2 jJ (f2 yW (aG 1) (fC (.int 30))) (fC (.int 8))) (fC (.int 1)))) (gU (vN (aB (f2 fP (fC (.int 1)) (f2 jJ (aG 1) (fC (.int 8)))) (aB (f2 fP (fC (.int 1)) (f2 jJ (f2 yW (aG 1) (fC (.int 240))) (fC (.int 8)))) aK)))) iC)
 (gU (vN (aB (f2 fP (fC (.int 1)) (f2 jJ (aG 1) (fC (.int 5)))) (aB (f2 fP (fC (.int 1)) (f2 jJ (f2 yW (aG 1) (fC (.int 5))) (fC (.int 6)))) aK)))))
noncomputable def tW:List D→Option D:=qZ 2 1 (Rw)
abbrev Fd:Stmt:=top 28
noncomputable def Rx:GS:=aW (cW 2 (f2 jJ (f2 vO (f2 fP (f2 jJ (aG 0) (fC (.int 2147483629))) (fC (.int 1))) (f2 fP (fC (.int 48271)) (f2 vO (f2 vO (fC (.int 2)) (aG 1)) (aG 1)))) (fC (.int 2147483629))))
 (gU (f2 jJ (f2 vO (aG 2) (aG 2)) (fC (.int 2147483587))))
noncomputable def iU:List D→Option D:=qZ 3 2 (Rx)
abbrev Ao:Stmt:=top 30
noncomputable def Ma:GS:=aW (cW 4 (cM 2 iU (aB (aG 0) (aB (f2 vO (fC (.int 5)) (aG 1)) aK))))
 (aW (cW 5 (dH (f2 lD (lK (aB (fC (.int 0)) (aB (fC (.int 1)) (aB (fC (.int 2)) (aB (f2 vO (cM 2 iU (aB (aG 0) (aB (f2 fP (f2 vO (fC (.int 5)) (aG 1)) (fC (.int 1))) aK))) (f2 Od (fC (.int 10)) (fC (.int 40)))) (aB (tQ (fC (.int 1))) aK)))))) (f2 jJ (aG 4) (fC (.int 5))))))
 (aW (cW 6 (fC (.int 0)))
 (aW (zN (fB (f2 Gi (f2 jJ (f2 yW (aG 4) (fC (.int 5))) (fC (.int 2))) (fC (.int 1)))) (cW 6 (f2 fP (fC (.int 1)) (f2 jJ (f2 yW (aG 4) (fC (.int 10))) (fC (.int 9))))) iC)
 (aW (zN (fB (f2 Gi (aG 6) (fC (.int 0)))) (cW 5 (fL aBy (aB (aG 5) aK))) iC)
 (gU (vN (aB (dH (aG 2)) (aB (dH (aG 3)) (aB (dH (f2 lD (lK (aB (tQ (fC (.int 1))) (aB (fC (.int 0)) (aB (fC (.int 5)) (aB (aG 4) aK))))) (f2 jJ (f2 yW (aG 4) (fC (.int 90))) (fC (.int 4))))) (aB (dH (aG 5)) (aB (dH (aG 6)) aK)))))))))))
noncomputable def nR:List D→Option D:=qZ 7 4 (Ma)
abbrev tX:Stmt:=top 31
noncomputable def Ry:GS:=aW (uL [1,2] (cM 1 tW (aB (aG 0) aK)))
 (aW (cW 3 (fL Cp (aB (fC (.int 1)) (aB (f2 vO (aG 1) (aG 2)) aK))))
 (aW (cW 4 (lK (aB (fC (.int 0)) aK)))
 (aW (wN 5 (pK (aB (f2 jJ (cM 2 cH (aB (aG 0) (aB (fC (.int 1)) aK))) (f2 vO (aG 1) (aG 2))) aK)) (yC 4 3 (f2 jJ (cM 2 iU (aB (cM 2 cH (aB (aG 0) (aB (fC (.int 1)) aK))) (aB (aG 5) aK))) (fL pQ (aB (aG 3) aK)))))
 (aW (cW 6 (jM (pK (aB (aG 1) aK)) [2] qI (jM (pK (aB (aG 1) aK)) [] qI (vN (aB (fC (.int 0)) (aB (fC (.int 0)) (aB (tQ (fC (.int 1))) (aB (tQ (fC (.int 1))) (aB (fC (.int 0)) aK)))))))))
 (aW (cW 7 (cM 2 cH (aB (aG 0) (aB (fC (.int 2)) aK))))
 (aW (Xj [3] 8 (yX (aG 3)) (Gn 6 (WK fG (f2 jJ (aG 8) (aG 1))) (f2 yW (aG 8) (aG 1)) (cM 4 nR (aB (aG 7) (aB (aG 8) (aB (f2 jJ (aG 7) (f2 Od (fC (.int 10)) (fC (.int 9)))) (aB (f2 jJ (f2 vO (aG 8) (aG 8)) (f2 vO (aG 1) (aG 2))) aK)))))))
 (aW (cW 9 (f2 jJ (aG 7) (f2 Od (fC (.int 10)) (fC (.int 58)))))
 (aW (wN 5 (pK (aB (fL pQ (aB (aG 4) aK)) aK)) (aW (cW 8 (dH (f2 lD (aG 4) (aG 5))))
 (aW (Gn 6 (WK fG (f2 jJ (aG 8) (aG 1))) (f2 yW (aG 8) (aG 1)) (cM 4 nR (aB (aG 7) (aB (f2 fP (aG 5) (fC (.int 100))) (aB (aG 9) (aB (f2 lD (f2 fP (aG 4) (lK (aB (fC (.int 0)) aK))) (f2 fP (aG 5) (fC (.int 1)))) aK))))))
 (cW 9 (f2 fP (f2 fP (aG 9) (fC (.int 1))) (f2 vO (f2 jJ (cM 2 iU (aB (aG 7) (aB (f2 fP (aG 5) (fC (.int 7))) aK))) (fC (.int 3))) (f2 lD (lK (aB (fC (.int 1)) (aB (f2 Od (fC (.int 10)) (fC (.int 40))) aK))) (f2 jJ (aG 7) (fC (.int 2))))))))))
 (aW (wN 10 (pK (aB (aG 1) aK)) (Bv 6 (WK fG (aG 10)) (vN (aB (f2 jJ (cM 2 iU (aB (aG 7) (aB (f2 fP (aG 10) (fC (.int 70))) aK))) (fC (.int 10))) aK))))
 (wK 6))))))))))
noncomputable def tY:List D→Option D:=qZ 11 1 (Ry)
abbrev qR:Stmt:=inClass (top 8) 0
noncomputable def Mf(κ:Nat→Addr):GS:=aW (jA 0 (tR (κ 20) 0 fG "panes" (jM (yX (aG 1)) [] qI (fL dList (aB (aG 0) aK)))))
 (aW (jA 0 (tR (κ 20) 0 fG "asked" (lK aK)))
 (aW (jA 0 (tR (κ 20) 0 fG "newest" (fC (.dt [] []))))
 (aW (jA 0 (tR (κ 20) 0 fG "held" (fC (.dk [] []))))
 (jA 0 (tR (κ 20) 0 fG "unsettled" (jM (yX (aG 1)) [] qI (lK aK)))))))
noncomputable def qT(κ:Nat→Addr):List D→Option (D×D):=lW 2 2 (Mf κ)
abbrev Mg:Stmt:=top 16
noncomputable def Zb:GS:=gU (dH (f2 lD (f2 lD (aG 0) (f2 lD (aG 1) (fC (.int 0)))) (f2 lD (aG 1) (fC (.int 1)))))
noncomputable def wV:List D→Option D:=qZ 2 2 (Zb)
abbrev Vl:Stmt:=top 15
noncomputable def RD:GS:=gU (vN (aB (f2 jJ (aG 1) (fL pQ (aB (aG 0) aK))) (aB (f2 yW (aG 1) (fL pQ (aB (aG 0) aK))) aK)))
noncomputable def uP:List D→Option D:=qZ 2 2 (RD)
abbrev Fe:Stmt:=top 17
noncomputable def Rz:GS:=gU (cM 2 wV (aB (aG 0) (aB (cM 2 uP (aB (aG 0) (aB (aG 1) aK))) aK)))
noncomputable def jX:List D→Option D:=qZ 2 2 (Rz)
abbrev Ff:Stmt:=top 21
noncomputable def Sd:GS:=aW (cW 1 (fC (.dk [] [])))
 (aW (cW 2 (dH (f2 lD (cM 2 jX (aB (aG 0) (aB (fC (.int (0))) aK))) (fC (.int (1))))))
 (aW (mO (Ui (fB (f2 Hv (aG 2) (fC (.int (0))))) (fB (f2 (VL true) (aG 2) (aG 1)))) (aW (vD 1 fG (aG 2) (fC (.bl true)))
 (cW 2 (dH (f2 lD (cM 2 jX (aB (aG 0) (aB (aG 2) aK))) (fC (.int (1))))))) 400)
 (gU (fL FW (aB (aG 1) aK)))))
noncomputable def nT:List D→Option D:=qZ 3 1 (Sd)
abbrev Aq:Stmt:=top 20
noncomputable def Av:GS:=gU (f2 vO (fL pQ (aB (aG 0) aK)) (f2 aA0 (fL pQ (aB (f2 lD (aG 0) (fC (.int 0))) aK)) (fC (.int 1))))
noncomputable def lQ:List D→Option D:=qZ 1 1 (Av)
abbrev rN:Stmt:=top 22
noncomputable def Gr:GS:=aW (cW 1 (cM 1 nT (aB (aG 0) aK)))
 (gU (jM (Xi (aB (f2 fP (fC (.int (0))) (fC (.int 1))) (aB (cM 1 lQ (aB (aG 0) aK)) aK))) [1] (fB (f2 (dIn true) (aG 0) (aG 1))) (dH (aG 0))))
noncomputable def oX:List D→Option D:=qZ 2 1 (Gr)
abbrev rO:Stmt:=inClass (top 25) 0
noncomputable def wW(κ:Nat→Addr):GS:=aW (jA 0 (tR (κ 21) 0 fG "bench" (Xx (κ 20) (qT κ) (aB (aG 1) aK))))
 (aW (jA 0 (tR (κ 21) 0 fG "spots" (jM (pK (aB (cM 1 lQ (aB (aG 1) aK)) aK)) [1] qI (cM 2 uP (aB (aG 1) (aB (aG 0) aK))))))
 (aW (jA 0 (tR (κ 21) 0 fG "string" (cM 1 nT (aB (aG 1) aK))))
 (aW (jA 0 (tR (κ 21) 0 fG "loose" (cM 1 oX (aB (aG 1) aK))))
 (aW (jA 0 (tR (κ 21) 0 fG "lasts" (fC (.dk [] []))))
 (aW (jA 0 (tR (κ 21) 0 fG "comings" (fC (.dk [] []))))
 (jA 0 (tR (κ 21) 0 fG "goings" (fC (.dk [] [])))))))))
noncomputable def rP(κ:Nat→Addr):List D→Option (D×D):=lW 2 2 (wW κ)
abbrev uQ:Stmt:=inClass (top 25) 2
noncomputable def Vm(κ:Nat→Addr):GS:=gU (fL dList (aB (qY (dX (κ 21) "string") (aG 0)) aK))
noncomputable def cZ(κ:Nat→Addr):List D→Option D:=jF 1 1 (Vm κ)
abbrev wX:Stmt:=inClass (top 25) 3
noncomputable def Zc(κ:Nat→Addr):GS:=gU (fL Hy (aB (qY (dX (κ 21) "loose") (aG 0)) aK))
noncomputable def iG(κ:Nat→Addr):List D→Option D:=jF 1 1 (Zc κ)
abbrev sH:Stmt:=inClass (top 8) 10
noncomputable def Oq(κ:Nat→Addr):GS:=gU (fL dList (aB (qY (dX (κ 20) "asked") (aG 0)) aK))
noncomputable def oK(κ:Nat→Addr):List D→Option D:=jF 1 1 (Oq κ)
abbrev sI:Stmt:=inClass (top 8) 11
noncomputable def Ot(κ:Nat→Addr):GS:=gU (fL Cg (aB (qY (dX (κ 20) "held") (aG 0)) aK))
noncomputable def oM(κ:Nat→Addr):List D→Option D:=jF 1 1 (Ot κ)
abbrev rQ:Stmt:=inClass (top 8) 8
noncomputable def Zd(κ:Nat→Addr):GS:=gU (jM (yX (qY (dX (κ 20) "panes") (aG 0))) [] qI (fL dList (aB (aG 0) aK)))
noncomputable def rR(κ:Nat→Addr):List D→Option D:=jF 1 1 (Zd κ)
abbrev Mh:Stmt:=top 33
noncomputable def Ze(κ:Nat→Addr):GS:=aW (Kg 1 (qY (dX (κ 21) "bench") (aG 0)))
 (gU (lK (aB (bZ (κ 21) "order" 1 (cZ κ) (aG 0) aK []) (aB (bZ (κ 21) "free" 1 (iG κ) (aG 0) aK []) (aB (bZ (κ 20) "changes" 1 (oK κ) (aG 1) aK []) (aB (bZ (κ 20) "settled" 1 (oM κ) (aG 1) aK []) (aB (bZ (κ 20) "stone" 1 (rR κ) (aG 1) aK []) aK)))))))
noncomputable def wY(κ:Nat→Addr):List D→Option D:=qZ 2 1 (Ze κ)
abbrev pB:Stmt:=inClass (top 25) 9
noncomputable def Hh(κ:Nat→Addr):GS:=gU (dH (f2 lD (f2 fP (lK (aB (fC (.int (0))) aK)) (qY (dX (κ 21) "string") (aG 0))) (aG 1)))
noncomputable def gJ(κ:Nat→Addr):List D→Option D:=jF 2 2 (Hh κ)
abbrev pC:Stmt:=inClass (top 8) 1
noncomputable def vH(κ:Nat→Addr):GS:=zN (Xg (XS dLe dLt (fC (.int 0)) (aG 1) (fL pQ (aB (qY (dX (κ 20) "panes") (aG 0)) aK)))) mz iC
noncomputable def lG(κ:Nat→Addr):List D→Option D:=jF 2 2 (vH κ)
abbrev nU:Stmt:=inClass (top 8) 2
noncomputable def tZ(κ:Nat→Addr):GS:=aW (wL (bZ (κ 20) "check_pane" 2 (lG κ) (aG 0) (aB (aG 1) aK) []))
 (zN (Xg (XS dLe dLt (fC (.int 0)) (aG 2) (fL pQ (aB (f2 lD (qY (dX (κ 20) "panes") (aG 0)) (aG 1)) aK)))) mz iC)
noncomputable def fV(κ:Nat→Addr):List D→Option D:=jF 3 3 (tZ κ)
abbrev Aw:Stmt:=inClass (top 8) 5
noncomputable def Mi(κ:Nat→Addr):GS:=aW (wL (bZ (κ 20) "check_place" 3 (fV κ) (aG 0) (aB (aG 1) (aB (aG 2) aK)) []))
 (aW (zN (fB (Oi false (Ep (aB (aG 1) (aB (aG 2) aK))) (qY (dX (κ 20) "newest") (aG 0)))) (gU (dH (f2 lD (f2 lD (qY (dX (κ 20) "asked") (aG 0)) (Lb (qY (dX (κ 20) "newest") (aG 0)) (Ep (aB (aG 1) (aB (aG 2) aK))))) (fC (.int (2)))))) iC)
 (gU (dH (f2 lD (f2 lD (qY (dX (κ 20) "panes") (aG 0)) (aG 1)) (aG 2)))))
noncomputable def qU(κ:Nat→Addr):List D→Option D:=jF 3 3 (Mi κ)
abbrev pD:Stmt:=inClass (top 25) 1
noncomputable def vI(κ:Nat→Addr):GS:=aW (cW 2 (dH (f2 lD (qY (dX (κ 21) "spots") (aG 0)) (aG 1))))
 (gU (bZ (κ 20) "seen" 3 (qU κ) (qY (dX (κ 21) "bench") (aG 0)) (aB (f2 lD (aG 2) (fC (.int 0))) (aB (f2 lD (aG 2) (fC (.int 1))) aK)) []))
noncomputable def aY(κ:Nat→Addr):List D→Option D:=jF 3 2 (vI κ)
abbrev mX:Stmt:=inClass (top 8) 3
noncomputable def rT(κ:Nat→Addr):GS:=zN (Xg (XS dLe dLt (fC (.int 0)) (aG 1) (fL pQ (aB (qY (dX (κ 20) "asked") (aG 0)) aK)))) mz iC
noncomputable def eU(κ:Nat→Addr):List D→Option D:=jF 2 2 (rT κ)
abbrev Fg:Stmt:=inClass (top 8) 4
noncomputable def Sg(κ:Nat→Addr):GS:=aW (wL (bZ (κ 20) "check_place" 3 (fV κ) (aG 0) (aB (aG 1) (aB (aG 2) aK)) []))
 (aW (cW 5 (fIf (fB (f2 (Oj false) (aG 4) (fC .non))) (lK aK) (fL dList (aB (aG 4) aK))))
 (aW (Cd 5 6 (wL (bZ (κ 20) "check_change" 2 (eU κ) (aG 0) (aB (aG 6) aK) [])))
 (aW (zN (fB (Oi false (Ep (aB (aG 1) (aB (aG 2) aK))) (qY (dX (κ 20) "newest") (aG 0)))) (Bv 5 fG (Lb (qY (dX (κ 20) "newest") (aG 0)) (Ep (aB (aG 1) (aB (aG 2) aK))))) iC)
 (aW (cW 7 (fL pQ (aB (qY (dX (κ 20) "asked") (aG 0)) aK)))
 (aW (jA 0 (Bv 0 (Eo (κ 20) "asked" fG) (vN (aB (dH (aG 1)) (aB (dH (aG 2)) (aB (dH (aG 3)) (aB (fL Ke (aB (qY QG (aG 5)) aK)) aK)))))))
 (aW (jA 0 (Rc 0 (Eo (κ 20) "newest" fG) (Ep (aB (aG 1) (aB (aG 2) aK))) (aG 7)))
 (aW (jA 0 (Bv 0 (WK (Eo (κ 20) "unsettled" fG) (aG 1)) (dH (aG 7))))
 (lO 7))))))))
noncomputable def yL(κ:Nat→Addr):List D→Option (D×D):=lW 8 5 (Sg κ)
abbrev Vn:Stmt:=top 24
noncomputable def aEs:GS:=gU (jM (yX (aG 0)) [] (fB (f2 (Oj true) (aG 0) (fC .non))) (dH (aG 0)))
noncomputable def Vo:List D→Option D:=qZ 1 1 (aEs)
abbrev uR:Stmt:=inClass (top 25) 10
noncomputable def Df(κ:Nat→Addr):GS:=aW (cW 4 (dH (f2 lD (qY (dX (κ 21) "spots") (aG 0)) (aG 1))))
 (aW (By 5 (oU (κ 20) "put" 0 (Eo (κ 21) "bench" fG) (yL κ) (λeF eZ=>((qN (f2 lD (aG 4) (fC (.int 0))) (qN (f2 lD (aG 4) (fC (.int 1))) (qN (aG 2) (qN (cM 1 Vo (aB (aG 3) aK)) jB)))) eF eZ).map (·++[]))))
 (aW (jA 0 (vD 0 (Eo (κ 21) "lasts" fG) (aG 1) (aG 5)))
 (lO 5)))
noncomputable def jY(κ:Nat→Addr):List D→Option (D×D):=lW 6 4 (Df κ)
abbrev pF:Stmt:=inClass (top 25) 5
noncomputable def Hi(κ:Nat→Addr):GS:=gU (f2 Lf (qY (dX (κ 21) "comings") (aG 0)) (aG 1))
noncomputable def lH(κ:Nat→Addr):List D→Option D:=jF 2 2 (Hi κ)
abbrev nW:Stmt:=inClass (top 25) 11
noncomputable def uA(κ:Nat→Addr):GS:=Gp (oU (κ 21) "write" 0 fG (jY κ) (λeF eZ=>((qN (aG 1) (qN (aG 2) (faN (f2 fP (lK (aB (bZ (κ 21) "coming_in" 2 (lH κ) (aG 0) (aB (aG 1) aK) []) aK)) (aG 3)) jB))) eF eZ).map (·++[])))
noncomputable def jZ(κ:Nat→Addr):List D→Option (D×D):=lW 4 4 (uA κ)
abbrev wZ:Stmt:=inClass (top 25) 12
noncomputable def Gs(κ:Nat→Addr):GS:=aW (cW 4 (bZ (κ 21) "record_of" 2 (aY κ) (aG 0) (aB (aG 1) aK) []))
 (Gp (oU (κ 21) "write_tied" 0 fG (jZ κ) (λeF eZ=>((qN (aG 1) (qN (vN (aB (dH (f2 lD (aG 4) (fC (.int (0))))) (aB (dH (aG 2)) (aB (dH (f2 lD (aG 4) (fC (.int (2))))) (aB (dH (f2 lD (aG 4) (fC (.int (3))))) (aB (dH (f2 lD (aG 4) (fC (.int (4))))) aK)))))) (qN (aG 3) jB))) eF eZ).map (·++[]))))
noncomputable def jO(κ:Nat→Addr):List D→Option (D×D):=lW 5 4 (Gs κ)
abbrev kY:Stmt:=inClass (top 25) 8
noncomputable def pM(κ:Nat→Addr):GS:=aW (cW 2 (fIf (fB (f2 (Oj false) (aG 1) (fC .non))) (lK aK) (fL dList (aB (aG 1) aK))))
 (aW (Cd 2 3 (wL (bZ (κ 20) "check_change" 2 (eU κ) (qY (dX (κ 21) "bench") (aG 0)) (aB (aG 3) aK) [])))
 (wK 2))
noncomputable def cC(κ:Nat→Addr):List D→Option D:=jF 4 2 (pM κ)
abbrev mY:Stmt:=inClass (top 25) 7
noncomputable def Dg(κ:Nat→Addr):GS:=gU (f2 Lf (qY (dX (κ 21) "lasts") (aG 0)) (aG 1))
noncomputable def jG(κ:Nat→Addr):List D→Option D:=jF 2 2 (Dg κ)
abbrev uT:Stmt:=inClass (top 25) 15
noncomputable def Dh(κ:Nat→Addr):GS:=aW (cW 3 (bZ (κ 21) "box_ahead" 2 (gJ κ) (aG 0) (aB (f2 Le (qY (dX (κ 21) "string") (aG 0)) (aG 1)) aK) []))
 (aW (cW 4 (f2 fP (lK (aB (bZ (κ 21) "last_change" 2 (jG κ) (aG 0) (aB (aG 1) aK) []) aK)) (bZ (κ 21) "further_needs" 2 (cC κ) (aG 0) (aB (aG 2) aK) [])))
 (aW (By 5 (oU (κ 21) "link" 0 fG (jO κ) (λeF eZ=>((qN (aG 3) (faN (dH (f2 lD (bZ (κ 21) "record_of" 2 (aY κ) (aG 0) (aB (aG 1) aK) []) (fC (.int (1))))) (qN (aG 4) jB))) eF eZ).map (·++[]))))
 (aW (jA 0 (HW 0 (Eo (κ 21) "string" fG) (aG 1)))
 (aW (jA 0 (Bv 0 (Eo (κ 21) "loose" fG) (dH (aG 1))))
 (aW (jA 0 (vD 0 (Eo (κ 21) "goings" fG) (aG 1) (aG 5)))
 (lO 5))))))
noncomputable def pU(κ:Nat→Addr):List D→Option (D×D):=lW 6 3 (Dh κ)
abbrev Ir:Stmt:=top 34
noncomputable def RG(κ:Nat→Addr):GS:=aW (cW 2 (jM (yX (bZ (κ 21) "order" 1 (cZ κ) (aG 0) aK [])) [0] qI (dH (f2 lD (bZ (κ 21) "record_of" 2 (aY κ) (aG 1) (aB (aG 0) aK) []) (fC (.int 0))))))
 (aW (cW 3 (f2 jJ (aG 1) (f2 Od (fC (.int 10)) (fC (.int 58)))))
 (aW (mO (fB (f2 (dIn false) (aG 3) (aG 2))) (cW 3 (f2 fP (aG 3) (fC (.int 1)))) 400)
 (wK 3)))
noncomputable def yM(κ:Nat→Addr):List D→Option D:=qZ 4 2 (RG κ)
abbrev pG:Stmt:=inClass (top 25) 6
noncomputable def Hj(κ:Nat→Addr):GS:=gU (f2 Lf (qY (dX (κ 21) "goings") (aG 0)) (aG 1))
noncomputable def lJ(κ:Nat→Addr):List D→Option D:=jF 2 2 (Hj κ)
abbrev mZ:Stmt:=inClass (top 25) 13
noncomputable def Di(κ:Nat→Addr):GS:=aW (zN (fB (f2 Gi (fL pQ (aB (qY (dX (κ 21) "loose") (aG 0)) aK)) (fC (.int 0)))) mz iC)
 (aW (cW 6 (bZ (κ 21) "further_needs" 2 (cC κ) (aG 0) (aB (aG 5) aK) []))
 (aW (cW 7 (fL pQ (aB (jM (yX (qY (dX (κ 21) "string") (aG 0))) [0,1] (fB (f2 dLt (f2 lD (bZ (κ 21) "record_of" 2 (aY κ) (aG 1) (aB (aG 0) aK) []) (fC (.int (0)))) (aG 2))) (dH (aG 0))) aK)))
 (aW (cW 8 (bZ (κ 21) "box_ahead" 2 (gJ κ) (aG 0) (aB (aG 7) aK) []))
 (aW (cW 9 (fL OD (aB (qY (dX (κ 21) "loose") (aG 0)) aK)))
 (aW (By 10 (oU (κ 21) "write" 0 fG (jY κ) (λeF eZ=>((qN (aG 9) (faN (vN (aB (dH (aG 1)) (aB (dH (f2 lD (bZ (κ 21) "record_of" 2 (aY κ) (aG 0) (aB (aG 8) aK) []) (fC (.int (1))))) (aB (dH (aG 2)) (aB (dH (aG 3)) (aB (dH (aG 4)) aK)))))) (faN (lK (aB (bZ (κ 21) "going_out" 2 (lJ κ) (aG 0) (aB (aG 9) aK) []) aK)) jB))) eF eZ).map (·++[]))))
 (aW (By 11 (oU (κ 21) "link" 0 fG (jO κ) (λeF eZ=>((qN (aG 8) (qN (aG 9) (qN (f2 fP (lK (aB (aG 10) aK)) (aG 6)) jB))) eF eZ).map (·++[]))))
 (aW (jA 0 (YD 0 (Eo (κ 21) "string" fG) (aG 7) (aG 9)))
 (aW (jA 0 (HW 0 (Eo (κ 21) "loose" fG) (aG 9)))
 (aW (jA 0 (vD 0 (Eo (κ 21) "comings" fG) (aG 9) (aG 11)))
 (Gp (gmN (vN (aB (dH (aG 9)) (aB (dH (aG 11)) aK))))))))))))))
noncomputable def iK(κ:Nat→Addr):List D→Option (D×D):=lW 12 6 (Di κ)
noncomputable def Dj(κ:Nat→Addr):GZ:=zIf (fB (f2 Gi (fL pQ (aB (qY (dX (κ 21) "loose") (aG 0)) aK)) (fC (.int 0)))) (zRz 3 (aB (fC (.str "no box is free")) aK)) (zNo)
noncomputable def dY(κ:Nat→Addr):List D→Option Nat:=fRz 12 6 (Dj κ)
abbrev Mj:Stmt:=top 32
noncomputable def Ml(κ:Nat→Addr):GS:=aW (cW 3 (fC (.str "taken")))
 (aW (zN (fB (f2 Gi (aG 2) (fC (.int 0)))) (aW (Hg (zX (uN (κ 21) "enter" (dY κ) (aG 0) (aB (aG 1) (aB (tQ (fC (.int 1))) (aB (fC (.int 3)) (aB (fC (.int 0)) aK)))) [.non])) (sG (oU (κ 21) "enter" 0 fG (iK κ) (λeF eZ=>((qN (aG 1) (qN (tQ (fC (.int 1))) (qN (fC (.int 3)) (qN (fC (.int 0)) jB)))) eF eZ).map (·++[.non])))) Ly 4 ((1,cW 3 (fC (.str "place")))::(2,cW 3 (fC (.str "change")))::(3,cW 3 (fC (.str "full")))::[]))
 (lO 3)) iC)
 (aW (zN (fB (f2 Gi (aG 2) (fC (.int 1)))) (aW (Hg (zX (uN (κ 21) "enter" (dY κ) (aG 0) (aB (aG 1) (aB (tQ (fC (.int 1))) (aB (fC (.int 3)) (aB (fC (.int 0)) (aB (lK aK) aK))))) [])) (sG (oU (κ 21) "enter" 0 fG (iK κ) (λeF eZ=>((qN (aG 1) (qN (tQ (fC (.int 1))) (qN (fC (.int 3)) (qN (fC (.int 0)) (qN (lK aK) jB))))) eF eZ).map (·++[])))) Ly 4 ((3,cW 3 (fC (.str "full")))::[]))
 (lO 3)) iC)
 (aW (Hg (zX (uN (κ 21) "enter" (dY κ) (aG 0) (aB (aG 1) (aB (tQ (fC (.int 1))) (aB (fC (.int 3)) (aB (fC (.int 0)) aK)))) [.non])) (sG (oU (κ 21) "enter" 0 fG (iK κ) (λeF eZ=>((qN (aG 1) (qN (tQ (fC (.int 1))) (qN (fC (.int 3)) (qN (fC (.int 0)) jB)))) eF eZ).map (·++[.non])))) Ly 4 ((0,gAs 4 (cW 3 (fC (.str "full"))))::[]))
 (lO 3))))
noncomputable def lB(κ:Nat→Addr):List D→Option (D×D):=lW 5 3 (Ml κ)
abbrev uU:Stmt:=inClass (top 25) 4
noncomputable def Dk(κ:Nat→Addr):GS:=aW (Xj [] 2 (yX (qY (dX (κ 21) "string") (aG 0))) (zN (fB (f2 Gi (f2 lD (bZ (κ 21) "record_of" 2 (aY κ) (aG 0) (aB (aG 2) aK) []) (fC (.int (0)))) (aG 1))) (wK 2) iC))
 (gU (fC .non))
noncomputable def nA(κ:Nat→Addr):List D→Option D:=jF 3 2 (Dk κ)
abbrev aEt:Stmt:=top 35
noncomputable def aGm(κ:Nat→Addr):GS:=aW (cW 1 (cM 1 tY (aB (aG 0) aK)))
 (aW (cW 2 (Xx (κ 21) (rP κ) (aB (aG 1) aK)))
 (aW (cW 3 (fC (.int 3)))
 (aW (mO (fB (f2 Hv (bZ (κ 21) "free" 1 (iG κ) (aG 2) aK []) (lK aK))) (aW (zN (fB (f2 dGt (aG 3) (fC (.int 70)))) (gU (fC (.bl false))) iC)
 (aW (Xy (gbV (Kw Hv (Oh 2 (lB κ) (faN (cM 2 (yM κ) (aB (aG 2) (aB (f2 yW (cM 2 cH (aB (aG 0) (aB (aG 3) aK))) (fC (.int 3))) aK))) (qN (f2 jJ (cM 2 cH (aB (aG 0) (aB (aG 3) aK))) (fC (.int 3))) jB))) (fC (.str "taken")))) (gU (fC (.bl false))) iC)
 (cW 3 (f2 fP (aG 3) (fC (.int 1)))))) 400)
 (aW (cW 4 (cM 1 (wY κ) (aB (aG 2) aK)))
 (aW (wN 5 (pK (aB (fC (.int 3)) aK)) (aW (cW 6 (cM 2 (yM κ) (aB (aG 2) (aB (f2 yW (cM 2 cH (aB (aG 0) (aB (f2 fP (aG 3) (aG 5)) aK))) (fC (.int 3))) aK))))
 (Xy (ni (gbV (Kw Hv (Oh 2 (lB κ) (qN (aG 6) (qN (f2 jJ (cM 2 cH (aB (aG 0) (aB (f2 fP (aG 3) (aG 5)) aK))) (fC (.int 3))) jB))) (fC (.str "full")))) (gbT (fB (f2 Hv (cM 1 (wY κ) (aB (aG 2) aK)) (aG 4))))) (gU (fC (.bl false))) iC)))
 (aW (zN (fB (f2 Gi (bZ (κ 21) "order" 1 (cZ κ) (aG 2) aK []) (lK aK))) (gU (fC (.bl true))) iC)
 (aW (cW 7 (dH (f2 lD (bZ (κ 21) "order" 1 (cZ κ) (aG 2) aK []) (f2 jJ (cM 2 cH (aB (aG 0) (aB (fC (.int 3)) aK))) (fL pQ (aB (bZ (κ 21) "order" 1 (cZ κ) (aG 2) aK []) aK))))))
 (aW (cW 8 (dH (f2 lD (bZ (κ 21) "record_of" 2 (aY κ) (aG 2) (aB (aG 7) aK) []) (fC (.int 0)))))
 (aW (sG (oU (κ 21) "leave" 2 fG (pU κ) (λeF eZ=>((qN (aG 7) jB) eF eZ).map (·++[.non]))))
 (aW (Xy (ni (gbT (fB (f2 Hv (bZ (κ 21) "free" 1 (iG κ) (aG 2) aK []) (lK (aB (aG 7) aK))))) (gbV (Kw Hv (Oh 2 (lB κ) (qN (aG 6) (qN (f2 jJ (cM 2 cH (aB (aG 0) (aB (fC (.int 4)) aK))) (fC (.int 3))) jB))) (fC (.str "taken"))))) (gU (fC (.bl false))) iC)
 (aW (zN (fOr (fB (f2 Hv (bZ (κ 21) "box_of" 2 (nA κ) (aG 2) (aB (aG 6) aK) []) (aG 7))) (fB (f2 (Oj true) (bZ (κ 21) "box_of" 2 (nA κ) (aG 2) (aB (aG 8) aK) []) (fC .non)))) (gU (fC (.bl false))) iC)
 (Ky (Kw Gi (Oh 2 (lB κ) (qN (aG 8) (qN (f2 jJ (cM 2 cH (aB (aG 0) (aB (fC (.int 5)) aK))) (fC (.int 3))) jB))) (fC (.str "full")))))))))))))))
noncomputable def aEu(κ:Nat→Addr):List D→Option D:=qZ 9 1 (aGm κ)
section
variable{P:Program}{w:World}{K:aD}{mg:Str→Option Value}{base:Heap}
theorem YT:aZ ["script", "k"] ["script", "k"] (aJ Lz):=by walk_at "fs"
theorem JD(R:Raw K mg "_law_cell" Lz) (jC:mg "len" = none):sW P w K mg base "_law_cell" 1 2 (gP K 2 cH):=by
 refine R.Bw YT (λ_ _ _ _ _ _ us hl=>match us,hl with | [_,_],_=>rfl) (λ_ _ _ _ _ _ _ hr=>?_)
 have dI:=hr.units
 have hu:=cL hr
 exact⟨_,aO (pL (gA Ws uI (aH (pv 1)) (XN.r (mK lM (lN rfl) rfl jC G5 (aF (aH (pv 0)) aP))) (eX _)) (aV (cB (XR.n (dU (aH (pv 0)) (aH (pv 1)) (λ_ _=>rfl))))) iJ)
  (aV (cB aM))⟩
theorem Mm:aZ ["script", "head"] ["script"] (aJ Fb):=by walk_at "fs"
theorem Zf(R:Raw K mg "_law_sizes" Fb) (dZ:sW P w K mg base "_law_cell" 1 2 (gP K 2 cH)):sW P w K mg base "_law_sizes" 2 1 (gP K 1 tW):=by
 refine R.Bw Mm (λ_ _ _ _ _ _ us hl=>match us,hl with | [_],_=>rfl) (λ_ _ _ _ _ _ _ hr=>?_)
 have dI:=hr.units
 have hu:=cL hr
 exact⟨_,aO (bN (i:=1) (bY dZ (hr.mono (by decide)) rfl (aF (aH (pv 0)) (aF (XN.r (aM)) aP))) (λh=>bH Mm.nd rfl (by first | exact E5 rfl | exact E4 rfl) h))
  (aO (pL (gA (or_eq dI rfl) zM (XN.r (cU (XN.r (qF (aH (pv 1)) (XN.r (aM)))) (XN.r (aM)))) (XN.r (aM)) (eX _)) (aV (cB (rW (bF (cO (XN.r (aM)) (XN.r (cU (aH (pv 1)) (XN.r (aM))))) (bF (cO (XN.r (aM)) (XN.r (cU (XN.r (qF (aH (pv 1)) (XN.r (aM)))) (XN.r (aM))))) iY))))) iJ)
  (aV (cB (rW (bF (cO (XN.r (aM)) (XN.r (cU (aH (pv 1)) (XN.r (aM))))) (bF (cO (XN.r (aM)) (XN.r (cU (XN.r (qF (aH (pv 1)) (XN.r (aM)))) (XN.r (aM))))) iY))))))⟩
theorem Mq:aZ ["cell", "k", "number"] ["cell", "k"] (aJ Fd):=by walk_at "fs"
theorem Zg(R:Raw K mg "_law_mixed" Fd):sW P w K mg base "_law_mixed" 1 2 (gP K 2 iU):=by
 refine R.Bw Mq (λ_ _ _ _ _ _ us hl=>match us,hl with | [_,_],_=>rfl) (λ_ _ _ _ _ _ _ hr=>?_)
 have dI:=hr.units
 have hu:=cL hr
 exact⟨_,aO (bN (i:=2) (cU (XN.r (nO (XN.r (cO (XN.r (cU (aH (pv 0)) (XN.r (aM)))) (XN.r (aM)))) (XN.r (cO (XN.r (aM)) (XN.r (nO (XN.r (nO (XN.r (aM)) (aH (pv 1)))) (aH (pv 1)))))))) (XN.r (aM))) (λh=>bH Mq.nd rfl (by first | exact E5 rfl | exact E4 rfl) h))
  (aV (cB (cU (XN.r (nO (aH (pv 2)) (aH (pv 2)))) (XN.r (aM)))))⟩
theorem lY:aZ ["cell", "k", "key", "following", "pick", "now", "age"] ["cell", "k", "key", "following"] (aJ Ao):=by walk_at "fs"
theorem Vp(R:Raw K mg "_law_record" Ao) (kE:sW P w K mg base "_law_mixed" 1 2 (gP K 2 iU)) (aEv:mg "abs" = none):sW P w K mg base "_law_record" 2 4 (gP K 4 nR):=by
 refine R.Bw lY (λ_ _ _ _ _ _ us hl=>match us,hl with | [_,_,_,_],_=>rfl) (λ_ _ _ _ _ _ _ hr=>?_)
 have dI:=hr.units
 have hu:=cL hr
 exact⟨_,aO (bN (i:=4) (bY kE (hr.mono (by decide)) rfl (aF (aH (pv 0)) (aF (XN.r (nO (XN.r (aM)) (aH (pv 1)))) aP))) (λh=>bH lY.nd rfl (by first | exact E5 rfl | exact E4 rfl) h))
  (aO (bN (i:=5) (XR.n (dU (nP (aF (XN.r (aM)) (aF (XN.r (aM)) (aF (XN.r (aM)) (aF (XN.r (nO (XN.r (bY kE (hr.mono (by decide)) rfl (aF (aH (pv 0)) (aF (XN.r (cO (XN.r (nO (XN.r (aM)) (aH (pv 1)))) (XN.r (aM)))) aP)))) (XN.r (Kc (XN.r (aM)) (XN.r (aM)))))) (aF (XN.r (oG (XN.r (aM)))) aP)))))) (XN.r (cU (aH (pv 4)) (XN.r (aM)))) (λ_ _=>rfl))) (λh=>bH lY.nd rfl (by first | exact E5 rfl | exact E4 rfl) h))
  (aO (bN (i:=6) aM (λh=>bH lY.nd rfl (by first | exact E5 rfl | exact E4 rfl) h))
  (aO (pL (gA (or_eq dI rfl) zM (XN.r (cU (XN.r (qF (aH (pv 4)) (XN.r (aM)))) (XN.r (aM)))) (XN.r (aM)) (eX _)) (aV (bN (i:=6) (cO (XN.r (aM)) (XN.r (cU (XN.r (qF (aH (pv 4)) (XN.r (aM)))) (XN.r (aM))))) (λh=>bH lY.nd rfl (by first | exact E5 rfl | exact E4 rfl) h))) iJ)
  (aO (pL (gA (or_eq dI rfl) zM (aH (pv 6)) (XN.r (aM)) (eX _)) (aV (bN (i:=5) (mK aD9 aEa rfl aEv PyProof.Rows.boot_abs (aF (aH (pv 5)) aP)) (λh=>bH lY.nd rfl (by first | exact E5 rfl | exact E4 rfl) h))) iJ)
  (aV (cB (rW (bF (XR.n (aH (pv 2))) (bF (XR.n (aH (pv 3))) (bF (XR.n (dU (nP (aF (XN.r (oG (XN.r (aM)))) (aF (XN.r (aM)) (aF (XN.r (aM)) (aF (aH (pv 4)) aP))))) (XN.r (cU (XN.r (qF (aH (pv 4)) (XN.r (aM)))) (XN.r (aM)))) (λ_ _=>rfl))) (bF (XR.n (aH (pv 5))) (bF (XR.n (aH (pv 6))) iY))))))))))))⟩
theorem dB:aZ ["script", "panes", "rows", "spare", "boxes", "k", "stone", "cell", "box", "key", "pane"] ["script"] (aJ tX):=by walk_at "fs"
theorem Zh(R:Raw K mg "_law_built" tX) (Fi:sW P w K mg base "_law_sizes" 2 1 (gP K 1 tW)) (dZ:sW P w K mg base "_law_cell" 1 2 (gP K 2 cH)) (kE:sW P w K mg base "_law_mixed" 1 2 (gP K 2 iU)) (uV:sW P w K mg base "_law_record" 2 4 (gP K 4 nR)) (jH:mg "list" = none) (jP:mg "range" = none) (jC:mg "len" = none):sW P w K mg base "_law_built" 3 1 (gP K 1 tY):=by
 refine R.Bw dB (λ_ _ _ _ _ _ us hl=>match us,hl with | [_],_=>rfl) (λ_ _ _ _ _ _ _ hr=>?_)
 have dI:=hr.units
 have hu:=cL hr
 exact⟨_,aO (WN (is:=[1,2]) (n:=2) (bY Fi (hr.mono (by decide)) rfl (aF (aH (pv 0)) aP)) (λh=>BZ h (aCY rfl (Wo (mH (i:=1) dB.nd rfl (by first | exact E5 rfl | exact E4 rfl)) (Wo (mH (i:=2) dB.nd rfl (by first | exact E5 rfl | exact E4 rfl)) (aAt))))))
  (aO (bN (i:=3) (YG (aF (XN.r (aM)) (aF (XN.r (nO (aH (pv 1)) (aH (pv 2)))) aP)) rfl jH K4 rfl jP PyProof.Rows.boot_range) (λh=>bH dB.nd rfl (by first | exact E5 rfl | exact E4 rfl) h))
  (aO (bN (i:=4) (wG (bF aM iY)) (λh=>bH dB.nd rfl (by first | exact E5 rfl | exact E4 rfl) h))
  (aO (Ie PassesOwn.never rfl (yE rfl jP (aF (XN.r (cU (XN.r (bY dZ (hr.mono (by decide)) rfl (aF (aH (pv 0)) (aF (XN.r (aM)) aP)))) (XN.r (nO (aH (pv 1)) (aH (pv 2)))))) aP)) (mH (i:=5) dB.nd rfl (by first | exact E5 rfl | exact E4 rfl)) (aV (WQ (i:=4) (j:=3) (XN.r (cU (XN.r (bY kE (hr.mono (by decide)) rfl (aF (XN.r (bY dZ (hr.mono (by decide)) rfl (aF (aH (pv 0)) (aF (XN.r (aM)) aP)))) (aF (aH (pv 5)) aP)))) (XN.r (mK lM (lN rfl) rfl jC G5 (aF (aH (pv 3)) aP))))) (λh=>mG (wB F7 L9 M0 nG (pv 4) (eO (wB F7 PySem.F.slot_list_pop PySem.F.type_list_pop gq (pv 3) (eO h kO)) kO))))))
  (aO (PL (i:=6) ["pane", "rows"] [2] rfl (.at (aJ tX) ["script", "panes", "rows", "spare", "boxes", "k", "stone", "cell", "box", "key", "pane"] (by decide +kernel)) dB.nd rfl (by first | exact E5 rfl | exact E4 rfl) (El rfl jP (aF (aH (pv 1)) aP)) (oE (by decide +kernel) rfl rfl) (λ_ _ _ _ _=>uK) (λ_ _ _ _ _=>rG ["place"] [] rfl (iQ.of (by show MN (tG _ (aJ tX)) _ ["pane", "rows"] _ _ _=true;decide +kernel)) (El rfl jP (aF (aH (pv 1)) aP)) (oE (by decide +kernel) rfl rfl) (λ_ _ _ _ _=>uK) (λ_ _ _ _ _=>rW (bF aM (bF aM (bF (oG (XN.r (aM))) (bF (oG (XN.r (aM))) (bF aM iY))))))))
  (aO (bN (i:=7) (bY dZ (hr.mono (by decide)) rfl (aF (aH (pv 0)) (aF (XN.r (aM)) aP))) (λh=>bH dB.nd rfl (by first | exact E5 rfl | exact E4 rfl) h))
  (aO (jt [3] PassesOwn.never rfl (wJ (aH (pv 3))) (mH (i:=8) dB.nd rfl (by first | exact E5 rfl | exact E4 rfl)) (aV (PJ (PB (iZ (pv 6)) (XN.r (cU (aH (pv 8)) (aH (pv 1)))) (λ_ _=>rfl)) (XN.r (qF (aH (pv 8)) (aH (pv 1)))) (bY uV (hr.mono (by decide)) rfl (aF (aH (pv 7)) (aF (aH (pv 8)) (aF (XN.r (cU (aH (pv 7)) (XN.r (Kc (XN.r (aM)) (XN.r (aM)))))) (aF (XN.r (cU (XN.r (nO (aH (pv 8)) (aH (pv 8)))) (XN.r (nO (aH (pv 1)) (aH (pv 2)))))) aP))))) (λa b c=>BZ c (az a b set_list)))))
  (aO (bN (i:=9) (cU (aH (pv 7)) (XN.r (Kc (XN.r (aM)) (XN.r (aM))))) (λh=>bH dB.nd rfl (by first | exact E5 rfl | exact E4 rfl) h))
  (aO (Ie PassesOwn.never rfl (yE rfl jP (aF (XN.r (mK lM (lN rfl) rfl jC G5 (aF (aH (pv 4)) aP))) aP)) (mH (i:=5) dB.nd rfl (by first | exact E5 rfl | exact E4 rfl)) (aO (bN (i:=8) (XR.n (dU (aH (pv 4)) (aH (pv 5)) (λ_ _=>rfl))) (λh=>bH dB.nd rfl (by first | exact E5 rfl | exact E4 rfl) h))
  (aO (PJ (PB (iZ (pv 6)) (XN.r (cU (aH (pv 8)) (aH (pv 1)))) (λ_ _=>rfl)) (XN.r (qF (aH (pv 8)) (aH (pv 1)))) (bY uV (hr.mono (by decide)) rfl (aF (aH (pv 7)) (aF (XN.r (cO (aH (pv 5)) (XN.r (aM)))) (aF (aH (pv 9)) (aF (dU (XN.r (cO (aH (pv 4)) (nP (aF (XN.r (aM)) aP)))) (XN.r (cO (aH (pv 5)) (XN.r (aM)))) (λ_ _=>rfl)) aP))))) (λa b c=>BZ c (az a b set_list)))
  (aV (bN (i:=9) (cO (XN.r (cO (aH (pv 9)) (XN.r (aM)))) (XN.r (nO (XN.r (cU (XN.r (bY kE (hr.mono (by decide)) rfl (aF (aH (pv 7)) (aF (XN.r (cO (aH (pv 5)) (XN.r (aM)))) aP)))) (XN.r (aM)))) (dU (nP (aF (XN.r (aM)) (aF (XN.r (Kc (XN.r (aM)) (XN.r (aM)))) aP))) (XN.r (cU (aH (pv 7)) (XN.r (aM)))) (λ_ _=>rfl))))) (λh=>bH dB.nd rfl (by first | exact E5 rfl | exact E4 rfl) h))))))
  (aO (Ie PassesOwn.never rfl (yE rfl jP (aF (aH (pv 1)) aP)) (mH (i:=10) dB.nd rfl (by first | exact E5 rfl | exact E4 rfl)) (aV (jy (PB (iZ (pv 6)) (aH (pv 10)) (λ_ _=>rfl)) (rW (bF (cU (XN.r (bY kE (hr.mono (by decide)) rfl (aF (aH (pv 7)) (aF (XN.r (cO (aH (pv 10)) (XN.r (aM)))) aP)))) (XN.r (aM))) iY)) (λa b=>mG (wB F7 L9 M0 nG a (eO b kO))))))
  (aV (Ib (pv 6))))))))))))⟩
theorem Zi:aZ ["self", "stone"] ["self", "stone"] (aJ qR):=by walk_at "fs"
theorem Vq{κ:Nat→Addr}(R:Xz K mg "Bench" (κ 20) "Bench.__init__" qR) (bC:gB K (κ 20) gW) (jH:mg "list" = none):XH P w K mg base "Bench" (κ 20) 1 2 (spS K 2 (qT κ)):=by
 refine R.aF2 Zi (λ_ _ _ _ _ _ us hl=>match us,hl with | [_,_],_=>rfl) (λ_ _ _ _ _ _ _ hr=>?_)
 have dI:=hr.units
 have hu:=cL hr
 exact⟨_,aO (lE bC (by decide +kernel) (iZ (pv 0)) (rG ["pane"] [] rfl (.at (aJ qR) ["self", "stone"] (by decide +kernel)) (wJ (aH (pv 1))) (oE (by decide +kernel) rfl rfl) (λ_ _ _ _ _=>uK) (λ_ _ _ _ _=>Gm xY (xZ rfl) rfl jH K4 (aF (aH (pv 0)) aP))))
  (aO (lE bC (by decide +kernel) (iZ (pv 0)) (wG iY))
  (aO (lE bC (by decide +kernel) (iZ (pv 0)) (pq))
  (aO (lE bC (by decide +kernel) (iZ (pv 0)) (Bq))
  (aV (lE bC (by decide +kernel) (iZ (pv 0)) (rG ["pane"] [] rfl (.at (aJ qR) ["self", "stone"] (by decide +kernel)) (wJ (aH (pv 1))) (oE (by decide +kernel) rfl rfl) (λ_ _ _ _ _=>uK) (λ_ _ _ _ _=>wG iY)))))))⟩
theorem YW:aZ ["stone", "spot"] ["stone", "spot"] (aJ Mg):=by walk_at "fs"
theorem JF(R:Raw K mg "thing_at" Mg):sW P w K mg base "thing_at" 1 2 (gP K 2 wV):=by
 refine R.Bw YW (λ_ _ _ _ _ _ us hl=>match us,hl with | [_,_],_=>rfl) (λ_ _ _ _ _ _ _ hr=>?_)
 have dI:=hr.units
 have hu:=cL hr
 exact⟨_,aV (cB (XR.n (dU (dU (aH (pv 0)) (dU (aH (pv 1)) (XN.r (aM)) (λ_ _=>rfl)) (λ_ _=>rfl)) (dU (aH (pv 1)) (XN.r (aM)) (λ_ _=>rfl)) (λ_ _=>rfl))))⟩
theorem ur:aZ ["stone", "box"] ["stone", "box"] (aJ Vl):=by walk_at "fs"
theorem YX(R:Raw K mg "spot_of" Vl) (jC:mg "len" = none):sW P w K mg base "spot_of" 1 2 (gP K 2 uP):=by
 refine R.Bw ur (λ_ _ _ _ _ _ us hl=>match us,hl with | [_,_],_=>rfl) (λ_ _ _ _ _ _ _ hr=>?_)
 have dI:=hr.units
 have hu:=cL hr
 exact⟨_,aV (cB (rW (bF (cU (aH (pv 1)) (XN.r (mK lM (lN rfl) rfl jC G5 (aF (aH (pv 0)) aP)))) (bF (qF (aH (pv 1)) (XN.r (mK lM (lN rfl) rfl jC G5 (aF (aH (pv 0)) aP)))) iY))))⟩
theorem JG:aZ ["stone", "box"] ["stone", "box"] (aJ Fe):=by walk_at "fs"
theorem Zj(R:Raw K mg "record_at" Fe) (yN:sW P w K mg base "spot_of" 1 2 (gP K 2 uP)) (Mr:sW P w K mg base "thing_at" 1 2 (gP K 2 wV)):sW P w K mg base "record_at" 2 2 (gP K 2 jX):=by
 refine R.Bw JG (λ_ _ _ _ _ _ us hl=>match us,hl with | [_,_],_=>rfl) (λ_ _ _ _ _ _ _ hr=>?_)
 have dI:=hr.units
 have hu:=cL hr
 exact⟨_,aV (cB (bY Mr (hr.mono (by decide)) rfl (aF (aH (pv 0)) (aF (XN.r (bY yN (hr.mono (by decide)) rfl (aF (aH (pv 0)) (aF (aH (pv 1)) aP)))) aP))))⟩
theorem uW:aZ ["stone", "found", "box"] ["stone"] (aJ Ff):=by walk_at "fs"
theorem Zk(R:Raw K mg "string_of" Ff) (yO:sW P w K mg base "record_at" 2 2 (gP K 2 jX)) (jH:mg "list" = none) (zO:kJ mg "HEAD" (0)) (zP:kJ mg "NEXT" (1)):sW P w K mg base "string_of" 3 1 (gP K 1 nT):=by
 refine R.Bw uW (λ_ _ _ _ _ _ us hl=>match us,hl with | [_],_=>rfl) (λ_ _ _ _ _ _ _ hr=>?_)
 have dI:=hr.units
 have hu:=cL hr
 exact⟨_,aO (bN (i:=1) (Bq) (λh=>bH uW.nd rfl (by first | exact E5 rfl | exact E4 rfl) h))
  (aO (bN (i:=2) (XR.n (dU (XN.r (bY yO (hr.mono (by decide)) rfl (aF (aH (pv 0)) (aF (XN.r (qJ zO rfl)) aP)))) (XN.r (qJ zP rfl)) (λ_ _=>rfl))) (λh=>bH uW.nd rfl (by first | exact E5 rfl | exact E4 rfl) h))
  (aO (Kh 400 PassesOwn.never (XW.xt (aDK (gA (Gk dI rfl) Gj (aH (pv 2)) (XN.r (qJ zO rfl)) (eX _)) (aA4 (VN hu (aH (pv 2)) (aH (pv 1)))))) (aO (aBf (iZ (pv 1)) (aH (pv 2)) (XN.r (Jz)) (λa b c=>Bl hu a b c rfl))
  (aV (bN (i:=2) (XR.n (dU (XN.r (bY yO (hr.mono (by decide)) rfl (aF (aH (pv 0)) (aF (aH (pv 2)) aP)))) (XN.r (qJ zP rfl)) (λ_ _=>rfl))) (λh=>bH uW.nd rfl (by first | exact E5 rfl | exact E4 rfl) h)))))
  (aV (cB (Gm jj (Jp rfl) rfl jH K4 (aF (aH (pv 1)) aP))))))⟩
theorem Zm:aZ ["stone"] ["stone"] (aJ Aq):=by walk_at "fs"
theorem Vr(R:Raw K mg "many_boxes" Aq) (jC:mg "len" = none):sW P w K mg base "many_boxes" 1 1 (gP K 1 lQ):=by
 refine R.Bw Zm (λ_ _ _ _ _ _ us hl=>match us,hl with | [_],_=>rfl) (λ_ _ _ _ _ _ _ hr=>?_)
 have dI:=hr.units
 have hu:=cL hr
 exact⟨_,aV (cB (nO (XN.r (mK lM (lN rfl) rfl jC G5 (aF (aH (pv 0)) aP))) (XN.r (aDF (XN.r (mK lM (lN rfl) rfl jC G5 (aF (dU (aH (pv 0)) (XN.r (aM)) (λ_ _=>rfl)) aP))) (XN.r (aM))))))⟩
theorem Dl:aZ ["stone", "tied"] ["stone"] (aJ rN):=by walk_at "fs"
theorem Ou(R:Raw K mg "loose_boxes" rN) (qD:sW P w K mg base "string_of" 3 1 (gP K 1 nT)) (nY:sW P w K mg base "many_boxes" 1 1 (gP K 1 lQ)) (jP:mg "range" = none) (zO:kJ mg "HEAD" (0)):sW P w K mg base "loose_boxes" 4 1 (gP K 1 oX):=by
 refine R.Bw Dl (λ_ _ _ _ _ _ us hl=>match us,hl with | [_],_=>rfl) (λ_ _ _ _ _ _ _ hr=>?_)
 have dI:=hr.units
 have hu:=cL hr
 exact⟨_,aO (bN (i:=1) (bY qD (hr.mono (by decide)) rfl (aF (aH (pv 0)) aP)) (λh=>bH Dl.nd rfl (by first | exact E5 rfl | exact E4 rfl) h))
  (aV (cB (rG ["box", "tied"] [1] rfl (.at (aJ rN) ["stone", "tied"] (by decide +kernel)) (aFQ (λh=>TF rfl jP h) (aF (XN.r (cO (XN.r (qJ zO rfl)) (XN.r (aM)))) (aF (XN.r (bY nY (hr.mono (by decide)) rfl (aF (aH (pv 0)) aP))) aP))) (oE (by decide +kernel) rfl rfl) (λ_ _ _ _ _=>Uk (gA (jg rfl) (aCg true) (aH (pv 0)) (aH (pv 1)) (by with_unfolding_all rfl))) (λ_ _ _ _ _=>XR.n (aH (pv 0))))))⟩
theorem Vs:aZ ["self", "stone"] ["self", "stone"] (aJ rO):=by walk_at "fs"
theorem Ov{κ:Nat→Addr}(R:Xz K mg "Weaver" (κ 21) "Weaver.__init__" rO) (bC:gB K (κ 20) gW) (aL:gB K (κ 21) cA) (Ax:XH P w K mg base "Bench" (κ 20) 1 2 (spS K 2 (qT κ))) (nY:sW P w K mg base "many_boxes" 1 1 (gP K 1 lQ)) (yN:sW P w K mg base "spot_of" 1 2 (gP K 2 uP)) (qD:sW P w K mg base "string_of" 3 1 (gP K 1 nT)) (xF:sW P w K mg base "loose_boxes" 4 1 (gP K 1 oX)) (jP:mg "range" = none):XH P w K mg base "Weaver" (κ 21) 5 2 (spS K 2 (rP κ)):=by
 refine R.aF2 Vs (λ_ _ _ _ _ _ us hl=>match us,hl with | [_,_],_=>rfl) (λ_ _ _ _ _ _ _ hr=>?_)
 have dI:=hr.units
 have hu:=cL hr
 exact⟨_,aO (lE aL (by decide +kernel) (iZ (pv 0)) (QK Ax dF (hr.mono (by decide)) rfl (aF (aH (pv 1)) aP)))
  (aO (lE aL (by decide +kernel) (iZ (pv 0)) (rG ["box", "stone"] [1] rfl (.at (aJ rO) ["self", "stone"] (by decide +kernel)) (El rfl jP (aF (XN.r (bY nY (hr.mono (by decide)) rfl (aF (aH (pv 1)) aP))) aP)) (oE (by decide +kernel) rfl rfl) (λ_ _ _ _ _=>uK) (λ_ _ _ _ _=>bY yN (hr.mono (by decide)) rfl (aF (aH (pv 1)) (aF (aH (pv 0)) aP)))))
  (aO (lE aL (by decide +kernel) (iZ (pv 0)) (bY qD (hr.mono (by decide)) rfl (aF (aH (pv 1)) aP)))
  (aO (lE aL (by decide +kernel) (iZ (pv 0)) (bY xF (hr.mono (by decide)) rfl (aF (aH (pv 1)) aP)))
  (aO (lE aL (by decide +kernel) (iZ (pv 0)) (Bq))
  (aO (lE aL (by decide +kernel) (iZ (pv 0)) (Bq))
  (aV (lE aL (by decide +kernel) (iZ (pv 0)) (Bq))))))))⟩
theorem Ox:aZ ["self"] ["self"] (aJ uQ):=by walk_at "fs"
theorem Ms{κ:Nat→Addr}(R:dR K (κ 21) "order" "Weaver.order" uQ false) (aL:gB K (κ 21) cA) (jH:mg "list" = none):cI P w K mg base (κ 21) "order" 1 1 false (gP K 1 (cZ κ)):=by
 refine R.zA Ox (λ_ _ _ _ _ _ us hl=>match us,hl with | [_],_=>rfl) (λ_ _ _ _ _ _ _ hr=>?_)
 have dI:=hr.units
 have hu:=cL hr
 exact⟨_,aV (cB (Gm xY (xZ rfl) rfl jH K4 (aF (cQ aL (aH (pv 0)) (by decide +kernel) rfl) aP)))⟩
theorem Vt:aZ ["self"] ["self"] (aJ wX):=by walk_at "fs"
theorem Oz{κ:Nat→Addr}(R:dR K (κ 21) "free" "Weaver.free" wX false) (aL:gB K (κ 21) cA) (pW:mg "sorted" = none):cI P w K mg base (κ 21) "free" 1 1 false (gP K 1 (iG κ)):=by
 refine R.zA Vt (λ_ _ _ _ _ _ us hl=>match us,hl with | [_],_=>rfl) (λ_ _ _ _ _ _ _ hr=>?_)
 have dI:=hr.units
 have hu:=cL hr
 exact⟨_,aV (cB (mK VP (VR rfl) rfl pW R5 (aF (cQ aL (aH (pv 0)) (by decide +kernel) rfl) aP)))⟩
theorem Mt:aZ ["self"] ["self"] (aJ sH):=by walk_at "fs"
theorem Hl{κ:Nat→Addr}(R:dR K (κ 20) "changes" "Bench.changes" sH false) (bC:gB K (κ 20) gW) (jH:mg "list" = none):cI P w K mg base (κ 20) "changes" 1 1 false (gP K 1 (oK κ)):=by
 refine R.zA Mt (λ_ _ _ _ _ _ us hl=>match us,hl with | [_],_=>rfl) (λ_ _ _ _ _ _ _ hr=>?_)
 have dI:=hr.units
 have hu:=cL hr
 exact⟨_,aV (cB (Gm xY (xZ rfl) rfl jH K4 (aF (cQ bC (aH (pv 0)) (by decide +kernel) rfl) aP)))⟩
theorem Mu:aZ ["self"] ["self"] (aJ sI):=by walk_at "fs"
theorem Ho{κ:Nat→Addr}(R:dR K (κ 20) "settled" "Bench.settled" sI false) (bC:gB K (κ 20) gW) (pW:mg "sorted" = none):cI P w K mg base (κ 20) "settled" 1 1 false (gP K 1 (oM κ)):=by
 refine R.zA Mu (λ_ _ _ _ _ _ us hl=>match us,hl with | [_],_=>rfl) (λ_ _ _ _ _ _ _ hr=>?_)
 have dI:=hr.units
 have hu:=cL hr
 exact⟨_,aV (cB (mK HQ (Eg rfl) rfl pW R5 (aF (cQ bC (aH (pv 0)) (by decide +kernel) rfl) aP)))⟩
theorem Vu:aZ ["self"] ["self"] (aJ rQ):=by walk_at "fs"
theorem Pa{κ:Nat→Addr}(R:dR K (κ 20) "stone" "Bench.stone" rQ false) (bC:gB K (κ 20) gW) (jH:mg "list" = none):cI P w K mg base (κ 20) "stone" 1 1 false (gP K 1 (rR κ)):=by
 refine R.zA Vu (λ_ _ _ _ _ _ us hl=>match us,hl with | [_],_=>rfl) (λ_ _ _ _ _ _ _ hr=>?_)
 have dI:=hr.units
 have hu:=cL hr
 exact⟨_,aV (cB (rG ["pane"] [] rfl (.at (aJ rQ) ["self"] (by decide +kernel)) (wJ (cQ bC (aH (pv 0)) (by decide +kernel) rfl)) (oE (by decide +kernel) rfl rfl) (λ_ _ _ _ _=>uK) (λ_ _ _ _ _=>Gm xY (xZ rfl) rfl jH K4 (aF (aH (pv 0)) aP))))⟩
theorem Sh:aZ ["weaver", "bench"] ["weaver"] (aJ Mh):=by walk_at "fs"
theorem JH{κ:Nat→Addr}(R:Raw K mg "_law_shot" Mh) (aL:gB K (κ 21) cA) (bC:gB K (κ 20) gW) (dC:cI P w K mg base (κ 21) "order" 1 1 false (gP K 1 (cZ κ))) (jQ:cI P w K mg base (κ 21) "free" 1 1 false (gP K 1 (iG κ))) (sJ:cI P w K mg base (κ 20) "changes" 1 1 false (gP K 1 (oK κ))) (sO:cI P w K mg base (κ 20) "settled" 1 1 false (gP K 1 (oM κ))) (xG:cI P w K mg base (κ 20) "stone" 1 1 false (gP K 1 (rR κ))):sW P w K mg base "_law_shot" 2 1 (gP K 1 (wY κ)):=by
 refine R.Bw Sh (λ_ _ _ _ _ _ us hl=>match us,hl with | [_],_=>rfl) (λ_ _ _ _ _ _ _ hr=>?_)
 have dI:=hr.units
 have hu:=cL hr
 exact⟨_,aO (aBb (i:=1) (cQ aL (aH (pv 0)) (by decide +kernel) rfl) (λh=>bH Sh.nd rfl (by first | exact E5 rfl | exact E4 rfl) h))
  (aV (cB (wG (bF (jN dC aL (hr.mono (by decide)) (aH (pv 0))) (bF (jN jQ aL (hr.mono (by decide)) (aH (pv 0))) (bF (jN sJ bC (hr.mono (by decide)) (aH (pv 1))) (bF (jN sO bC (hr.mono (by decide)) (aH (pv 1))) (bF (jN xG bC (hr.mono (by decide)) (aH (pv 1))) iY))))))))⟩
theorem Fj:aZ ["self", "place"] ["self", "place"] (aJ pB):=by walk_at "fs"
theorem Dm{κ:Nat→Addr}(R:dR K (κ 21) "box_ahead" "Weaver.box_ahead" pB false) (aL:gB K (κ 21) cA) (zO:kJ mg "HEAD" (0)):cI P w K mg base (κ 21) "box_ahead" 1 2 false (gP K 2 (gJ κ)):=by
 refine R.zA Fj (λ_ _ _ _ _ _ us hl=>match us,hl with | [_,_],_=>rfl) (λ_ _ _ _ _ _ _ hr=>?_)
 have dI:=hr.units
 have hu:=cL hr
 exact⟨_,aV (cB (XR.n (dU (XN.r (cO (nP (aF (XN.r (qJ zO rfl)) aP)) (cQ aL (aH (pv 0)) (by decide +kernel) rfl))) (aH (pv 1)) (λ_ _=>rfl))))⟩
theorem Fq:aZ ["self", "pane"] ["self", "pane"] (aJ pC):=by walk_at "fs"
theorem Dn{κ:Nat→Addr}(R:dR K (κ 20) "check_pane" "Bench.check_pane" pC false) (bC:gB K (κ 20) gW) (jC:mg "len" = none):cI P w K mg base (κ 20) "check_pane" 1 2 false (gP K 2 (lG κ)):=by
 refine R.zA Fq (λ_ _ _ _ _ _ us hl=>match us,hl with | [_,_],_=>rfl) (λ_ _ _ _ _ _ _ hr=>?_)
 have dI:=hr.units
 have hu:=cL hr
 exact⟨_,aV (pL (FQ (Kz bx Ws uI uI (XN.r (aM)) (aH (pv 1)) (XN.r (mK lM (lN rfl) rfl jC G5 (aF (cQ bC (aH (pv 0)) (by decide +kernel) rfl) aP))))) (aV (Uo)) iJ)⟩
theorem Dp:aZ ["self", "pane", "place"] ["self", "pane", "place"] (aJ nU):=by walk_at "fs"
theorem Ay{κ:Nat→Addr}(R:dR K (κ 20) "check_place" "Bench.check_place" nU false) (bC:gB K (κ 20) gW) (pH:cI P w K mg base (κ 20) "check_pane" 1 2 false (gP K 2 (lG κ))) (jC:mg "len" = none):cI P w K mg base (κ 20) "check_place" 2 3 false (gP K 3 (fV κ)):=by
 refine R.zA Dp (λ_ _ _ _ _ _ us hl=>match us,hl with | [_,_,_],_=>rfl) (λ_ _ _ _ _ _ _ hr=>?_)
 have dI:=hr.units
 have hu:=cL hr
 exact⟨_,aO (Cj (XN.r (dM pH bC (hr.mono (by decide)) (aH (pv 0)) (aF (aH (pv 1)) aP))))
  (aV (pL (FQ (Kz bx Ws uI uI (XN.r (aM)) (aH (pv 2)) (XN.r (mK lM (lN rfl) rfl jC G5 (aF (dU (cQ bC (aH (pv 0)) (by decide +kernel) rfl) (aH (pv 1)) (λ_ _=>rfl)) aP))))) (aV (Uo)) iJ))⟩
theorem Zo:aZ ["self", "pane", "place"] ["self", "pane", "place"] (aJ Aw):=by walk_at "fs"
theorem Vv{κ:Nat→Addr}(R:dR K (κ 20) "seen" "Bench.seen" Aw false) (bC:gB K (κ 20) gW) (fW:cI P w K mg base (κ 20) "check_place" 2 3 false (gP K 3 (fV κ))) (JK:kJ mg "THING" (2)):cI P w K mg base (κ 20) "seen" 3 3 false (gP K 3 (qU κ)):=by
 refine R.zA Zo (λ_ _ _ _ _ _ us hl=>match us,hl with | [_,_,_],_=>rfl) (λ_ _ _ _ _ _ _ hr=>?_)
 have dI:=hr.units
 have hu:=cL hr
 exact⟨_,aO (Cj (XN.r (dM fW bC (hr.mono (by decide)) (aH (pv 0)) (aF (aH (pv 1)) (aF (aH (pv 2)) aP)))))
  (aO (pL (QR hu (La (aF (aH (pv 1)) (aF (aH (pv 2)) aP))) (cQ bC (aH (pv 0)) (by decide +kernel) rfl)) (aV (cB (XR.n (dU (dU (cQ bC (aH (pv 0)) (by decide +kernel) rfl) (XN.r (Yi hu (cQ bC (aH (pv 0)) (by decide +kernel) rfl) (La (aF (aH (pv 1)) (aF (aH (pv 2)) aP))) (λ_ _=>rfl))) (λ_ _=>rfl)) (XN.r (qJ JK rfl)) (λ_ _=>rfl))))) iJ)
  (aV (cB (XR.n (dU (dU (cQ bC (aH (pv 0)) (by decide +kernel) rfl) (aH (pv 1)) (λ_ _=>rfl)) (aH (pv 2)) (λ_ _=>rfl))))))⟩
theorem uB:aZ ["self", "box", "spot"] ["self", "box"] (aJ pD):=by walk_at "fs"
theorem Dq{κ:Nat→Addr}(R:dR K (κ 21) "record_of" "Weaver.record_of" pD false) (aL:gB K (κ 21) cA) (bC:gB K (κ 20) gW) (Az:cI P w K mg base (κ 20) "seen" 3 3 false (gP K 3 (qU κ))):cI P w K mg base (κ 21) "record_of" 4 2 false (gP K 2 (aY κ)):=by
 refine R.zA uB (λ_ _ _ _ _ _ us hl=>match us,hl with | [_,_],_=>rfl) (λ_ _ _ _ _ _ _ hr=>?_)
 have dI:=hr.units
 have hu:=cL hr
 exact⟨_,aO (bN (i:=2) (XR.n (dU (cQ aL (aH (pv 0)) (by decide +kernel) rfl) (aH (pv 1)) (λ_ _=>rfl))) (λh=>bH uB.nd rfl (by first | exact E5 rfl | exact E4 rfl) h))
  (aV (cB (dM Az bC (hr.mono (by decide)) (cQ aL (aH (pv 0)) (by decide +kernel) rfl) (aF (dU (aH (pv 2)) (XN.r (aM)) (λ_ _=>rfl)) (aF (dU (aH (pv 2)) (XN.r (aM)) (λ_ _=>rfl)) aP)))))⟩
theorem Ba:aZ ["self", "number"] ["self", "number"] (aJ mX):=by walk_at "fs"
theorem zF{κ:Nat→Addr}(R:dR K (κ 20) "check_change" "Bench.check_change" mX false) (bC:gB K (κ 20) gW) (jC:mg "len" = none):cI P w K mg base (κ 20) "check_change" 1 2 false (gP K 2 (eU κ)):=by
 refine R.zA Ba (λ_ _ _ _ _ _ us hl=>match us,hl with | [_,_],_=>rfl) (λ_ _ _ _ _ _ _ hr=>?_)
 have dI:=hr.units
 have hu:=cL hr
 exact⟨_,aV (pL (FQ (Kz bx Ws uI uI (XN.r (aM)) (aH (pv 1)) (XN.r (mK lM (lN rfl) rfl jC G5 (aF (cQ bC (aH (pv 0)) (by decide +kernel) rfl) aP))))) (aV (Uo)) iJ)⟩
theorem uX:aZ ["self", "pane", "place", "thing", "needs", "needed", "need", "number"] ["self", "pane", "place", "thing", "needs"] (aJ Fg):=by walk_at "fs"
theorem Zq{κ:Nat→Addr}(R:dR K (κ 20) "put" "Bench.put" Fg true) (bC:gB K (κ 20) gW) (fW:cI P w K mg base (κ 20) "check_place" 2 3 false (gP K 3 (fV κ))) (eV:cI P w K mg base (κ 20) "check_change" 1 2 false (gP K 2 (eU κ))) (jH:mg "list" = none) (jC:mg "len" = none) (pW:mg "sorted" = none) (aEw:mg "set" = none) (JL:mg "tuple" = none):cI P w K mg base (κ 20) "put" 3 5 true (spS K 5 (yL κ)):=by
 refine R.Yd uX (λT _ _ _ _ _ _ us=>⟨λhl=>match us,hl with | [_,_,_,_,_],_=>⟨_,rfl,rfl⟩,λhl=>match us,hl with | [_,_,_,_],_=>⟨_,rfl,rfl⟩⟩) (λ_ _ _ _ _ _ _ hr=>?_)
 have dI:=hr.units
 have hu:=cL hr
 exact⟨_,aO (Cj (XN.r (dM fW bC (hr.mono (by decide)) (aH (pv 0)) (aF (aH (pv 1)) (aF (aH (pv 2)) aP)))))
  (aO (bN (i:=5) (aCl (gA cg qe (aH (pv 4)) (XN.r (Ka)) (eX _)) (wG iY) (Gm xY (xZ rfl) rfl jH K4 (aF (aH (pv 4)) aP))) (λh=>bH uX.nd rfl (by first | exact E5 rfl | exact E4 rfl) h))
  (aO (QQ PassesOwn.never rfl (pv 5) (mH (i:=6) uX.nd rfl (by first | exact E5 rfl | exact E4 rfl)) (aV (Cj (XN.r (dM eV bC (hr.mono (by decide)) (aH (pv 0)) (aF (aH (pv 6)) aP))))))
  (aO (pL (QR hu (La (aF (aH (pv 1)) (aF (aH (pv 2)) aP))) (cQ bC (aH (pv 0)) (by decide +kernel) rfl)) (aV (jy (iZ (pv 5)) (Yi hu (cQ bC (aH (pv 0)) (by decide +kernel) rfl) (La (aF (aH (pv 1)) (aF (aH (pv 2)) aP))) (λ_ _=>rfl)) (λa b=>mG (wB F7 L9 M0 nG a (eO b kO))))) iJ)
  (aO (bN (i:=7) (mK lM (lN rfl) rfl jC G5 (aF (cQ bC (aH (pv 0)) (by decide +kernel) rfl) aP)) (λh=>bH uX.nd rfl (by first | exact E5 rfl | exact E4 rfl) h))
  (aO (Ut (qM bC (iZ (pv 0)) (by decide +kernel) rfl) (rW (bF (XR.n (aH (pv 1))) (bF (XR.n (aH (pv 2))) (bF (XR.n (aH (pv 3))) (bF (Gm jl (jm rfl) rfl JL PyProof.Rows.boot_tuple (aF (XN.r (aBn (aH (pv 5)) rfl pW R5 rfl aEw PyProof.Rows.boot_set)) aP)) iY))))) (λa b=>mG (wB F7 L9 M0 nG a (eO b kO))))
  (aO (qd (qM bC (iZ (pv 0)) (by decide +kernel) rfl) (La (aF (aH (pv 1)) (aF (aH (pv 2)) aP))) (aH (pv 7)) (λa b c=>Bl hu a b c rfl))
  (aO (Ut (PB (qM bC (iZ (pv 0)) (by decide +kernel) rfl) (aH (pv 1)) (λ_ _=>rfl)) (XR.n (aH (pv 7))) (λa b=>mG (wB F7 L9 M0 nG a (eO b kO))))
  (aV (tU (pv 7))))))))))⟩
theorem aBK:aZ ["numbers"] ["numbers"] (aJ Vn):=by walk_at "fs"
theorem uv(R:Raw K mg "known" Vn):sW P w K mg base "known" 1 1 (gP K 1 Vo):=by
 refine R.Bw aBK (λ_ _ _ _ _ _ us hl=>match us,hl with | [_],_=>rfl) (λ_ _ _ _ _ _ _ hr=>?_)
 have dI:=hr.units
 have hu:=cL hr
 exact⟨_,aV (cB (rG ["number"] [] rfl (.at (aJ Vn) ["numbers"] (by decide +kernel)) (wJ (aH (pv 0))) (oE (by decide +kernel) rfl rfl) (λ_ _ _ _ _=>Uk (gA KY Rh (aH (pv 0)) (XN.r (Ka)) (eX _))) (λ_ _ _ _ _=>XR.n (aH (pv 0)))))⟩
theorem sS:aZ ["self", "box", "record", "needed", "spot", "number"] ["self", "box", "record", "needed"] (aJ uR):=by walk_at "fs"
theorem Mv{κ:Nat→Addr}(R:dR K (κ 21) "write" "Weaver.write" uR false) (aL:gB K (κ 21) cA) (bC:gB K (κ 20) gW) (Ft:cI P w K mg base (κ 20) "put" 3 5 true (spS K 5 (yL κ))) (JM:sW P w K mg base "known" 1 1 (gP K 1 Vo)):cI P w K mg base (κ 21) "write" 4 4 false (spS K 4 (jY κ)):=by
 refine R.Yd sS (λ_ _ _ _ _ _ us hl=>match us,hl with | [_,_,_,_],_=>rfl) (λ_ _ _ _ _ _ _ hr=>?_)
 have dI:=hr.units
 have hu:=cL hr
 exact⟨_,aO (bN (i:=4) (XR.n (dU (cQ aL (aH (pv 0)) (by decide +kernel) rfl) (aH (pv 1)) (λ_ _=>rfl))) (λh=>bH sS.nd rfl (by first | exact E5 rfl | exact E4 rfl) h))
  (aO (Ih (i:=5) (uM Ft bC dF (hr.mono (by decide)) (qM aL (iZ (pv 0)) (by decide +kernel) rfl) (dW (dU (aH (pv 4)) (XN.r (aM)) (λ_ _=>rfl)) (dW (dU (aH (pv 4)) (XN.r (aM)) (λ_ _=>rfl)) (dW (aH (pv 2)) (dW (XN.r (bY JM (hr.mono (by decide)) rfl (aF (aH (pv 3)) aP))) jE))))) (λh=>bH sS.nd rfl (by first | exact E5 rfl | exact E4 rfl) h))
  (aO (Ld (qM aL (iZ (pv 0)) (by decide +kernel) rfl) (aH (pv 1)) (aH (pv 5)) (λa b c=>Bl hu a b c rfl))
  (aV (tU (pv 5)))))⟩
theorem Fv:aZ ["self", "box"] ["self", "box"] (aJ pF):=by walk_at "fs"
theorem Dr{κ:Nat→Addr}(R:dR K (κ 21) "coming_in" "Weaver.coming_in" pF false) (aL:gB K (κ 21) cA):cI P w K mg base (κ 21) "coming_in" 1 2 false (gP K 2 (lH κ)):=by
 refine R.zA Fv (λ_ _ _ _ _ _ us hl=>match us,hl with | [_,_],_=>rfl) (λ_ _ _ _ _ _ _ hr=>?_)
 have dI:=hr.units
 have hu:=cL hr
 exact⟨_,aV (cB (Lg hu (cQ aL (aH (pv 0)) (by decide +kernel) rfl) (aH (pv 1)) ⟨rfl,rfl,rfl,rfl⟩))⟩
theorem Ds:aZ ["self", "box", "record", "needed"] ["self", "box", "record", "needed"] (aJ nW):=by walk_at "fs"
theorem Bb{κ:Nat→Addr}(R:dR K (κ 21) "write_tied" "Weaver.write_tied" nW false) (aL:gB K (κ 21) cA) (kI:cI P w K mg base (κ 21) "write" 4 4 false (spS K 4 (jY κ))) (pI:cI P w K mg base (κ 21) "coming_in" 1 2 false (gP K 2 (lH κ))):cI P w K mg base (κ 21) "write_tied" 5 4 false (spS K 4 (jZ κ)):=by
 refine R.Yd Ds (λ_ _ _ _ _ _ us hl=>match us,hl with | [_,_,_,_],_=>rfl) (λ_ _ _ _ _ _ _ hr=>?_)
 have dI:=hr.units
 have hu:=cL hr
 exact⟨_,aV (Ur (uM kI aL dF (hr.mono (by decide)) (iZ (pv 0)) (dW (aH (pv 1)) (dW (aH (pv 2)) (Xw (cO (nP (aF (XN.r (dM pI aL (hr.mono (by decide)) (aH (pv 0)) (aF (aH (pv 1)) aP))) aP)) (aH (pv 3))) jE)))))⟩
theorem Dt:aZ ["self", "box", "following", "needed", "record"] ["self", "box", "following", "needed"] (aJ wZ):=by walk_at "fs"
theorem Pb{κ:Nat→Addr}(R:dR K (κ 21) "link" "Weaver.link" wZ false) (aL:gB K (κ 21) cA) (bA:cI P w K mg base (κ 21) "record_of" 4 2 false (gP K 2 (aY κ))) (nZ:cI P w K mg base (κ 21) "write_tied" 5 4 false (spS K 4 (jZ κ))) (Vw:kJ mg "KEY" (0)) (aEx:kJ mg "WAS" (2)) (aEy:kJ mg "NOW" (3)) (aEz:kJ mg "AGE" (4)):cI P w K mg base (κ 21) "link" 6 4 false (spS K 4 (jO κ)):=by
 refine R.Yd Dt (λ_ _ _ _ _ _ us hl=>match us,hl with | [_,_,_,_],_=>rfl) (λ_ _ _ _ _ _ _ hr=>?_)
 have dI:=hr.units
 have hu:=cL hr
 exact⟨_,aO (bN (i:=4) (dM bA aL (hr.mono (by decide)) (aH (pv 0)) (aF (aH (pv 1)) aP)) (λh=>bH Dt.nd rfl (by first | exact E5 rfl | exact E4 rfl) h))
  (aV (Ur (uM nZ aL dF (hr.mono (by decide)) (iZ (pv 0)) (dW (aH (pv 1)) (dW (XN.r (rW (bF (XR.n (dU (aH (pv 4)) (XN.r (qJ Vw rfl)) (λ_ _=>rfl))) (bF (XR.n (aH (pv 2))) (bF (XR.n (dU (aH (pv 4)) (XN.r (qJ aEx rfl)) (λ_ _=>rfl))) (bF (XR.n (dU (aH (pv 4)) (XN.r (qJ aEy rfl)) (λ_ _=>rfl))) (bF (XR.n (dU (aH (pv 4)) (XN.r (qJ aEz rfl)) (λ_ _=>rfl))) iY))))))) (dW (aH (pv 3)) jE))))))⟩
theorem jR:aZ ["self", "needs", "further", "need"] ["self", "needs"] (aJ kY):=by walk_at "fs"
theorem vR{κ:Nat→Addr}(R:dR K (κ 21) "further_needs" "Weaver.further_needs" kY false) (bC:gB K (κ 20) gW) (aL:gB K (κ 21) cA) (eV:cI P w K mg base (κ 20) "check_change" 1 2 false (gP K 2 (eU κ))) (jH:mg "list" = none):cI P w K mg base (κ 21) "further_needs" 2 2 false (gP K 2 (cC κ)):=by
 refine R.zA jR (λ_ _ _ _ _ _ us hl=>match us,hl with | [_,_],_=>rfl) (λ_ _ _ _ _ _ _ hr=>?_)
 have dI:=hr.units
 have hu:=cL hr
 exact⟨_,aO (bN (i:=2) (aCl (gA cg qe (aH (pv 1)) (XN.r (Ka)) (eX _)) (wG iY) (Gm xY (xZ rfl) rfl jH K4 (aF (aH (pv 1)) aP))) (λh=>bH jR.nd rfl (by first | exact E5 rfl | exact E4 rfl) h))
  (aO (QQ PassesOwn.never rfl (pv 2) (mH (i:=3) jR.nd rfl (by first | exact E5 rfl | exact E4 rfl)) (aV (Cj (XN.r (dM eV bC (hr.mono (by decide)) (cQ aL (aH (pv 0)) (by decide +kernel) rfl) (aF (aH (pv 3)) aP))))))
  (aV (Ib (pv 2))))⟩
theorem Bc:aZ ["self", "box"] ["self", "box"] (aJ mY):=by walk_at "fs"
theorem zG{κ:Nat→Addr}(R:dR K (κ 21) "last_change" "Weaver.last_change" mY false) (aL:gB K (κ 21) cA):cI P w K mg base (κ 21) "last_change" 1 2 false (gP K 2 (jG κ)):=by
 refine R.zA Bc (λ_ _ _ _ _ _ us hl=>match us,hl with | [_,_],_=>rfl) (λ_ _ _ _ _ _ _ hr=>?_)
 have dI:=hr.units
 have hu:=cL hr
 exact⟨_,aV (cB (Lg hu (cQ aL (aH (pv 0)) (by decide +kernel) rfl) (aH (pv 1)) ⟨rfl,rfl,rfl,rfl⟩))⟩
theorem oO:aZ ["self", "box", "needs", "ahead", "needed", "going"] ["self", "box", "needs"] (aJ uT):=by walk_at "fs"
theorem Mw{κ:Nat→Addr}(R:dR K (κ 21) "leave" "Weaver.leave" uT true) (aL:gB K (κ 21) cA) (gK:cI P w K mg base (κ 21) "box_ahead" 1 2 false (gP K 2 (gJ κ))) (nC:cI P w K mg base (κ 21) "last_change" 1 2 false (gP K 2 (jG κ))) (dG:cI P w K mg base (κ 21) "further_needs" 2 2 false (gP K 2 (cC κ))) (lZ:cI P w K mg base (κ 21) "link" 6 4 false (spS K 4 (jO κ))) (bA:cI P w K mg base (κ 21) "record_of" 4 2 false (gP K 2 (aY κ))) (zP:kJ mg "NEXT" (1)):cI P w K mg base (κ 21) "leave" 7 3 true (spS K 3 (pU κ)):=by
 refine R.Yd oO (λT _ _ _ _ _ _ us=>⟨λhl=>match us,hl with | [_,_,_],_=>⟨_,rfl,rfl⟩,λhl=>match us,hl with | [_,_],_=>⟨_,rfl,rfl⟩⟩) (λ_ _ _ _ _ _ _ hr=>?_)
 have dI:=hr.units
 have hu:=cL hr
 exact⟨_,aO (bN (i:=3) (dM gK aL (hr.mono (by decide)) (aH (pv 0)) (aF (XN.r (ql (cQ aL (aH (pv 0)) (by decide +kernel) rfl) (aH (pv 1)) (λa b=>wB F7 PySem.F.slot_list_index PySem.F.type_list_index qi a (eO b kO)))) aP)) (λh=>bH oO.nd rfl (by first | exact E5 rfl | exact E4 rfl) h))
  (aO (bN (i:=4) (cO (nP (aF (XN.r (dM nC aL (hr.mono (by decide)) (aH (pv 0)) (aF (aH (pv 1)) aP))) aP)) (XN.r (dM dG aL (hr.mono (by decide)) (aH (pv 0)) (aF (aH (pv 2)) aP)))) (λh=>bH oO.nd rfl (by first | exact E5 rfl | exact E4 rfl) h))
  (aO (Ih (i:=5) (uM lZ aL dF (hr.mono (by decide)) (iZ (pv 0)) (dW (aH (pv 3)) (Xw (XR.n (dU (XN.r (dM bA aL (hr.mono (by decide)) (aH (pv 0)) (aF (aH (pv 1)) aP))) (XN.r (qJ zP rfl)) (λ_ _=>rfl))) (dW (aH (pv 4)) jE)))) (λh=>bH oO.nd rfl (by first | exact E5 rfl | exact E4 rfl) h))
  (aO (QV (qM aL (iZ (pv 0)) (by decide +kernel) rfl) (aH (pv 1)) (λa b=>mG (wB F7 W7 W8 Ri a (eO b kO))))
  (aO (Ut (qM aL (iZ (pv 0)) (by decide +kernel) rfl) (XR.n (aH (pv 1))) (λa b=>mG (wB F7 L9 M0 nG a (eO b kO))))
  (aO (Ld (qM aL (iZ (pv 0)) (by decide +kernel) rfl) (aH (pv 1)) (aH (pv 5)) (λa b c=>Bl hu a b c rfl))
  (aV (tU (pv 5))))))))⟩
theorem Du:aZ ["weaver", "cell", "keys", "key"] ["weaver", "cell"] (aJ Ir):=by walk_at "fs"
theorem ZC{κ:Nat→Addr}(R:Raw K mg "_law_key" Ir) (aL:gB K (κ 21) cA) (dC:cI P w K mg base (κ 21) "order" 1 1 false (gP K 1 (cZ κ))) (bA:cI P w K mg base (κ 21) "record_of" 4 2 false (gP K 2 (aY κ))):sW P w K mg base "_law_key" 5 2 (gP K 2 (yM κ)):=by
 refine R.Bw Du (λ_ _ _ _ _ _ us hl=>match us,hl with | [_,_],_=>rfl) (λ_ _ _ _ _ _ _ hr=>?_)
 have dI:=hr.units
 have hu:=cL hr
 exact⟨_,aO (PL (i:=2) ["box", "weaver"] [0] rfl (.at (aJ Ir) ["weaver", "cell", "keys", "key"] (by decide +kernel)) Du.nd rfl (by first | exact E5 rfl | exact E4 rfl) (wJ (XN.r (jN dC aL (hr.mono (by decide)) (aH (pv 0))))) (oE (by decide +kernel) rfl rfl) (λ_ _ _ _ _=>uK) (λ_ _ _ _ _=>XR.n (dU (XN.r (dM bA aL (hr.mono (by decide)) (aH (pv 1)) (aF (aH (pv 0)) aP))) (XN.r (aM)) (λ_ _=>rfl))))
  (aO (bN (i:=3) (cU (aH (pv 1)) (XN.r (Kc (XN.r (aM)) (XN.r (aM))))) (λh=>bH Du.nd rfl (by first | exact E5 rfl | exact E4 rfl) h))
  (aO (Kh 400 PassesOwn.never (gA (aFK rfl) (aCg false) (aH (pv 3)) (aH (pv 2)) (by with_unfolding_all rfl)) (aV (bN (i:=3) (cO (aH (pv 3)) (XN.r (aM))) (λh=>bH Du.nd rfl (by first | exact E5 rfl | exact E4 rfl) h))))
  (aV (Ib (pv 3)))))⟩
theorem Fw:aZ ["self", "box"] ["self", "box"] (aJ pG):=by walk_at "fs"
theorem Dv{κ:Nat→Addr}(R:dR K (κ 21) "going_out" "Weaver.going_out" pG false) (aL:gB K (κ 21) cA):cI P w K mg base (κ 21) "going_out" 1 2 false (gP K 2 (lJ κ)):=by
 refine R.zA Fw (λ_ _ _ _ _ _ us hl=>match us,hl with | [_,_],_=>rfl) (λ_ _ _ _ _ _ _ hr=>?_)
 have dI:=hr.units
 have hu:=cL hr
 exact⟨_,aV (cB (Lg hu (cQ aL (aH (pv 0)) (by decide +kernel) rfl) (aH (pv 1)) ⟨rfl,rfl,rfl,rfl⟩))⟩
theorem fU:aZ ["self", "key", "was", "now", "age", "needs", "further", "place", "ahead", "box", "filled", "coming"] ["self", "key", "was", "now", "age", "needs"] (aJ mZ):=by walk_at "fs"
theorem Mx{κ:Nat→Addr}(R:dR K (κ 21) "enter" "Weaver.enter" mZ true) (aL:gB K (κ 21) cA) (dG:cI P w K mg base (κ 21) "further_needs" 2 2 false (gP K 2 (cC κ))) (bA:cI P w K mg base (κ 21) "record_of" 4 2 false (gP K 2 (aY κ))) (gK:cI P w K mg base (κ 21) "box_ahead" 1 2 false (gP K 2 (gJ κ))) (kI:cI P w K mg base (κ 21) "write" 4 4 false (spS K 4 (jY κ))) (pJ:cI P w K mg base (κ 21) "going_out" 1 2 false (gP K 2 (lJ κ))) (lZ:cI P w K mg base (κ 21) "link" 6 4 false (spS K 4 (jO κ))) (jC:mg "len" = none) (aEA:mg "min" = none) (Vw:kJ mg "KEY" (0)) (zP:kJ mg "NEXT" (1)):cI P w K mg base (κ 21) "enter" 7 6 true (spS K 6 (iK κ)):=by
 refine R.Yd fU (λT _ _ _ _ _ _ us=>⟨λhl=>match us,hl with | [_,_,_,_,_,_],_=>⟨_,rfl,rfl⟩,λhl=>match us,hl with | [_,_,_,_,_],_=>⟨_,rfl,rfl⟩⟩) (λ_ _ _ _ _ _ _ hr=>?_)
 have dI:=hr.units
 have hu:=cL hr
 exact⟨_,aO (pL (gA (or_eq dI rfl) zM (XN.r (mK lM (lN rfl) rfl jC G5 (aF (cQ aL (aH (pv 0)) (by decide +kernel) rfl) aP))) (XN.r (aM)) (eX _)) (aV (Uo)) iJ)
  (aO (bN (i:=6) (dM dG aL (hr.mono (by decide)) (aH (pv 0)) (aF (aH (pv 5)) aP)) (λh=>bH fU.nd rfl (by first | exact E5 rfl | exact E4 rfl) h))
  (aO (bN (i:=7) (mK lM (lN rfl) rfl jC G5 (aF (XN.r (rG ["box", "self", "key"] [0,1] rfl (.at (aJ mZ) ["self", "key", "was", "now", "age", "needs", "further", "place", "ahead", "box", "filled", "coming"] (by decide +kernel)) (wJ (cQ aL (aH (pv 0)) (by decide +kernel) rfl)) (oE (by decide +kernel) rfl rfl) (λ_ _ _ _ _=>Uk (gA Ws uI (dU (XN.r (dM bA aL (hr.mono (by decide)) (aH (pv 1)) (aF (aH (pv 0)) aP))) (XN.r (qJ Vw rfl)) (λ_ _=>rfl)) (aH (pv 2)) (eX _))) (λ_ _ _ _ _=>XR.n (aH (pv 0))))) aP)) (λh=>bH fU.nd rfl (by first | exact E5 rfl | exact E4 rfl) h))
  (aO (bN (i:=8) (dM gK aL (hr.mono (by decide)) (aH (pv 0)) (aF (aH (pv 7)) aP)) (λh=>bH fU.nd rfl (by first | exact E5 rfl | exact E4 rfl) h))
  (aO (bN (i:=9) (mK aA5 (aA6 rfl) rfl aEA PyProof.Rows.boot_min (aF (cQ aL (aH (pv 0)) (by decide +kernel) rfl) aP)) (λh=>bH fU.nd rfl (by first | exact E5 rfl | exact E4 rfl) h))
  (aO (Ih (i:=10) (uM kI aL dF (hr.mono (by decide)) (iZ (pv 0)) (dW (aH (pv 9)) (Xw (rW (bF (XR.n (aH (pv 1))) (bF (XR.n (dU (XN.r (dM bA aL (hr.mono (by decide)) (aH (pv 0)) (aF (aH (pv 8)) aP))) (XN.r (qJ zP rfl)) (λ_ _=>rfl))) (bF (XR.n (aH (pv 2))) (bF (XR.n (aH (pv 3))) (bF (XR.n (aH (pv 4))) iY)))))) (Xw (wG (bF (dM pJ aL (hr.mono (by decide)) (aH (pv 0)) (aF (aH (pv 9)) aP)) iY)) jE)))) (λh=>bH fU.nd rfl (by first | exact E5 rfl | exact E4 rfl) h))
  (aO (Ih (i:=11) (uM lZ aL dF (hr.mono (by decide)) (iZ (pv 0)) (dW (aH (pv 8)) (dW (aH (pv 9)) (dW (XN.r (cO (nP (aF (aH (pv 10)) aP)) (aH (pv 6)))) jE)))) (λh=>bH fU.nd rfl (by first | exact E5 rfl | exact E4 rfl) h))
  (aO (aBx (qM aL (iZ (pv 0)) (by decide +kernel) rfl) (aH (pv 7)) (aH (pv 9)) (λa b c=>mG (wB F7 PySem.F.slot_list_insert PySem.F.type_list_insert YC a (eO b (eO c kO)))))
  (aO (QV (qM aL (iZ (pv 0)) (by decide +kernel) rfl) (aH (pv 9)) (λa b=>mG (wB F7 W7 W8 Ri a (eO b kO))))
  (aO (Ld (qM aL (iZ (pv 0)) (by decide +kernel) rfl) (aH (pv 9)) (aH (pv 11)) (λa b c=>Bl hu a b c rfl))
  (aV (Ur (aBw (rW (bF (XR.n (aH (pv 9))) (bF (XR.n (aH (pv 11))) iY)))))))))))))))⟩
theorem Hq{κ:Nat→Addr}(R:dR K (κ 21) "enter" "Weaver.enter" mZ true) (aL:gB K (κ 21) cA) (My:Yr K mg "Full" (κ 3)) (jC:mg "len" = none):Yo P w K mg base (κ 21) "enter" 1 6 true (spR K κ 6 (dY κ)):=by
 refine R.aHE fU (λT _ _ _ _ _ _ us=>⟨λhl=>match us,hl with | [_,_,_,_,_,_],_=>⟨_,rfl,rfl⟩,λhl=>match us,hl with | [_,_,_,_,_],_=>⟨_,rfl,rfl⟩⟩) (λ_ _ _ _ _ _ _ hr=>?_)
 have dI:=hr.units
 have hu:=cL hr
 exact⟨_,Rk (aGa (gA (or_eq dI rfl) zM (XN.r (mK lM (lN rfl) rfl jC G5 (aF (cQ aL (aH (pv 0)) (by decide +kernel) rfl) aP))) (XN.r (aM)) (eX _)) (Rk (qw My rfl (aF (XN.r (pA)) aP))) (aEc))⟩
theorem mC:aZ ["weaver", "key", "way", "word", "e"] ["weaver", "key", "way"] (aJ Mj):=by walk_at "fs"
theorem JN{κ:Nat→Addr}(R:Raw K mg "_law_word" Mj) (aL:gB K (κ 21) cA) (nD:cI P w K mg base (κ 21) "enter" 7 6 true (spS K 6 (iK κ))) (nF:Yo P w K mg base (κ 21) "enter" 1 6 true (spR K κ 6 (dY κ))) (My:Yr K mg "Full" (κ 3)) (Fx:Yr K mg "NoChange" (κ 2)) (Mz:Yr K mg "NoPlace" (κ 1)) (xH:Yr K mg "StoneError" (κ 0)) (XM:∀i j,i<4→j<4→B9 K (.ref (κ i)) (.ref (κ j))=some (Ly i j)) (XV:∀i,i<4→R8 K (.ref (κ i)) (.type "ValueError")=some true) (xJ:mg "isinstance" = none) (xK:mg "ValueError" = none) (aEB:mg "int" = none):sW P w K mg base "_law_word" 8 3 (spS K 3 (lB κ)):=by
 refine R.Yd mC (λ_ _ _ _ _ _ us hl=>match us,hl with | [_,_,_],_=>rfl) (λ_ _ _ _ _ _ _ hr=>?_)
 have dI:=hr.units
 have hu:=cL hr
 exact⟨_,aO (bN (i:=3) (pA) (λh=>bH mC.nd rfl (by first | exact E5 rfl | exact E4 rfl) h))
  (aO (pL (gA (or_eq dI rfl) zM (aH (pv 2)) (XN.r (aM)) (eX _)) (aO (HY (n:=4) (sub:=Ly) XM (λpn=>⟨_,aV (Ca (Kv nD aL dF (hr.mono (by decide)) (iZ (pv 0)) (dW (aH (pv 1)) (dW (XN.r (oG (XN.r (aM)))) (dW (XN.r (aM)) (dW (XN.r (aM)) jE))))))⟩) (λpn Ex E=>⟨_,Uz (Yq nF Uy aL (hr.mono (by decide)) (aH (pv 0)) (aF (aH (pv 1)) (aF (XN.r (oG (XN.r (aM)))) (aF (XN.r (aM)) (aF (XN.r (aM)) aP)))))⟩) (.cons Mz.mg rfl (by decide) (λpn e=>⟨_,aV (bN (i:=3) (pA) (λh=>bH mC.nd rfl (by first | exact E5 rfl | exact E4 rfl) h))⟩) (.cons Fx.mg rfl (by decide) (λpn e=>⟨_,aV (bN (i:=3) (pA) (λh=>bH mC.nd rfl (by first | exact E5 rfl | exact E4 rfl) h))⟩) (.cons My.mg rfl (by decide) (λpn e=>⟨_,aV (bN (i:=3) (pA) (λh=>bH mC.nd rfl (by first | exact E5 rfl | exact E4 rfl) h))⟩) (.nil)))))
  (aV (tU (pv 3)))) iJ)
  (aO (pL (gA (or_eq dI rfl) zM (aH (pv 2)) (XN.r (aM)) (eX _)) (aO (HY (n:=4) (sub:=Ly) XM (λpn=>⟨_,aV (Ca (uM nD aL dF (hr.mono (by decide)) (iZ (pv 0)) (dW (aH (pv 1)) (dW (XN.r (oG (XN.r (aM)))) (dW (XN.r (aM)) (dW (XN.r (aM)) (dW (nP aP) jE)))))))⟩) (λpn Ex E=>⟨_,Uz (aBB nF Uy aL (hr.mono (by decide)) (aH (pv 0)) (aF (aH (pv 1)) (aF (XN.r (oG (XN.r (aM)))) (aF (XN.r (aM)) (aF (XN.r (aM)) (aF (nP aP) aP))))))⟩) (.cons My.mg rfl (by decide) (λpn e=>⟨_,aV (bN (i:=3) (pA) (λh=>bH mC.nd rfl (by first | exact E5 rfl | exact E4 rfl) h))⟩) (.nil)))
  (aV (tU (pv 3)))) iJ)
  (aO (HY (n:=4) (sub:=Ly) XM (λpn=>⟨_,aV (Ca (Kv nD aL dF (hr.mono (by decide)) (iZ (pv 0)) (dW (aH (pv 1)) (dW (XN.r (oG (XN.r (aM)))) (dW (XN.r (aM)) (dW (XN.r (aM)) jE))))))⟩) (λpn Ex E=>⟨_,Uz (Yq nF Uy aL (hr.mono (by decide)) (aH (pv 0)) (aF (aH (pv 1)) (aF (XN.r (oG (XN.r (aM)))) (aF (XN.r (aM)) (aF (XN.r (aM)) aP)))))⟩) (.as (k:=4) xH.mg rfl (by decide) mC.nd rfl rfl (λpn e oe i hi hc hm=>⟨_,aEg (i:=3) (aBD (j:=1) (wG (bF (pA) (bF (pA) iY))) (aEi (aEh (pv 4) (aAo (v:=.ty "ValueError") rfl xK rfl rfl) (aEf rfl hm hc (XV i hi)) rfl xJ) rfl aEB) (λ_ _=>rfl) rfl rfl rfl rfl) (λh=>bH mC.nd rfl (by first | exact E5 rfl | exact E4 rfl) h)⟩) (.nil)))
  (aV (tU (pv 3))))))⟩
theorem zQ:aZ ["self", "key", "box"] ["self", "key"] (aJ uU):=by walk_at "fs"
theorem Nb{κ:Nat→Addr}(R:dR K (κ 21) "box_of" "Weaver.box_of" uU false) (aL:gB K (κ 21) cA) (bA:cI P w K mg base (κ 21) "record_of" 4 2 false (gP K 2 (aY κ))) (Vw:kJ mg "KEY" (0)):cI P w K mg base (κ 21) "box_of" 5 2 false (gP K 2 (nA κ)):=by
 refine R.zA zQ (λ_ _ _ _ _ _ us hl=>match us,hl with | [_,_],_=>rfl) (λ_ _ _ _ _ _ _ hr=>?_)
 have dI:=hr.units
 have hu:=cL hr
 exact⟨_,aO (jt [] PassesOwn.never rfl (wJ (cQ aL (aH (pv 0)) (by decide +kernel) rfl)) (mH (i:=2) zQ.nd rfl (by first | exact E5 rfl | exact E4 rfl)) (aV (pL (gA (or_eq dI rfl) zM (dU (XN.r (dM bA aL (hr.mono (by decide)) (aH (pv 0)) (aF (aH (pv 2)) aP))) (XN.r (qJ Vw rfl)) (λ_ _=>rfl)) (aH (pv 1)) (eX _)) (aV (Ib (pv 2))) iJ)))
  (aV (cB (Ka)))⟩
theorem zR:aZ ["script", "stone", "weaver", "k", "before", "step", "key", "box", "gone"] ["script"] (aJ aEt):=by walk_at "fs"
theorem aEC{κ:Nat→Addr}{f:Addr}{fd:FuncData}(F:Fun K "law" "law" aEt f fd) (aL:gB K (κ 21) cA) (Fy:sW P w K mg base "_law_built" 3 1 (gP K 1 tY)) (xM:XH P w K mg base "Weaver" (κ 21) 5 2 (spS K 2 (rP κ))) (jQ:cI P w K mg base (κ 21) "free" 1 1 false (gP K 1 (iG κ))) (uC:sW P w K mg base "_law_word" 8 3 (spS K 3 (lB κ))) (dZ:sW P w K mg base "_law_cell" 1 2 (gP K 2 cH)) (Iu:sW P w K mg base "_law_key" 5 2 (gP K 2 (yM κ))) (Dw:sW P w K mg base "_law_shot" 2 1 (gP K 1 (wY κ))) (dC:cI P w K mg base (κ 21) "order" 1 1 false (gP K 1 (cZ κ))) (bA:cI P w K mg base (κ 21) "record_of" 4 2 false (gP K 2 (aY κ))) (uY:cI P w K mg base (κ 21) "leave" 7 3 true (spS K 3 (pU κ))) (pX:cI P w K mg base (κ 21) "box_of" 5 2 false (gP K 2 (nA κ))) (jP:mg "range" = none) (jC:mg "len" = none) (aD0:∀ns:List Int,ns.length≤63→(∀k∈ns,Small k)→aEu κ [.lst (ns.map D.int)]=some (.bl true)):sZ P w K mg base Wg 9 f fd ["script"] (spB K):=by
 refine F.okB zR (λcdv A outer s H E hr=>?_) aD0
 have dI:=hr.units
 have hu:=cL hr
 exact⟨_,aO (bN (i:=1) (bY Fy (hr.mono (by decide)) rfl (aF (aH (pv 0)) aP)) (λh=>bH zR.nd rfl (by first | exact E5 rfl | exact E4 rfl) h))
  (aO (bN (i:=2) (QK xM dF (hr.mono (by decide)) rfl (aF (aH (pv 1)) aP)) (λh=>bH zR.nd rfl (by first | exact E5 rfl | exact E4 rfl) h))
  (aO (bN (i:=3) aM (λh=>bH zR.nd rfl (by first | exact E5 rfl | exact E4 rfl) h))
  (aO (Kh 400 PassesOwn.never (gA (Gk dI rfl) Gj (XN.r (jN jQ aL (hr.mono (by decide)) (aH (pv 2)))) (nP aP) (eX _)) (aO (pL (gA aFu uI (aH (pv 3)) (XN.r (aM)) (eX _)) (aV (cB (Jz))) iJ)
  (aO (HJ (Uq (Gk dI rfl) Gj (Up uC dF (hr.mono (by decide)) rfl (pv 2) (Xw (bY Iu (hr.mono (by decide)) rfl (aF (aH (pv 2)) (aF (XN.r (qF (XN.r (bY dZ (hr.mono (by decide)) rfl (aF (aH (pv 0)) (aF (aH (pv 3)) aP)))) (XN.r (aM)))) aP))) (dW (XN.r (cU (XN.r (bY dZ (hr.mono (by decide)) rfl (aF (aH (pv 0)) (aF (aH (pv 3)) aP)))) (XN.r (aM)))) jE))) (XN.r (pA)) (eX _)) (aV (cB (Jz))) iJ)
  (aV (bN (i:=3) (cO (aH (pv 3)) (XN.r (aM))) (λh=>bH zR.nd rfl (by first | exact E5 rfl | exact E4 rfl) h))))))
  (aO (bN (i:=4) (bY Dw (hr.mono (by decide)) rfl (aF (aH (pv 2)) aP)) (λh=>bH zR.nd rfl (by first | exact E5 rfl | exact E4 rfl) h))
  (aO (Ie PassesOwn.never rfl (yE rfl jP (aF (XN.r (aM)) aP)) (mH (i:=5) zR.nd rfl (by first | exact E5 rfl | exact E4 rfl)) (aO (bN (i:=6) (bY Iu (hr.mono (by decide)) rfl (aF (aH (pv 2)) (aF (XN.r (qF (XN.r (bY dZ (hr.mono (by decide)) rfl (aF (aH (pv 0)) (aF (XN.r (cO (aH (pv 3)) (aH (pv 5)))) aP)))) (XN.r (aM)))) aP))) (λh=>bH zR.nd rfl (by first | exact E5 rfl | exact E4 rfl) h))
  (aV (HJ (XWM.xt (nj (Uq (Gk dI rfl) Gj (Up uC dF (hr.mono (by decide)) rfl (pv 2) (dW (aH (pv 6)) (dW (XN.r (cU (XN.r (bY dZ (hr.mono (by decide)) rfl (aF (aH (pv 0)) (aF (XN.r (cO (aH (pv 3)) (aH (pv 5)))) aP)))) (XN.r (aM)))) jE))) (XN.r (pA)) (eX _)) (QL (aCz (gA (Gk dI rfl) Gj (XN.r (bY Dw (hr.mono (by decide)) rfl (aF (aH (pv 2)) aP))) (aH (pv 4)) (eX _)))))) (aV (cB (Jz))) iJ))))
  (aO (pL (gA (or_eq dI rfl) zM (XN.r (jN dC aL (hr.mono (by decide)) (aH (pv 2)))) (nP aP) (eX _)) (aV (cB (Jz))) iJ)
  (aO (bN (i:=7) (XR.n (dU (XN.r (jN dC aL (hr.mono (by decide)) (aH (pv 2)))) (XN.r (cU (XN.r (bY dZ (hr.mono (by decide)) rfl (aF (aH (pv 0)) (aF (XN.r (aM)) aP)))) (XN.r (mK lM (lN rfl) rfl jC G5 (aF (XN.r (jN dC aL (hr.mono (by decide)) (aH (pv 2)))) aP))))) (λ_ _=>rfl))) (λh=>bH zR.nd rfl (by first | exact E5 rfl | exact E4 rfl) h))
  (aO (bN (i:=8) (XR.n (dU (XN.r (dM bA aL (hr.mono (by decide)) (aH (pv 2)) (aF (aH (pv 7)) aP))) (XN.r (aM)) (λ_ _=>rfl))) (λh=>bH zR.nd rfl (by first | exact E5 rfl | exact E4 rfl) h))
  (aO (Ca (Kv uY aL dF (hr.mono (by decide)) (iZ (pv 2)) (dW (aH (pv 7)) jE)))
  (aO (HJ (XWM.xt (nj (aCz (gA (Gk dI rfl) Gj (XN.r (jN jQ aL (hr.mono (by decide)) (aH (pv 2)))) (nP (aF (aH (pv 7)) aP)) (eX _))) (QL (Uq (Gk dI rfl) Gj (Up uC dF (hr.mono (by decide)) rfl (pv 2) (dW (aH (pv 6)) (dW (XN.r (cU (XN.r (bY dZ (hr.mono (by decide)) rfl (aF (aH (pv 0)) (aF (XN.r (aM)) aP)))) (XN.r (aM)))) jE))) (XN.r (pA)) (eX _))))) (aV (cB (Jz))) iJ)
  (aO (pL (XW.xt (aFM (gA (Gk dI rfl) Gj (XN.r (dM pX aL (hr.mono (by decide)) (aH (pv 2)) (aF (aH (pv 6)) aP))) (aH (pv 7)) (eX _)) (aDJ (gA KY Rh (XN.r (dM pX aL (hr.mono (by decide)) (aH (pv 2)) (aF (aH (pv 8)) aP))) (XN.r (Ka)) (eX _))))) (aV (cB (Jz))) iJ)
  (aV (nq (aD5 (or_eq dI rfl) zM (Up uC dF (hr.mono (by decide)) rfl (pv 2) (dW (aH (pv 8)) (dW (XN.r (cU (XN.r (bY dZ (hr.mono (by decide)) rfl (aF (aH (pv 0)) (aF (XN.r (aM)) aP)))) (XN.r (aM)))) jE))) (XN.r (pA)) (eX _)))))))))))))))⟩
end
end Rs

namespace Rs
open PySem L2
local macro_rules | `(tactic| walk_at "lt")=>`(tactic| exact Nat.le_of_ble_eq_true rfl)
local macro_rules | `(tactic| walk_at "sc")=>`(tactic| first | omega | with_reducible assumption | exact Y2 (by decide) | exact Eu (by omega) (by omega) | exact cm_r (by omega) (by omega))
local macro_rules | `(tactic| walk_at "op")=>`(tactic| first | with_reducible assumption | with_reducible exact bT _ _ | with_reducible exact Cv _ _ | with_reducible exact lF _ _ | with_reducible exact yI _ _ | with_reducible exact Il _ _ | with_reducible exact Va _ _ | with_reducible exact dGe_int _ _ | with_reducible exact Vb _ _ | with_reducible exact nQ _ | with_reducible exact Lj _ | with_reducible exact dLen_tup _ | ((with_reducible apply gM);walk_at "sc") | ((with_reducible apply bM);walk_at "sc") | ((with_reducible apply iR);(walk_at "sc");walk_at "sc") | ((with_reducible apply wO);exact⟨by decide,by decide,by omega⟩) | ((with_reducible apply oV);(walk_at "sc");walk_at "sc"))
local macro_rules | `(tactic| walk_at "ea")=>`(tactic| first | with_reducible exact tu | ((with_reducible apply aA);(walk_at "ev");walk_at "ea"))
local macro_rules | `(tactic| walk_at "ev")=>`(tactic| first | ((with_reducible apply Im);exact rfl) | with_reducible exact aGh | with_reducible assumption | ((with_reducible apply aQ);(walk_at "ev");(walk_at "ev");walk_at "op") | ((with_reducible apply gR);(walk_at "ea");walk_at "op") | ((with_reducible apply bK);(walk_at "ea");exact rfl;with_reducible assumption) | ((with_reducible apply bJ);(walk_at "ev");exact rfl) | ((with_reducible apply mU);walk_at "ev") | ((with_reducible apply oH);(walk_at "ea");walk_at "lt") | ((with_reducible apply gO);(walk_at "ea");walk_at "lt"))
local macro_rules | `(tactic| walk_at "et")=>`(tactic| first | ((with_reducible apply Ik);walk_at "et") | ((with_reducible apply su);(walk_at "et");walk_at "et") | ((with_reducible apply fAnd_ok);(walk_at "et");walk_at "et") | ((with_reducible apply fQ);walk_at "ev"))
local macro_rules | `(tactic| walk_at "set")=>`(tactic| (apply sr;(walk_at "ev");(walk_at "lt")))
local macro_rules | `(tactic| walk_at "q")=>`(tactic| (apply eQ;(walk_at "ev");(walk_at "lt")))
local macro_rules | `(tactic| walk_at "op")=>`(tactic| first | with_reducible assumption | with_reducible exact bT _ _ | with_reducible exact Cv _ _ | with_reducible exact lF _ _ | with_reducible exact yI _ _ | with_reducible exact Il _ _ | with_reducible exact Va _ _ | with_reducible exact dGe_int _ _ | with_reducible exact Vb _ _ | with_reducible exact nQ _ | with_reducible exact Vf _ | with_reducible exact dInD_T _ _ _ | with_reducible exact dMin2_int _ _ | with_reducible exact dMax2_int _ _ | with_reducible exact dIntB_bl _ | with_reducible exact ix_pane _ | with_reducible exact ix_place _ | with_reducible exact Yx _ | with_reducible exact ix_needs _ | ((with_reducible apply ug);omega) | with_reducible exact Lj _ | with_reducible exact dLen_tup _ | ((with_reducible apply gM);walk_at "sc") | ((with_reducible apply dMulB_int);(walk_at "sc");walk_at "sc") | ((with_reducible apply bM);walk_at "sc") | ((with_reducible apply iR);(walk_at "sc");walk_at "sc") | ((with_reducible apply wO);exact⟨by decide,by decide,by omega⟩) | ((with_reducible apply oV);(walk_at "sc");walk_at "sc"))
def vJ(cs:List vG)(l:List Int)(mV:Int):List Int:=((D5 cs.length).filter λk=>decide ((at_ cs k).mV=mV)&&!decide ((k:Int)∈l)).map λk=>((k:Nat):Int)
theorem uw(cs:List vG)(l:List Int)(mV:Int):(vJ cs l mV).length≤cs.length:=by
 unfold vJ
 rw[B8]
 exact F5 (Y8 _ _) (by rw[E6];exact C8 _)
def Nums(cs:List vG)(ks:List Int):Prop:=ks.Nodup∧∀x∈ks,0≤x∧x<(cs.length:Int)
structure Bn where
 gF:List (List (List Int))
 asked:List vG
 held:List Int
 nk:List (Int×Int)
 nv:List Int
def sU(p:Int×Int):List Key:=[.inl p.1,.inl p.2]
theorem Dy{a b:Int×Int}(h:sU a=sU b):a=b:=by
 unfold sU at h
 injection h with h1 h2
 injection h2 with h2 _
 injection h1 with h1
 injection h2 with h2
 exact l3 h1 h2
def gC(p:List (List Int)):D:=.lst (p.map dTup)
def kZ(ps:List (List (List Int))):D:=.lst (ps.map gC)
def Nf(n:Nat)(cs:List vG)(l:List Int):List D:=(D5 n).map λp=>aN (vJ cs l ((p:Nat):Int))
def Wi:List Str:=["panes", "asked", "newest", "held", "unsettled"]
def gG(C:Addr)(a b c d e:D):D:=.ins C Wi [a,b,c,d,e]
def uZ(C:Addr)(b:Bn)(e:List D):D:=gG C (kZ b.gF) (zB b.asked) (.dt (b.nk.map sU) (b.nv.map D.int)) (dkT b.held) (.lst e)
def dD(C:Addr)(b:Bn):D:=uZ C b (Nf b.gF.length b.asked b.held)
theorem ZD:posK Wi "panes" = some 0:=by decide +kernel
theorem Fz:posK Wi "asked" = some 1:=by decide +kernel
theorem Bd:posK Wi "newest" = some 2:=by decide +kernel
theorem ux:posK Wi "held" = some 3:=by decide +kernel
theorem RJ:posK Wi "unsettled" = some 4:=by decide +kernel
section
variable{C:Addr}{a b c d e x:D}
theorem yP:dX C "panes" (gG C a b c d e)=some a:=by unfold dX gG;dsimp only;rw[if_pos rfl,ZD];rfl
theorem yQ:dX C "asked" (gG C a b c d e)=some b:=by unfold dX gG;dsimp only;rw[if_pos rfl,Fz];rfl
theorem Be:dX C "newest" (gG C a b c d e)=some c:=by unfold dX gG;dsimp only;rw[if_pos rfl,Bd];rfl
theorem uy:dX C "held" (gG C a b c d e)=some d:=by unfold dX gG;dsimp only;rw[if_pos rfl,ux];rfl
theorem xN{s:L2.Step}{d x:D}{j:Nat}(h1:yZ s d=some j)(h2:(kids d)[j]?=some x):fD [s] d=some x:=by unfold fD;rw[h1,B7,h2];rfl
theorem uD{s:L2.Step}{d x y:D}{j:Nat}(h1:yZ s d=some j)(h2:(kids d)[j]?=some y):eN [s] d x=Bu d ((kids d).set j x):=by
 show (match yZ s d with | some j=>_ | none=>_)=_
 rw[h1]
 show (match (kids d)[j]? with | some c=>_ | none=>_)=_
 rw[h2]
 rfl
theorem ZF{s:L2.Step}{p:List L2.Step}{d y:D}(h:fD [s] d=some y):fD (s::p) d=fD p y:=by
 show ((yZ s d).bind λj=>((kids d)[j]?).bind (fD p))=fD p y
 unfold fD at h
 obtain⟨j,h1,h2⟩:=aX h
 obtain⟨z,h3,h4⟩:=aX h2
 unfold fD at h4
 cases h4
 rw[h1,B7,h3,B7]
theorem ZG{s:L2.Step}{p:List L2.Step}{d y x:D}(h:fD [s] d=some y):eN (s::p) d x=eN [s] d (eN p y x):=by
 unfold fD at h
 obtain⟨j,h1,h2⟩:=aX h
 obtain⟨z,h3,h4⟩:=aX h2
 unfold fD at h4
 cases h4
 rw[uD h1 h3]
 show (match yZ s d with | some j=>_ | none=>_)=_
 rw[h1]
 show (match (kids d)[j]? with | some c=>_ | none=>_)=_
 rw[h3]
theorem Ga{f:Str}{j:Nat}(h:posK Wi f=some j):yZ (.fld C f) (gG C a b c d e)=some j:=by
 show (if C=C then posK Wi f else none)=some j
 rw[if_pos rfl]
 exact h
theorem ZJ:fD [.fld C "asked"] (gG C a b c d e)=some b:=xN (Ga Fz) rfl
theorem JP:fD [.fld C "newest"] (gG C a b c d e)=some c:=xN (Ga Bd) rfl
theorem RK:fD [.fld C "unsettled"] (gG C a b c d e)=some e:=xN (Ga RJ) rfl
theorem ZK:eN [.fld C "asked"] (gG C a b c d e) x=gG C a x c d e:=uD (Ga Fz) (y:=b) rfl
theorem JQ:eN [.fld C "newest"] (gG C a b c d e) x=gG C a b x d e:=uD (Ga Bd) (y:=c) rfl
theorem aBL:eN [.fld C "unsettled"] (gG C a b c d e) x=gG C a b c d x:=uD (Ga RJ) (y:=e) rfl
theorem uz{xs:List D}{k:Nat}(h:xs[k]?=some x):fD [.ix k] (.lst xs)=some x:=xN (s:=.ix k) (d:=.lst xs) (j:=k) rfl h
theorem vd{xs:List D}{k:Nat}{y:D}(h:xs[k]?=some y):eN [.ix k] (.lst xs) x=.lst (xs.set k x):=uD (s:=.ix k) (d:=.lst xs) (j:=k) rfl h
end
theorem aED{π:FP}{g:FE}{e:DE}{p:List L2.Step}{k:Int}(h1:π e=some p)(h2:g e=some (.int k))(h3:0≤k):WK π g e=some (p++[.ix k.toNat]):=by
 unfold WK
 rw[h1,B7,h2,B7]
 dsimp only
 rw[if_pos h3]
theorem qW{env:EN}{i:Nat}{d0 d:D}{ds:List D}{π:FP}{p:List L2.Step}{f:FE}{C:Addr}{nm:List Str}{x:Str}(h1:env[i]?=some (.own d0))(h2:π (rE env)=some p)(h3:fD p d0=some (.ins C nm ds))(h4:f (rE env)=some d)(hl:nm.length<900)(hx:posK nm x=none):tR C i π x f env=.next (env.set i (.own (eN p d0 (.ins C (nm++[x]) (ds++[d]))))):=by
 rw[aEq h1 h2 h3 h4 hl]
 unfold Rb
 rw[hx]
def lastAt(cs:List vG)(p q:Int):Option Int:=((D5 cs.length).filter λk=>decide ((at_ cs k).mV=p∧(at_ cs k).place=q)).getLast?.map λk=>((k:Nat):Int)
theorem xO(cs:List vG)(c:vG)(p q:Int):lastAt (cs++[c]) p q=if c.mV=p∧c.place=q then some (cs.length:Int)else lastAt cs p q:=by
 unfold lastAt
 have e:(D5 cs.length).filter (λk=>decide ((at_ (cs++[c]) k).mV=p∧(at_ (cs++[c]) k).place=q))=(D5 cs.length).filter λk=>decide ((at_ cs k).mV=p∧(at_ cs k).place=q):=d9 λk hk=>by rw[qP (J8.mp hk)]
 rw[D4,show cs.length+[c].length=cs.length+1 from rfl,i6,U9,e]
 by_cases h:c.mV=p∧c.place=q
 ·rw[if_pos h,X1 (by rw[uO];exact decide_eq_true h),X8,List.getLast?_concat]
  rfl
 ·rw[if_neg h,X2 (by rw[uO];simpa using h),X8,G0]
theorem yR{cs:List vG}{p q k:Int}(h:lastAt cs p q=some k):0≤k∧k<(cs.length:Int)∧(at_ cs k.toNat).mV=p∧(at_ cs k.toNat).place=q:=by
 unfold lastAt at h
 obtain⟨j,h1,rfl⟩:=mF h
 have hm:=List.mem_of_getLast? h1
 obtain⟨m1,m2⟩:=T2.mp hm
 have:=J8.mp m1
 have m2:=of_decide_eq_true m2
 rw[D9]
 exact⟨by omega,by omega,m2⟩
theorem uE{α β:Type} [DecidableEq α] [DecidableEq β] {φ:α→β} (hi:∀a b,φ a=φ b→a=b) (k:α):∀ks:List α,posK (ks.map φ) (φ k)=posK ks k
 | []=>rfl
 | a::ks=>by
  rw[D2]
  unfold posK
  rw[uE hi k ks]
  by_cases c:a=k
  ·rw[if_pos c,if_pos (by rw[c])]
  ·rw[if_neg c,if_neg λz=>c (hi _ _ z)]
theorem Zr{α β:Type} [DecidableEq α] [DecidableEq β] {φ:α→β} (hi:∀a b,φ a=φ b→a=b) (k:α) (ks:List α):kW (ks.map φ) (φ k)=(kW ks k).map φ:=by
 unfold kW
 rw[uE hi]
 split
 ·rfl
 ·rw[K3];rfl
theorem Zt{α β γ δ:Type} [DecidableEq α] [DecidableEq β] {φ:α→β} (hi:∀a b,φ a=φ b→a=b) (ψ:γ→δ) (k:α) (ks:List α) (ds:List γ) (d:γ):putD (ks.map φ) (ds.map ψ) (φ k) (ψ d)=(putD ks ds k d).map ψ:=by
 unfold putD
 rw[uE hi]
 split
 ·rw[List.zipWith_map,List.map_zipWith]
  congr 1
  funext a b
  by_cases c:a=k
  ·rw[if_pos c,if_pos (by rw[c])]
  ·rw[if_neg c,if_neg λz=>c (hi _ _ z)]
 ·rw[K3];rfl
theorem aEE{α β:Type} [DecidableEq α] {ks:List α} {ds:List β} {k k':α} {d:β} {j:Nat} (h:posK ks k'=some j) (hl:ks.length=ds.length):(R3 (λa b=>if a=k then d else b) ks ds)[j]?=if k'=k then some d else ds[j]?:=by
 obtain⟨h1,h2⟩:=pP h
 rw[List.getElem?_zipWith,h2,B6 (by omega)]
 show some (if k'=k then d else ds[j])=_
 split<;>rfl
theorem vA{α β:Type} [DecidableEq α] {k k':α} {d:β}:∀{ks:List α} {ds:List β},ks.length=ds.length→((posK (kW ks k) k').bind λj=>(putD ks ds k d)[j]?)=if k'=k then some d else(posK ks k').bind λj=>ds[j]?
 | [],ds,h=>by
  cases ds with
  | cons=>simp at h
  | nil=>
   show ((posK [k] k').bind λj=>[d][j]?)=_
   unfold posK
   by_cases c:k=k'
   ·rw[if_pos c,if_pos c.symm];rfl
   ·rw[if_neg c,if_neg λz=>c z.symm];rfl
 | a::ks,[],h=>by simp at h
 | a::ks,x::ds,h=>by
  have h':ks.length=ds.length:=by simpa using h
  by_cases c:a=k
  ·have e0:posK (a::ks) k=some 0:=by unfold posK;rw[if_pos c]
   unfold kW putD
   rw[e0]
   simp only[b7,if_true]
   cases q:posK (a::ks) k' with
   | none=>
    have:k'≠k:=λz=>by rw[z,e0]at q;cases q
    rw[if_neg this]
    rfl
   | some j=>
    rw[B7,aEE q h]
    rfl
  ·have e1:kW (a::ks) k=a::kW ks k:=by
    have e0:posK (a::ks) k=(posK ks k).map (·+1):=by
     show (if a=k then some 0 else(posK ks k).map (·+1))=_
     rw[if_neg c]
    unfold kW
    rw[e0]
    cases posK ks k<;>rfl
   have e2:putD (a::ks) (x::ds) k d=x::putD ks ds k d:=by
    have e0:posK (a::ks) k=(posK ks k).map (·+1):=by
     show (if a=k then some 0 else(posK ks k).map (·+1))=_
     rw[if_neg c]
    unfold putD
    rw[e0]
    cases posK ks k with
    | none=>rfl
    | some j=>
     show (if a=k then d else x)::_=_
     rw[if_neg c]
     rfl
   rw[e1,e2]
   have ih:=vA (k:=k) (k':=k') (d:=d) h'
   show ((if a=k' then some 0 else(posK (kW ks k) k').map (·+1)).bind _)=if k'=k then some d else((if a=k' then some 0 else(posK ks k').map (·+1)).bind _)
   by_cases c2:a=k'
   ·rw[if_pos c2,if_pos c2,if_neg (by rw[←c2];exact c)]
    rfl
   ·rw[if_neg c2,if_neg c2]
    have m:∀{γ:Type}(o:Option Nat)(y:γ)(l:List γ),((o.map (·+1)).bind λj=>(y::l)[j]?)=o.bind λj=>l[j]?:=λo y l=>by cases o<;>rfl
    rw[m,m,ih]
structure Pg(b:Bn):Prop where
 good:Good b.asked
 nums:Nums b.asked b.held
 aGn:∀k,k<b.asked.length→0≤(at_ b.asked k).mV∧(at_ b.asked k).mV<(b.gF.length:Int)∧0≤(L2.at_ b.asked k).place∧(L2.at_ b.asked k).place<((b.gF.getD (L2.at_ b.asked k).mV.toNat []).length:Int)
 nl:b.nk.length=b.nv.length
 nw:∀p q:Int,((posK b.nk (p,q)).bind λj=>b.nv[j]?)=lastAt b.asked p q
 few:b.gF.length≤8
 nkl:b.nk.length≤b.asked.length
theorem Sq{ps:List (List (List Int))}{p:Int}(h0:0≤p)(h1:p<(ps.length:Int)):lD (kZ ps) (.int p)=some (gC (ps.getD p.toNat [])):=yJ h0 (by
 rw[C5,wU (d:=[]) (show p.toNat<ps.length by omega)]
 rfl)
theorem Ss(ps:List (List (List Int))):pQ [kZ ps]=some (.int ps.length):=by show some (D.int ((ps.map gC).length:Nat))=_;rw[B8]
theorem Ng(ps:List (List Int)):pQ [gC ps]=some (.int ps.length):=by show some (D.int ((ps.map dTup).length:Nat))=_;rw[B8]
variable(κ:Nat→Addr)
theorem Vx{b:Bn}{e:List D}{p:Int}(h0:0≤p)(h1:p<(b.gF.length:Int)):lG κ [uZ (κ 20) b e,.int p]=some .non:=by
 refine An (env':=[.fro (uZ (κ 20) b e),.fro (.int p)]) rfl ?_
 unfold vH
 rw[lX]
 ·rfl
 refine(Ik (Vk rfl rfl (gR (aA (cR rfl yP) rfl) (Ss _)))).trans ?_
 rw[decide_eq_true h0,decide_eq_true h1]
 rfl
theorem zT{b:Bn}{e:List D}{p q:Int}(h0:0≤p)(h1:p<(b.gF.length:Int))(h2:0≤q)(h3:q<((b.gF.getD p.toNat []).length:Int)):fV κ [uZ (κ 20) b e,.int p,.int q]=some .non:=by
 refine An (env':=[.fro (uZ (κ 20) b e),.fro (.int p),.fro (.int q)]) rfl ?_
 unfold tZ
 refine(cD (env':=[.fro (uZ (κ 20) b e),.fro (.int p),.fro (.int q)]) (Dc (d:=.non) ?_)).trans ?_
 ·exact bI (nm:=Wi) rfl (by decide +kernel) rfl rfl (Vx κ h0 h1)
 rw[lX]
 ·rfl
 refine(Ik (Vk rfl rfl (gR (aA (aQ (cR rfl yP) rfl (Sq h0 h1)) rfl) (Ng _)))).trans ?_
 rw[decide_eq_true h2,decide_eq_true h3]
 rfl
theorem xP{b:Bn}{e:List D}{p:Int}(h0:0≤p)(h1:p<(b.asked.length:Int)):eU κ [uZ (κ 20) b e,.int p]=some .non:=by
 refine An (env':=[.fro (uZ (κ 20) b e),.fro (.int p)]) rfl ?_
 unfold rT
 rw[lX]
 ·rfl
 refine(Ik (Vk rfl rfl (gR (aA (cR rfl yQ) rfl) (Vf _)))).trans ?_
 rw[decide_eq_true h0,decide_eq_true h1]
 rfl
def jT(b:Bn)(p q:Int)(th ns:List Int):vG:=⟨p,q,th,QD (ns++(lastAt b.asked p q).toList)⟩
def Bn.put(b:Bn)(p q:Int)(th ns:List Int):Bn:={b with asked:=b.asked++[jT b p q th ns],nk:=kW b.nk (p,q),nv:=putD b.nk b.nv (p,q) (b.asked.length:Int)}
theorem Su{cs:List vG}{l:List Int}{c:vG}{p:Int}(h:(cs.length:Int)∉l):vJ (cs++[c]) l p=if c.mV=p then vJ cs l p++[(cs.length:Int)]else vJ cs l p:=by
 unfold vJ
 have e:(D5 cs.length).filter (λk=>decide ((at_ (cs++[c]) k).mV=p)&&!decide ((k:Int)∈l))=(D5 cs.length).filter λk=>decide ((at_ cs k).mV=p)&&!decide ((k:Int)∈l):=d9 λk hk=>by rw[qP (J8.mp hk)]
 rw[D4,show cs.length+[c].length=cs.length+1 from rfl,i6,U9,e,K3]
 by_cases q:c.mV=p
 ·rw[if_pos q,X1 (by rw[uO,decide_eq_true q,decide_eq_false h];rfl)]
  rfl
 ·rw[if_neg q,X2 (by rw[uO,decide_eq_false q];simp),X8,F8,G0]
theorem aBM{n:Nat}{cs:List vG}{l:List Int}{c:vG}(h:(cs.length:Int)∉l)(h0:0≤c.mV)(h1:c.mV<(n:Int)):(Nf n cs l).set c.mV.toNat (aN (vJ cs l c.mV++[(cs.length:Int)]))=Nf n (cs++[c]) l:=by
 unfold Nf
 apply M6
 intro k
 rw[L3,B8,E6,C5,C5]
 by_cases e:c.mV.toNat=k
 ·rw[if_pos e,if_pos (by omega),G7 (by omega),G4,Su h,if_pos (show c.mV=((k:Nat):Int) by omega),show ((k:Nat):Int)=c.mV by omega]
 ·rw[if_neg e]
  by_cases hk:k<n
  ·rw[G7 hk,G4,G4,Su h,if_neg (by omega)]
  ·rw[G2 (by rw[E6];omega)]
   rfl
theorem vf{n:Nat}{cs:List vG}{l:List Int}{p:Int}(h0:0≤p)(h1:p<(n:Int)):(Nf n cs l)[p.toNat]?=some (aN (vJ cs l p)):=by
 unfold Nf
 rw[C5,G7 (by omega),G4,show ((p.toNat:Nat):Int)=p by omega]
theorem Pg.put{b:Bn}(h:Pg b){p q:Int}{th ns:List Int}(h60:b.asked.length<140)(h0:0≤p)(h1:p<(b.gF.length:Int))(h2:0≤q)(h3:q<((b.gF.getD p.toNat []).length:Int))(hn:∀m∈ns,0≤m∧m<(b.asked.length:Int))(hl:ns.length≤8):Pg (b.put p q th ns):=by
  have aGo:∀m∈(jT b p q th ns).needs,0≤m∧m<(b.asked.length:Int):=λm hm=>by
    have hm:=(Um _ _).mp hm
    rcases K6.mp hm with z | z
    · exact hn m z
    · cases e:lastAt b.asked p q with
      | none=>rw[e]at z;cases z
      | some k=>
        rw[e]at z
        rw[E8.mp z]
        have:=yR e
        exact⟨this.1,this.2.1⟩
  have hlen:(b.put p q th ns).asked.length=b.asked.length+1:=by unfold Bn.put;rw[D4];rfl
  have hcase:∀k,k<(b.put p q th ns).asked.length→(k<b.asked.length∧at_ (b.put p q th ns).asked k=at_ b.asked k)∨(k=b.asked.length∧at_ (b.put p q th ns).asked k=jT b p q th ns):=λk hk=>by
    rw[hlen]at hk
    rcases L7 k b.asked.length with z | z
    · exact .inl ⟨z,qP z⟩
    · have e:k=b.asked.length:=by omega
      subst e
      exact .inr ⟨rfl,uO _ _⟩
  refine⟨⟨by rw[hlen];omega,λk hk=>?_⟩,⟨h.nums.1,λx hx=>?_⟩,λk hk=>?_,?_,λp' q'=>?_,h.few,?_⟩
  · rcases hcase k hk with ⟨a,e⟩ | ⟨a,e⟩
    · rw[e];exact h.good.2 k a
    · rw[e,a]
      refine⟨aGo,HF _,?_⟩
      have:=QF (ns++(lastAt b.asked p q).toList)
      show (QD (ns++(lastAt b.asked p q).toList)).length≤9
      rw[D4]at this
      have:(lastAt b.asked p q).toList.length≤1:=by cases lastAt b.asked p q<;>simp
      omega
  · have:=h.nums.2 x hx
    rw[hlen]
    omega
  · rcases hcase k hk with ⟨a,e⟩ | ⟨a,e⟩
    · have:=h.aGn k a
      rw[e]
      exact this
    · rw[e]
      exact⟨h0,h1,h2,h3⟩
  · exact tO h.nl
  · show ((posK (kW b.nk (p,q)) (p',q')).bind λj=>(putD b.nk b.nv (p,q) (b.asked.length:Int))[j]?)=lastAt (b.asked++[jT b p q th ns]) p' q'
    rw[vA h.nl,xO,h.nw]
    by_cases c:(p',q')=(p,q)
    · have c1:p'=p:=congrArg Prod.fst c
      have c2:q'=q:=congrArg Prod.snd c
      rw[if_pos c,if_pos ⟨c1.symm,c2.symm⟩]
    · rw[if_neg c,if_neg λz=>c (l3 z.1.symm z.2.symm)]
  · have:=h.nkl
    rw[hlen]
    show (kW b.nk (p,q)).length≤_
    unfold kW
    split
    · omega
    · rw[D4];simp;omega
theorem vg{b:Bn}(h:Pg b)(p q:Int):posK (b.nk.map sU) (sU (p,q))=posK b.nk (p,q):=uE (λ_ _=>Dy) _ _
theorem aEF{b:Bn}(h:Pg b){p q:Int}{th ns:List Int}{nd:D}(h0:0≤p)(h1:p<(b.gF.length:Int))(h2:0≤q)(h3:q<((b.gF.getD p.toNat []).length:Int))(hn:∀m∈ns,0≤m∧m<(b.asked.length:Int))(hl:ns.length≤50)(hnd:(nd=.non∧ns=[])∨nd=aN ns):yL κ [dD (κ 20) b,.int p,.int q,dTup th,nd]=some (.int b.asked.length,dD (κ 20) (b.put p q th ns)):=by
  refine oJ rfl λv=>?_
  unfold Sg
  refine uo (d:=.non) (bI rfl (show ("check_place" : Str)∉Wi by decide +kernel) rfl rfl (zT κ h0 h1 h2 h3)) ?_
  have h60:=h.good.1
  refine eQ (d:=aN ns) ?_ (by exact Nat.le_of_ble_eq_true rfl) ?_
  · rcases hnd with ⟨rfl,rfl⟩ | rfl
    · exact aCF (fQ (aQ rfl rfl (De false .non))) rfl
    · exact aCG (fQ (aQ rfl rfl (De false (aN ns)))) (gR (aA rfl rfl) (qC (cV ns)))
  refine uq (ns:=ns) [.inn v (dD (κ 20) b),.fro (.int p),.fro (.int q),.fro (dTup th),.fro nd,.own (aN ns),lv ns .no ns.length,.no] rfl rfl (λv2 k env=>env=[.inn v (dD (κ 20) b),.fro (.int p),.fro (.int q),.fro (dTup th),.fro nd,.inn v2 (aN ns),lv ns .no k,.no]) (λv2=>rfl) (λv2 k env e=>by rw[e];rfl) ?_ (λv2 env e=>by rw[e];rfl) ?_
  · rintro v2 k x env hx rfl
    refine⟨by walk_at "lt", _,Dc (d:=.non) (bI rfl (show ("check_change" : Str)∉Wi by decide +kernel) rfl rfl (xP κ (hn x (F6 hx)).1 (hn x (F6 hx)).2)),?_⟩
    have e:lv ns .no (k+1)=.fro (.int x):=by
      show SD.fro (.int (ns.getD k 0))=_
      rw[rK hx]
    rw[e]
    rfl
  have hkey:∀vv7:SD,Ep (aB (aG 1) (aB (aG 2) aK)) (rE [.inn v (dD (κ 20) b),.fro (.int p),.fro (.int q),.fro (dTup th),.fro nd,.own (aN ns),lv ns .no ns.length,vv7])=some (sU (p,q)):=λ_=>rfl
  have hin:fB (Oi false (Ep (aB (aG 1) (aB (aG 2) aK))) (qY (dX (κ 20) "newest") (aG 0))) (rE [.inn v (dD (κ 20) b),.fro (.int p),.fro (.int q),.fro (dTup th),.fro nd,.own (aN ns),lv ns .no ns.length,.no])=some (posK b.nk (p,q)).isSome:=by
    refine fQ ?_
    unfold Oi
    rw[hkey,B7]
    rw[show qY (dX (κ 20) "newest") (aG 0) (rE [.inn v (dD (κ 20) b),.fro (.int p),.fro (.int q),.fro (dTup th),.fro nd,.own (aN ns),lv ns .no ns.length,.no])=some (.dt (b.nk.map sU) (b.nv.map D.int))from cR rfl Be,B7]
    dsimp only
    rw[vg h]
    rfl
  have hif:zN (fB (Oi false (Ep (aB (aG 1) (aB (aG 2) aK))) (qY (dX (κ 20) "newest") (aG 0)))) (Bv 5 fG (Lb (qY (dX (κ 20) "newest") (aG 0)) (Ep (aB (aG 1) (aB (aG 2) aK))))) iC [.inn v (dD (κ 20) b),.fro (.int p),.fro (.int q),.fro (dTup th),.fro nd,.own (aN ns),lv ns .no ns.length,.no]=.next [.inn v (dD (κ 20) b),.fro (.int p),.fro (.int q),.fro (dTup th),.fro nd,.own (aN (ns++(lastAt b.asked p q).toList)),lv ns .no ns.length,.no]:=by
    have hw:=h.nw p q
    cases e:posK b.nk (p,q)with
    | none=>
      rw[e]at hin hw
      rw[lX hin,←hw]
      show SR.next _=SR.next _
      rw[show ((none:Option Nat).bind λj=>b.nv[j]?)=none from rfl]
      show SR.next _=SR.next [_,_,_,_,_,.own (aN (ns++[])),_,_]
      rw[G0]
    | some j=>
      rw[e]at hin hw
      obtain⟨j1,j2⟩:=pP e
      have hj:j<b.nv.length:=by rw[←h.nl];exact j1
      rw[Cu hin,←hw,B7,B6 hj]
      refine(aEk (ds:=ns.map D.int) (d:=.int b.nv[j]) rfl ?_ (by rw[B8];omega)).trans ?_
      · unfold Lb
        rw[show qY (dX (κ 20) "newest") (aG 0) (rE [.inn v (dD (κ 20) b),.fro (.int p),.fro (.int q),.fro (dTup th),.fro nd,.own (aN ns),lv ns .no ns.length,.no])=some (.dt (b.nk.map sU) (b.nv.map D.int))from cR rfl Be,B7,hkey,B7]
        dsimp only
        rw[vg h,e,B7,C5,B6 hj]
        rfl
      · rw[Aj]
        rfl
  refine Ln hif ?_
  have h4:(ns++(lastAt b.asked p q).toList).length≤51:=by
    rw[D4]
    have:(lastAt b.asked p q).toList.length≤1:=by cases lastAt b.asked p q<;>simp
    omega
  refine eQ (d:=.int b.asked.length) (gR (aA (cR rfl yQ) rfl) (Vf _)) (by exact Nat.le_of_ble_eq_true rfl) ?_
  refine qQ (d:=dD (κ 20) b) rfl (Vg (d0:=dD (κ 20) b) (ds:=b.asked.map Yw) (d:=Yw (jT b p q th ns)) rfl rfl ZJ ?_ (by rw[B8];omega)) rfl ?_
  · exact oH (aA (bJ rfl rfl) (aA (bJ rfl rfl) (aA (bJ rfl (lA th)) (aA (gR (aA (cR rfl (IW (by omega))) rfl) (Yv _)) rfl)))) (by exact Nat.le_of_ble_eq_true rfl)
  rw[show eN ([]++[L2.Step.fld (κ 20) "asked"]) (dD (κ 20) b) (.lst (b.asked.map Yw++[Yw (jT b p q th ns)]))=gG (κ 20) (kZ b.gF) (zB (b.asked++[jT b p q th ns])) (.dt (b.nk.map sU) (b.nv.map D.int)) (dkT b.held) (.lst (Nf b.gF.length b.asked b.held))from by rw[YQ];exact ZK]
  refine qQ rfl (aBI (d:=.int b.asked.length) (k:=sU (p,q)) rfl rfl JP rfl rfl rfl (by
    have:=h.nl
    rw[B8]
    have:=h.nkl
    omega)) rfl ?_
  rw[show eN ([]++[L2.Step.fld (κ 20) "newest"]) (gG (κ 20) (kZ b.gF) (zB (b.asked++[jT b p q th ns])) (.dt (b.nk.map sU) (b.nv.map D.int)) (dkT b.held) (.lst (Nf b.gF.length b.asked b.held))) (.dt (kW (b.nk.map sU) (sU (p,q))) (putD (b.nk.map sU) (b.nv.map D.int) (sU (p,q)) (.int b.asked.length)))=gG (κ 20) (kZ b.gF) (zB (b.asked++[jT b p q th ns])) (.dt ((kW b.nk (p,q)).map sU) ((putD b.nk b.nv (p,q) (b.asked.length:Int)).map D.int)) (dkT b.held) (.lst (Nf b.gF.length b.asked b.held))from by
    rw[Zr (λ_ _=>Dy),Zt (λ_ _=>Dy) D.int]
    exact JQ]
  refine qQ rfl (Vg (p:=[L2.Step.fld (κ 20) "unsettled", .ix p.toNat]) (ds:=(vJ b.asked b.held p).map D.int) (d:=.int b.asked.length) rfl ?_ ((ZF RK).trans (uz (vf h0 h1))) (bJ rfl rfl) ?_) rfl ?_
  · show (if 0≤p then _ else _)=_
    rw[if_pos h0]
    rfl
  · rw[B8]
    have:=uw b.asked b.held p
    omega
  refine Dd rfl ⟨_,.inl rfl,?_⟩
  show some (SD.inn v (eN [L2.Step.fld (κ 20) "unsettled", .ix p.toNat] _ _))=some (SD.inn v _)
  rw[ZG RK,vd (vf h0 h1),aBL]
  have hnot:(b.asked.length:Int)∉b.held:=λz=>by
    have:=h.nums.2 _ z
    omega
  have e:=aBM (n:=b.gF.length) (c:=jT b p q th ns) hnot h0 h1
  rw[←Aj]at e
  rw[show p.toNat=(jT b p q th ns).mV.toNat from rfl,show vJ b.asked b.held p=vJ b.asked b.held (jT b p q th ns).mV from rfl,e]
  rfl
theorem aBN{qX:List (List (List Int))}(hl:qX.length≤8):qT κ [.ins (κ 20) [] [],kZ qX]=some (.non,dD (κ 20) ⟨qX,[],[],[],[]⟩):=by
 refine oJ rfl λv=>?_
 unfold Mf
 have h1:jM (yX (aG 1)) [] qI (fL dList (aB (aG 0) aK)) (rE ([.inn v (.ins (κ 20) [] []),.fro (kZ qX)].set 0 (.own (.ins (κ 20) [] []))))=some (kZ qX):=Ey (xs:=qX) (ψ:=gC) (φ:=gC) (oW rfl) (by omega) λx _=>gR (aA rfl rfl) (qC (Cz λd hd=>by
  obtain⟨t,_,rfl⟩:=G8.mp hd
  exact lA t))
 refine qQ rfl (qW (p:=[]) (nm:=[]) rfl rfl rfl h1 (by decide) rfl) rfl ?_
 refine qQ rfl (qW (p:=[]) (nm:=["panes"]) (d:=zB []) rfl rfl rfl rfl (by decide) (by decide +kernel)) rfl ?_
 refine qQ rfl (qW (p:=[]) (nm:=["panes", "asked"]) (d:=.dt [] []) rfl rfl rfl rfl (by decide) (by decide +kernel)) rfl ?_
 refine qQ rfl (qW (p:=[]) (nm:=["panes", "asked", "newest"]) (d:=dkT []) rfl rfl rfl rfl (by decide) (by decide +kernel)) rfl ?_
 refine um rfl (qW (p:=[]) (nm:=["panes", "asked", "newest", "held"]) (d:=.lst (qX.map λ_=>aN [])) rfl rfl rfl (Ey (xs:=qX) (ψ:=gC) (φ:=λ_=>aN []) (oW rfl) (by omega) λx _=>rfl) (by decide) (by decide +kernel)) rfl ⟨_,.inr ⟨rfl,rfl⟩,?_⟩
 have e:(qX.map λ_=>aN [])=Nf qX.length [] []:=by
  unfold Nf
  apply M6
  intro k
  rw[C5,C5]
  by_cases hk:k<qX.length
  ·rw[B6 hk,G7 hk]
   rfl
  ·rw[G2 (by omega),G2 (by rw[E6];omega)]
   rfl
 unfold dD uZ
 dsimp only
 rw[←e]
 rfl
theorem Pg.init{qX:List (List (List Int))}(hl:qX.length≤8):Pg ⟨qX,[],[],[],[]⟩:=⟨⟨M3 _,λk hk=>absurd hk (L5 _)⟩,⟨Y4,λx hx=>by cases hx⟩,λk hk=>absurd hk (L5 _),rfl,λp q=>rfl,hl,C8 _⟩
def val(ps:List (List (List Int)))(p q:Nat):List Int:=(ps.getD p []).getD q []
def topOf(cs:List vG)(d:List Int):Option Int→List Int
 | some k=>(at_ cs k.toNat).thing
 | none=>d
theorem RL{b:Bn}(p q:Int):posK (b.nk.map sU) (sU (p,q))=posK b.nk (p,q):=uE (λ_ _=>Dy) _ _
def face(b:Bn)(p q:Int):List Int:=topOf b.asked (val b.gF p.toNat q.toNat) (lastAt b.asked p q)
theorem vh{ps:List (List Int)}{q:Int}(h0:0≤q)(h1:q<(ps.length:Int)):lD (gC ps) (.int q)=some (dTup (ps.getD q.toNat [])):=yJ h0 (by
 rw[C5,wU (d:=[]) (show q.toNat<ps.length by omega)]
 rfl)
theorem aBO{b:Bn}(h:Pg b){p q:Int}(h0:0≤p)(h1:p<(b.gF.length:Int))(h2:0≤q)(h3:q<((b.gF.getD p.toNat []).length:Int)):qU κ [dD (κ 20) b,.int p,.int q]=some (dTup (face b p q)):=by
 suffices hh:∃d,qU κ [dD (κ 20) b,.int p,.int q]=some d∧d=dTup (face b p q) by
  obtain⟨d,e1,rfl⟩:=hh
  exact e1
 refine RB rfl ?_
 unfold Mi
 refine uo (d:=.non) (bI rfl (show ("check_place" : Str)∉Wi by decide +kernel) rfl rfl (zT κ h0 h1 h2 h3)) ?_
 have hkey:Ep (aB (aG 1) (aB (aG 2) aK)) (rE [.fro (dD (κ 20) b),.fro (.int p),.fro (.int q)])=some (sU (p,q)):=rfl
 have hnw:qY (dX (κ 20) "newest") (aG 0) (rE [.fro (dD (κ 20) b),.fro (.int p),.fro (.int q)])=some (.dt (b.nk.map sU) (b.nv.map D.int)):=cR rfl Be
 have hin:fB (Oi false (Ep (aB (aG 1) (aB (aG 2) aK))) (qY (dX (κ 20) "newest") (aG 0))) (rE [.fro (dD (κ 20) b),.fro (.int p),.fro (.int q)])=some (posK b.nk (p,q)).isSome:=by
  refine fQ ?_
  unfold Oi
  rw[hkey,B7,hnw,B7]
  dsimp only
  rw[RL]
  rfl
 have hw:=h.nw p q
 unfold face
 cases e:posK b.nk (p,q)with
 | some j=>
  rw[e]at hin hw
  obtain⟨j1,j2⟩:=pP e
  have hj:j<b.nv.length:=by rw[←h.nl];exact j1
  rw[B7,B6 hj]at hw
  have hl:=yR hw.symm
  rw[←hw]
  refine aGj hin rfl ?_
  have hg:Lb (qY (dX (κ 20) "newest") (aG 0)) (Ep (aB (aG 1) (aB (aG 2) aK))) (rE [.fro (dD (κ 20) b),.fro (.int p),.fro (.int q)])=some (.int b.nv[j]):=by
   unfold Lb
   rw[hnw,B7,hkey,B7]
   dsimp only
   rw[RL,e,B7,C5,B6 hj]
   rfl
  have hc:lD (zB b.asked) (.int b.nv[j])=some (Yw (at_ b.asked b.nv[j].toNat)):=by
   have:=ug (cs:=b.asked) (k:=b.nv[j].toNat) (by omega)
   rw[show ((b.nv[j].toNat:Nat):Int)=b.nv[j] by omega]at this
   exact this
  exact ue (bJ (aQ (aQ (cR rfl yQ) hg hc) rfl (Yx _)) (lA _)) ⟨_,rfl,rfl⟩
 | none=>
  rw[e]at hin hw
  rw[←hw]
  refine ud hin rfl ?_
  apply Lp
  exact Ew (bJ (aQ (aQ (cR rfl yP) rfl (Sq h0 h1)) rfl (vh h2 h3)) (lA _)) ⟨_,rfl,rfl⟩
theorem Zu{b:Bn}:oK κ [dD (κ 20) b]=some (zB b.asked):=gH rfl (dO (gR (aA (cR rfl yQ) rfl) (qC (uf _))))
structure Mp where
 k:List Int
 v:List Int
def Mp.get(m:Mp)(x:Int):Option Int:=(posK m.k x).bind λj=>m.v[j]?
def Mp.put(m:Mp)(x y:Int):Mp:=⟨kW m.k x,putD m.k m.v x y⟩
def Nx(m:Mp):D:=.dk (m.k.map G9) (m.v.map D.int)
def Ph:Option Int→D
 | some y=>.int y
 | none=>.non
theorem Vy(a b:Int)(h:(G9 a:Key)=G9 b):a=b:=by injection h
theorem JR{m:Mp}(h:m.k.length=m.v.length)(x:Int):Lf (Nx m) (.int x)=some (Ph (m.get x)):=by
 unfold Lf Nx Mp.get
 dsimp only
 rw[show Oe (.int x)=some (.inl x)from rfl,B7,uE Vy]
 cases e:posK m.k x with
 | none=>rfl
 | some j=>
  have:=(pP e).1
  dsimp only
  rw[C5,B7,B6 (show j<m.v.length by omega)]
  rfl
theorem Mp.vA{m:Mp}(h:m.k.length=m.v.length)(x y z:Int):(m.put x y).get z=if z=x then some y else m.get z:=Rs.vA h
theorem JS(m:Mp)(x y:Int):D.dk (kW (m.k.map (G9:Int→Key)) (.inl x)) (putD (m.k.map (G9:Int→Key)) (m.v.map D.int) (.inl x) (.int y))=Nx (m.put x y):=by
 unfold Nx Mp.put
 rw[Zr Vy,Zt Vy D.int]
theorem vm{α:Type} [DecidableEq α] (ks:List α) (k:α):(kW ks k).length≤ks.length+1:=by
 unfold kW
 split
 ·omega
 ·rw[D4];simp
def Mp.Ok(m:Mp)(n:Nat):Prop:=m.k.length=m.v.length∧m.k.length≤n
theorem Mp.Ok.put{m:Mp}{n:Nat}(h:m.Ok n)(x y:Int):(m.put x y).Ok (n+1):=⟨tO h.1,F5 (vm _ _) (O5 h.2)⟩
theorem Mp.Ok.mono{m:Mp}{n k:Nat}(h:m.Ok n)(l:n≤k):m.Ok k:=⟨h.1,F5 h.2 l⟩
section
variable{C:Addr}{nm:List Str}{ks:List Key}{ds:List D}{x:Str}{j:Nat}{d y:D}
theorem jU(h:posK nm x=some j)(hd:ds[j]?=some d):dX C x (.ins C nm ds)=some d:=by unfold dX;dsimp only;rw[if_pos rfl,h];exact hd
theorem vo(h:posK nm x=some j):yZ (.fld C x) (.ins C nm ds)=some j:=by
 show (if C=C then posK nm x else none)=some j
 rw[if_pos rfl]
 exact h
theorem xQ(h:posK nm x=some j)(hd:ds[j]?=some d):fD [.fld C x] (.ins C nm ds)=some d:=xN (vo h) hd
theorem xR(h:posK nm x=some j)(hd:ds[j]?=some d):eN [.fld C x] (.ins C nm ds) y=.ins C nm (ds.set j y):=uD (vo h) hd
end
def rA:List Str:=["bench", "spots", "string", "loose", "lasts", "comings", "goings"]
theorem w0:posK rA "bench" = some 0:=by decide +kernel
theorem w1:posK rA "spots" = some 1:=by decide +kernel
theorem w2:posK rA "string" = some 2:=by decide +kernel
theorem w3:posK rA "loose" = some 3:=by decide +kernel
theorem w4:posK rA "lasts" = some 4:=by decide +kernel
theorem w5:posK rA "comings" = some 5:=by decide +kernel
theorem w6:posK rA "goings" = some 6:=by decide +kernel
def bks:List Key:=[.inr "recs", .inr "order", .inr "ins", .inr "outs", .inr "lasts", .inr "due", .inr "panes"]
structure Wb where
 b:Bn
 rs:List (List Int)
 od:List Int
 lo:List Int
 la:Mp
 co:Mp
 go:Mp
abbrev Wb.P(s:Wb):Nat:=s.b.gF.length
abbrev Wb.n(s:Wb):Nat:=s.b.asked.length
abbrev Wb.R(s:Wb)(x:Int):List Int:=s.rs.getD x.toNat []
def Wb.key(s:Wb)(x:Int):Int:=(s.R x).getD 0 0
def ZL(P n:Nat):D:=.lst ((D5 n).map λk=>dTup [((k%P:Nat):Int),((k/P:Nat):Int)])
def aGp(rs:List (List Int)):D:=.lst (rs.map dTup)
def iD(κ:Nat→Addr)(s:Wb):D:=.ins (κ 21) rA [dD (κ 20) s.b,ZL s.P s.rs.length,aN s.od,aN s.lo,Nx s.la,Nx s.co,Nx s.go]
def bkD(s:Wb):D:=.dk bks [aGp s.rs,aN s.od,Nx s.co,Nx s.go,Nx s.la,zB s.b.asked,.int s.P]
structure lR(s:Wb):Prop where
 bn:Pg s.b
 p1:0<s.P
 len:∀k,k<s.rs.length→k/s.P<(s.b.gF.getD (k%s.P) []).length
 few:s.rs.length≤64
 pos:0<s.rs.length
 rcd:∀k,k<s.rs.length→s.rs.getD k []=face s.b ((k%s.P:Nat):Int) ((k/s.P:Nat):Int)∧(s.rs.getD k []).length=5
 las:∀k:Nat,k<s.rs.length→s.la.get k=lastAt s.b.asked ((k%s.P:Nat):Int) ((k/s.P:Nat):Int)
 lao:s.la.Ok s.n
 coo:s.co.Ok s.n
 goo:s.go.Ok s.n
 coi:∀x y,s.co.get x=some y→0≤y∧y<(s.n:Int)
 goi:∀x y,s.go.get x=some y→0≤y∧y<(s.n:Int)
 BX:s.od.Nodup
 Pj:∀x∈s.od,1≤x∧x<(s.rs.length:Int)
 lon:s.lo.Nodup
 lom:∀x,x∈s.lo↔1≤x∧x<(s.rs.length:Int)∧x∉s.od
 key:s.od.Pairwise λx y=>s.key x<s.key y
 th:∀k,k<s.n→(at_ s.b.asked k).thing.length=5
theorem lR.spot{s:Wb}(h:lR s){x:Int}(h0:0≤x)(h1:x<(s.rs.length:Int)):0≤((x.toNat%s.P:Nat):Int)∧((x.toNat%s.P:Nat):Int)<(s.P:Int)∧0≤((x.toNat/s.P:Nat):Int)∧((x.toNat/s.P:Nat):Int)<((s.b.gF.getD ((x.toNat%s.P:Nat):Int).toNat []).length:Int):=by
 have h2:=h.len x.toNat (by omega)
 have h3:=T7 x.toNat h.p1
 rw[D9]
 exact⟨V0 _,Int.ofNat_lt.mpr h3,V0 _,Int.ofNat_lt.mpr h2⟩
theorem vp{P n:Nat}{x:Int}(h0:0≤x)(h1:x<(n:Int)):lD (ZL P n) (.int x)=some (dTup [((x.toNat%P:Nat):Int),((x.toNat/P:Nat):Int)]):=yJ h0 (by
 rw[C5,G7 (by omega)]
 rfl)
variable(κ:Nat→Addr)
theorem jV{s:Wb}(h:lR s){x:Int}(h0:0≤x)(h1:x<(s.rs.length:Int)):aY κ [iD κ s,.int x]=some (dTup (s.R x)):=by
 refine gH rfl ?_
 unfold vI
 obtain⟨a,b,c,d⟩:=h.spot h0 h1
 refine sr (d:=dTup [((x.toNat%s.P:Nat):Int),((x.toNat/s.P:Nat):Int)]) (bJ (aQ (cR rfl (jU w1 rfl)) rfl (vp h0 h1)) (lA _)) (by exact Nat.le_of_ble_eq_true rfl) ?_
 rw[Wb.R,(h.rcd x.toNat (by omega)).1]
 exact dO (bI (nm:=Wi) (cR rfl (jU w0 rfl)) (by decide +kernel) (aA (aQ rfl rfl rfl) (aA (aQ rfl rfl rfl) rfl)) rfl (aBO κ h.bn a b c d))
theorem Zv{s:Wb}(h:lR s)(x:Int):lH κ [iD κ s,.int x]=some (Ph (s.co.get x)):=gH rfl (dO (aQ (cR rfl (jU w5 rfl)) rfl (JR h.coo.1 x)))
theorem Zw{s:Wb}(h:lR s)(x:Int):lJ κ [iD κ s,.int x]=some (Ph (s.go.get x)):=gH rfl (dO (aQ (cR rfl (jU w6 rfl)) rfl (JR h.goo.1 x)))
def jW(os:List (Option Int)):D:=.lst (os.map Ph)
def Ny(os:List (Option Int)):List Int:=os.filterMap id
theorem JT{fi:FA}{fr:List Nat}{e:DE}(os:List (Option Int))(h:fi e=some (os.map Ph))(hl:os.length≤1000):jM fi fr (fB (f2 (Oj true) (aG 0) (fC .non))) (dH (aG 0)) e=some (aN (Ny os)):=by
 refine wQ h (by rw[B8];omega) ?_
 clear h hl
 induction os with
 | nil=>rfl
 | cons o os ih=>
  rw[D2]
  unfold mL
  cases o with
  | none=>exact ih
  | some y=>
   show ((mL _ _ (os.map Ph)).map (D.int y::·))=_
   rw[ih]
   rfl
theorem vq(os:List (Option Int))(hl:os.length≤1000):Vo [jW os]=some (aN (Ny os)):=mR rfl (dO (JT os (oW rfl) hl))
def Wb.wr(s:Wb)(x:Int)(r ns:List Int):Wb:={s with b:=s.b.put ((x.toNat%s.P:Nat):Int) ((x.toNat/s.P:Nat):Int) r ns,rs:=s.rs.set x.toNat r,la:=s.la.put x s.n}
theorem aBP(s:Wb)(x:Int)(r ns:List Int):(s.wr x r ns).n=s.n+1:=by
 show (s.b.asked++[_]).length=_
 rw[D4]
 rfl
theorem xT(s:Wb)(x:Int)(r ns:List Int):(s.wr x r ns).rs.length=s.rs.length:=M8
theorem oY{α:Type}(l:List α)(i j:Nat)(x d:α)(h:i<l.length):(l.set i x).getD j d=if i=j then x else l.getD j d:=by
 rw[C4,L3,C4]
 by_cases c:i=j
 ·rw[if_pos c,if_pos h,if_pos c];rfl
 ·rw[if_neg c,if_neg c]
theorem vy{s:Wb}{x y:Int}{r ns:List Int}(h0:0≤x)(h1:x<(s.rs.length:Int))(hy:0≤y):(s.wr x r ns).R y=if y=x then r else s.R y:=by
 show (s.rs.set x.toNat r).getD y.toNat []=_
 rw[oY _ _ _ _ _ (by omega)]
 by_cases c:y=x
 ·rw[if_pos c,if_pos (by rw[c])]
 ·rw[if_neg c,if_neg (by omega)]
theorem vz{b:Bn}{p q p' q':Int}{th ns:List Int}:face (b.put p q th ns) p' q'=if p=p'∧q=q' then th else face b p' q':=by
 unfold face
 show topOf (b.asked++[jT b p q th ns]) _ (lastAt (b.asked++[jT b p q th ns]) p' q')=_
 rw[xO]
 show topOf _ _ (if p=p'∧q=q' then _ else _)=_
 by_cases c:p=p'∧q=q'
 ·rw[if_pos c,if_pos c]
  show (at_ (b.asked++[jT b p q th ns]) (b.asked.length:Int).toNat).thing=th
  rw[D9,uO]
  rfl
 ·rw[if_neg c,if_neg c]
  cases e:lastAt b.asked p' q' with
  | none=>rfl
  | some k=>
   have:=yR e
   show (at_ _ k.toNat).thing=(at_ _ k.toNat).thing
   rw[qP (by omega)]
theorem Zx{P a b:Nat}(h1:((a%P:Nat):Int)=((b%P:Nat):Int))(h2:((a/P:Nat):Int)=((b/P:Nat):Int)):a=b:=by
 have e1:=k9 h1
 have e2:=k9 h2
 have a1:=i7 a P
 have a2:=i7 b P
 rw[←a1,←a2,e1,e2]
theorem lR.wr{s:Wb}(h:lR s){x:Int}{r ns:List Int}(h0:0≤x)(h1:x<(s.rs.length:Int))(hr:r.length=5)(hn:∀m∈ns,0≤m∧m<(s.n:Int))(hl:ns.length≤8)(hm:s.n<140)(hk:x∈s.od→r.getD 0 0=s.key x):lR (s.wr x r ns):=by
 obtain⟨a,b,c,d⟩:=h.spot h0 h1
 have hlen:=xT s x r ns
 have hnn:=aBP s x r ns
 have hxe:((x.toNat:Nat):Int)=x:=by omega
 refine⟨h.bn.put hm a b c d hn hl,h.p1,?_,?_,?_,?_,?_,?_,?_,?_,?_,?_,h.BX,?_,h.lon,?_,?_,?_⟩
 ·rw[hlen];exact h.len
 ·rw[hlen];exact h.few
 ·rw[hlen];exact h.pos
 ·intro k hk'
  rw[hlen]at hk'
  show (s.rs.set x.toNat r).getD k []=face (s.b.put _ _ r ns) _ _∧((s.rs.set x.toNat r).getD k []).length=5
  rw[oY _ _ _ _ _ (by omega),vz]
  by_cases e:x.toNat=k
  ·subst e
   rw[if_pos rfl,if_pos ⟨rfl,rfl⟩]
   exact⟨rfl,hr⟩
  ·rw[if_neg e,if_neg λz=>e (Zx z.1 z.2)]
   exact h.rcd k hk'
 ·intro k hk'
  rw[hlen]at hk'
  show (s.la.put x s.n).get k=lastAt (s.b.asked++[jT _ _ _ _ _]) _ _
  rw[Mp.vA h.lao.1,xO]
  by_cases e:x.toNat=k
  ·subst e
   rw[if_pos hxe,if_pos ⟨rfl,rfl⟩]
  ·rw[if_neg (by omega),if_neg λz=>e (Zx z.1 z.2)]
   exact h.las k hk'
 ·rw[hnn];exact h.lao.put _ _
 ·rw[hnn];exact h.coo.mono (by omega)
 ·rw[hnn];exact h.goo.mono (by omega)
 ·intro z y e
  have:=h.coi z y e
  rw[hnn]
  omega
 ·intro z y e
  have:=h.goi z y e
  rw[hnn]
  omega
 ·intro z hz
  rw[hlen]
  exact h.Pj z hz
 ·intro z
  rw[hlen]
  exact h.lom z
 ·have kk:∀y∈s.od,(s.wr x r ns).key y=s.key y:=λy hy=>by
   show ((s.wr x r ns).R y).getD 0 0=_
   rw[vy h0 h1 (by have:=h.Pj y hy;omega)]
   by_cases e:y=x
   ·subst e
    rw[if_pos rfl]
    exact hk hy
   ·rw[if_neg e];rfl
  exact h.key.imp_of_mem λ{y z} hy hz q=>by rw[kk y hy,kk z hz];exact q
 ·intro k hk'
  rw[hnn]at hk'
  show (at_ (s.b.asked++[jT _ _ _ _ _]) k).thing.length=5
  rcases L7 k s.n with z | z
  ·rw[qP z];exact h.th k z
  ·have e:k=s.b.asked.length:=Nat.le_antisymm (Nat.lt_succ_iff.mp hk') z
   rw[e,uO]
   exact hr
theorem lR.aGs{s:Wb}(h:lR s):s.n≤140:=h.bn.good.1
theorem lR.p8{s:Wb}(h:lR s):s.P≤8:=h.bn.few
theorem mapA{o:Option (List D)}{es:List D}(h:o=some es):o.map (·++[])=some es:=by rw[h];show some (es++[])=_;rw[G0]
theorem Zy{s:Wb}(h:lR s){x:Int}{r:List Int}{os:List (Option Int)}(h0:0≤x)(h1:x<(s.rs.length:Int))(hn:∀m∈Ny os,0≤m∧m<(s.n:Int))(hl:os.length≤9):jY κ [iD κ s,.int x,dTup r,jW os]=some (.int s.n,iD κ (s.wr x r (Ny os))):=by
 refine oJ rfl λv=>?_
 unfold Df
 obtain⟨a,b,c,d⟩:=h.spot h0 h1
 have hkl:(Ny os).length≤9:=F5 (List.length_filterMap_le _ _) hl
 refine eQ (d:=dTup [((x.toNat%s.P:Nat):Int),((x.toNat/s.P:Nat):Int)]) (bJ (aQ (cR rfl (jU w1 rfl)) rfl (vp h0 h1)) (lA _)) (by exact Nat.le_of_ble_eq_true rfl) ?_
 refine Vi (d:=.int s.n) (env':=[.inn v (.ins (κ 21) rA [dD (κ 20) (s.b.put ((x.toNat%s.P:Nat):Int) ((x.toNat/s.P:Nat):Int) r (Ny os)),ZL s.P s.rs.length,aN s.od,aN s.lo,Nx s.la,Nx s.co,Nx s.go]),.fro (.int x),.fro (dTup r),.fro (jW os),.own (dTup [((x.toNat%s.P:Nat):Int),((x.toNat/s.P:Nat):Int)]),.no])
  ((mW (p:=[L2.Step.fld (κ 21) "bench"]) (nm:=Wi) (es:=[.int ((x.toNat%s.P:Nat):Int),.int ((x.toNat/s.P:Nat):Int),dTup r,aN (Ny os)]) rfl rfl (xQ w0 rfl) (by decide +kernel) (mapA (cJ (aQ rfl rfl rfl) (cJ (aQ rfl rfl rfl) (cJ rfl (cJ (bK (aA rfl rfl) rfl (vq os (by omega))) rfl))))) (aEF κ h.bn a b c d hn (by omega) (.inr rfl))).trans (by
   rw[xR w0 rfl]
   rfl)) (by exact Nat.le_of_ble_eq_true rfl) ?_
 refine qQ rfl (Vh (p:=[L2.Step.fld (κ 21) "lasts"]) (k:=.inl x) (kd:=.int x) (d:=.int s.n) rfl rfl (xQ w4 rfl) rfl rfl rfl rfl (by rw[B8];have:=h.lao.2;have:=h.aGs;omega)) rfl ?_
 refine Dd rfl ⟨_,.inl rfl,?_⟩
 show some (SD.inn v (eN [L2.Step.fld (κ 21) "lasts"] _ _))=some (SD.inn v _)
 rw[xR w4 rfl,JS]
 unfold iD
 rw[xT]
 rfl
theorem aBQ(o:Option Int):(Ph o).iI=true:=by cases o<;>rfl
theorem Sv(os:List (Option Int)):D.fZ (os.map Ph)=true:=Cz λd hd=>by
 obtain⟨o,_,rfl⟩:=G8.mp hd
 exact aBQ o
theorem Nh(a b:List (Option Int))(h:a.length+b.length≤1000):fP (jW a) (jW b)=some (jW (a++b)):=by
 unfold jW
 rw[K3]
 exact Ro (by rw[Yt,Sv,Sv];rfl) (by rw[B8,B8];omega)
theorem Sw(ns:List Int):aN ns=jW (ns.map some):=by unfold aN jW;rw[K0];rfl
theorem Ni(ns:List Int):Ny (ns.map some)=ns:=by unfold Ny;rw[List.filterMap_map];exact List.filterMap_some
theorem Dz(o:Option Int)(os:List (Option Int)):Ny (o::os)=o.toList++Ny os:=by cases o<;>rfl
def Wb.ns(s:Wb)(x:Int)(ns:List Int):List Int:=(s.co.get x).toList++ns
theorem lR.aEH{s:Wb}(h:lR s){x:Int}{ns:List Int}(hn:∀m∈ns,0≤m∧m<(s.n:Int)):∀m∈s.ns x ns,0≤m∧m<(s.n:Int):=λm hm=>by
 rcases K6.mp hm with z | z
 ·cases e:s.co.get x with
  | none=>rw[e]at z;cases z
  | some y=>rw[e]at z;rw[E8.mp z];exact h.coi x y e
 ·exact hn m z
theorem yS{α:Type}(o:Option α):o.toList.length≤1:=by cases o<;>simp
theorem wg{s:Wb}(h:lR s){x:Int}{r:List Int}{os:List (Option Int)}(h0:0≤x)(h1:x<(s.rs.length:Int))(hn:∀m∈Ny os,0≤m∧m<(s.n:Int))(hl:os.length≤7):jZ κ [iD κ s,.int x,dTup r,jW os]=some (.int s.n,iD κ (s.wr x r (s.ns x (Ny os)))):=by
 refine oJ rfl λv=>?_
 unfold uA
 have e:s.ns x (Ny os)=Ny (s.co.get x::os):=by rw[Dz];rfl
 rw[e]
 refine Vj (d:=.int s.n) (env':=[.inn v (iD κ (s.wr x r (Ny (s.co.get x::os)))),.fro (.int x),.fro (dTup r),.fro (jW os)]) (mW (p:=[]) (nm:=rA) (es:=[.int x,dTup r,jW (s.co.get x::os)]) rfl rfl rfl (by decide +kernel) (mapA (cJ rfl (cJ rfl (Lx (aQ (a:=jW [s.co.get x]) (b:=jW os) (gO (aA (bI (nm:=rA) rfl (by decide +kernel) rfl rfl (Zv κ h x)) rfl) (by exact Nat.le_of_ble_eq_true rfl)) rfl (Nh _ _ (by simp;omega))) rfl)))) (Zy κ h h0 h1 (by rw[←e];exact h.aEH hn) (by simp;omega))) ⟨_,.inl rfl,rfl⟩
def lnk(r:List Int)(y:Int):List Int:=[r.getD 0 0,y,r.getD 2 0,r.getD 3 0,r.getD 4 0]
theorem sV{r:List Int}{k:Nat}(h:k<r.length):lD (dTup r) (.int k)=some (.int (r.getD k 0)):=Cw (V0 _) (by
 rw[C5,D9,wU (d:=0) h]
 rfl)
theorem lR.five{s:Wb}(h:lR s){x:Int}(h0:0≤x)(h1:x<(s.rs.length:Int)):(s.R x).length=5:=(h.rcd x.toNat (by omega)).2
theorem Zz{s:Wb}(h:lR s){x y:Int}{os:List (Option Int)}(h0:0≤x)(h1:x<(s.rs.length:Int))(hn:∀m∈Ny os,0≤m∧m<(s.n:Int))(hl:os.length≤7):jO κ [iD κ s,.int x,.int y,jW os]=some (.int s.n,iD κ (s.wr x (lnk (s.R x) y) (s.ns x (Ny os)))):=by
 refine oJ rfl λv=>?_
 unfold Gs
 have h5:=h.five h0 h1
 refine eQ (d:=dTup (s.R x)) (bI (nm:=rA) rfl (by decide +kernel) rfl rfl (jV κ h h0 h1)) (by exact Nat.le_of_ble_eq_true rfl) ?_
 refine Vj (d:=.int s.n) (env':=[.inn v (iD κ (s.wr x (lnk (s.R x) y) (s.ns x (Ny os)))),.fro (.int x),.fro (.int y),.fro (jW os),.own (dTup (s.R x))]) (mW (p:=[]) (nm:=rA) (es:=[.int x,dTup (lnk (s.R x) y),jW os]) rfl rfl rfl (by decide +kernel) (mapA (cJ rfl (cJ (oH (aA (bJ (aQ rfl rfl (sV (k:=0) (by omega))) rfl) (aA (bJ rfl rfl) (aA (bJ (aQ rfl rfl (sV (k:=2) (by omega))) rfl) (aA (bJ (aQ rfl rfl (sV (k:=3) (by omega))) rfl) (aA (bJ (aQ rfl rfl (sV (k:=4) (by omega))) rfl) rfl))))) (by exact Nat.le_of_ble_eq_true rfl)) (cJ rfl rfl)))) (wg κ h h0 h1 hn hl)) ⟨_,.inl rfl,rfl⟩
theorem aBR{s:Wb}(h:lR s){x y:Int}{ns:List Int}(h0:0≤x)(h1:x<(s.rs.length:Int))(hn:∀m∈ns,0≤m∧m<(s.n:Int))(hl:ns.length≤7):jO κ [iD κ s,.int x,.int y,aN ns]=some (.int s.n,iD κ (s.wr x (lnk (s.R x) y) (s.ns x ns))):=by
 have:=Zz κ h (y:=y) (os:=ns.map some) h0 h1 (by rw[Ni];exact hn) (by rw[B8];exact hl)
 rw[Ni,←Sw]at this
 exact this
theorem Nj{s:Wb}{ns:List Int}{nd:D}(hn:∀m∈ns,0≤m∧m<(s.n:Int))(hnd:(nd=.non∧ns=[])∨nd=aN ns):cC κ [iD κ s,nd]=some (aN ns):=by
  suffices hh:∃d,cC κ [iD κ s,nd]=some d∧d=aN ns by
    obtain⟨d,e1,rfl⟩:=hh
    exact e1
  refine RB rfl ?_
  unfold pM
  refine eQ (d:=aN ns) ?_ (by exact Nat.le_of_ble_eq_true rfl) ?_
  · rcases hnd with ⟨rfl,rfl⟩ | rfl
    · exact aCF (fQ (aQ rfl rfl (De false .non))) rfl
    · exact aCG (fQ (aQ rfl rfl (De false (aN ns)))) (gR (aA rfl rfl) (qC (cV ns)))
  refine uq (ns:=ns) [.fro (iD κ s),.fro nd,.own (aN ns),lv ns .no ns.length] rfl rfl (λv2 k env=>env=[.fro (iD κ s),.fro nd,.inn v2 (aN ns),lv ns .no k]) (λv2=>rfl) (λv2 k env e=>by rw[e];rfl) ?_ (λv2 env e=>by rw[e];rfl) ?_
  · rintro v2 k x env hx rfl
    refine⟨by walk_at "lt", _,Dc (d:=.non) (bI (nm:=Wi) (cR rfl (jU w0 rfl)) (by decide +kernel) rfl rfl (xP κ (hn x (F6 hx)).1 (hn x (F6 hx)).2)),?_⟩
    have e:lv ns .no (k+1)=.fro (.int x):=by
      show SD.fro (.int (ns.getD k 0))=_
      rw[rK hx]
    rw[e]
    rfl
  exact IV rfl ⟨_,rfl,rfl⟩
def Wb.ahead(s:Wb)(at_:Int):Int:=(0::s.od).getD at_.toNat 0
theorem aHH(od:List Int)(h:od.length≤1000):fP (aN [0]) (aN od)=some (aN (0::od)):=Am [0] od (by simp;omega)
theorem lR.aEJ{s:Wb}(h:lR s):s.od.length≤64:=by
 have:=tV s.rs.length s.od h.BX λx hx=>by have:=h.Pj x hx;omega
 have:=h.few
 omega
theorem lR.aEK{s:Wb}(h:lR s):s.lo.length<64:=by
 have hh:=tV s.rs.length (0::s.lo) (M7.mpr ⟨λz=>by have:=(h.lom 0).mp z;omega,h.lon⟩) λx hx=>by
  rcases C6.mp hx with z | z
  ·have:=h.pos;omega
  ·have:=(h.lom x).mp z;omega
 rw[E9]at hh
 have:=h.few
 omega
theorem Gu{s:Wb}(h:lR s){k:Int}(h0:0≤k)(h1:k≤(s.od.length:Int)):gJ κ [iD κ s,.int k]=some (.int (s.ahead k)):=by
 have:=h.aEJ
 exact gH rfl (dO (bJ (aQ (aQ (gO (aA rfl rfl) (by exact Nat.le_of_ble_eq_true rfl)) (cR rfl (jU w2 rfl)) (aHH _ (by omega))) rfl (oV h0 (by simp;omega))) rfl))
theorem lR.ahead{s:Wb}(h:lR s){k:Int}(h0:0≤k)(h1:k≤(s.od.length:Int)):(s.ahead k=0∨s.ahead k∈s.od)∧0≤s.ahead k∧s.ahead k<(s.rs.length:Int):=by
 have hm:s.ahead k∈(0::s.od):=by
  unfold Wb.ahead
  rw[C4,B6 (show k.toNat<(0::s.od).length by simp;omega)]
  exact Q6 _
 rcases C6.mp hm with z | z
 ·rw[z]
  have:=h.pos
  exact⟨.inl rfl,by omega,by omega⟩
 ·have:=h.Pj _ z
  exact⟨.inr z,by omega,by omega⟩
def Wb.new(s:Wb):Int:=FZ s.lo
def Wb.e1(s:Wb)(k key was now iV:Int):Wb:=s.wr s.new [key,(s.R (s.ahead k)).getD 1 0,was,now,iV] (s.go.get s.new).toList
def Wb.e2(s:Wb)(k key was now iV:Int)(fu:List Int):Wb:=(s.e1 k key was now iV).wr (s.ahead k) (lnk ((s.e1 k key was now iV).R (s.ahead k)) s.new) ((s.e1 k key was now iV).ns (s.ahead k) ((s.n:Int)::fu))
def Wb.ent(s:Wb)(k key was now iV:Int)(fu:List Int):Wb:={s.e2 k key was now iV fu with od:=s.od.take k.toNat++s.new::s.od.drop k.toNat,lo:=s.lo.eraseIdx (s.lo.idxOf s.new),co:=s.co.put s.new (s.n+1:Nat)}
theorem lR.new{s:Wb}(h:lR s)(hl:0<s.lo.length):s.new∈s.lo∧1≤s.new∧s.new<(s.rs.length:Int)∧s.new∉s.od∧0≤s.new:=by
 have:=(zZ hl).1
 have hm:=(h.lom _).mp this
 exact⟨this,hm.1,hm.2.1,hm.2.2,Int.le_trans (by decide) hm.1⟩
theorem lR.aGt{s:Wb}(h:lR s)(x:Int):∀m∈(s.go.get x).toList,0≤m∧m<(s.n:Int):=λm hm=>by
 cases e:s.go.get x with
 | none=>rw[e]at hm;cases hm
 | some y=>rw[e]at hm;rw[E8.mp hm];exact h.goi x y e
theorem lR.e1{s:Wb}(h:lR s)(hl:0<s.lo.length)(hm:s.n<140)(k key was now iV:Int):lR (s.e1 k key was now iV):=by
 obtain⟨a,b,c,d,e⟩:=h.new hl
 exact h.wr e c rfl (h.aGt _) (F5 (yS _) (by decide)) hm λz=>absurd z d
theorem aBS(s:Wb)(k key was now iV:Int):(s.e1 k key was now iV).n=s.n+1:=aBP _ _ _ _
theorem lR.e2{s:Wb}(h:lR s)(hl:0<s.lo.length)(hm:s.n<139){k key was now iV:Int}{fu:List Int}(h0:0≤k)(h1:k≤(s.od.length:Int))(hn:∀m∈fu,0≤m∧m<(s.n:Int))(hf:fu.length≤5):lR (s.e2 k key was now iV fu)∧(∀m∈(s.n:Int)::fu,0≤m∧m<((s.e1 k key was now iV).n:Int))∧s.ahead k<((s.e1 k key was now iV).rs.length:Int):=by
 have w:=h.e1 hl (by omega) k key was now iV
 obtain⟨a,b,c⟩:=h.ahead h0 h1
 have hn2:∀m∈(s.n:Int)::fu,0≤m∧m<((s.e1 k key was now iV).n:Int):=λm hm=>by
  rw[aBS]
  rcases C6.mp hm with z | z
  ·omega
  ·have:=hn m z
   omega
 have hc:s.ahead k<((s.e1 k key was now iV).rs.length:Int):=by
  show _<((s.wr _ _ _).rs.length:Int)
  rw[xT]
  exact c
 refine⟨w.wr b hc rfl (w.aEH hn2) ?_ (by rw[aBS];omega) λz=>rfl,hn2,hc⟩
 unfold Wb.ns
 rw[D4]
 have:=yS ((s.e1 k key was now iV).co.get (s.ahead k))
 simp
 omega
theorem aCH(s:Wb)(k key was now iV:Int)(fu:List Int):(s.ent k key was now iV fu).n=s.n+2:=by
 show (s.e2 k key was now iV fu).n=_
 unfold Wb.e2
 rw[aBP,aBS]
theorem aBT(s:Wb)(k key was now iV:Int)(fu:List Int):(s.ent k key was now iV fu).rs.length=s.rs.length:=by
 show (s.e2 k key was now iV fu).rs.length=_
 unfold Wb.e2
 rw[xT]
 exact xT _ _ _ _
theorem Gb{l:List Int}{x y:Int}(hn:l.Nodup):y∈l.eraseIdx (l.idxOf x)↔y∈l∧y≠x:=by
 rw[←List.erase_eq_eraseIdx_of_idxOf rfl,hn.mem_erase_iff]
 exact and_comm
def Wb.Fits(s:Wb)(k key:Int):Prop:=(∀x∈s.od.take k.toNat,s.key x<key)∧∀x∈s.od.drop k.toNat,key<s.key x
theorem lR.ent{s:Wb}(h:lR s)(hl:0<s.lo.length)(hm:s.n<139){k key was now iV:Int}{fu:List Int}(h0:0≤k)(h1:k≤(s.od.length:Int))(hn:∀m∈fu,0≤m∧m<(s.n:Int))(hf:fu.length≤5)(hk:s.Fits k key):lR (s.ent k key was now iV fu):=by
  obtain⟨w,_,_⟩:=h.e2 hl hm (key:=key) (was:=was) (now:=now) (iV:=iV) h0 h1 hn hf
  obtain⟨a1,a2,a3,a4,a5⟩:=h.new hl
  have hA:=h.ahead h0 h1
  have hod:∀x,x∈s.od.take k.toNat++s.new::s.od.drop k.toNat↔x=s.new∨x∈s.od:=λx=>by
    conv=>rhs;rw[←O8 k.toNat s.od]
    simp only[K6,C6]
    constructor
    · rintro(z | z | z)
      · exact .inr (.inl z)
      · exact .inl z
      · exact .inr (.inr z)
    · rintro(z | z | z)
      · exact .inr (.inl z)
      · exact .inl z
      · exact .inr (.inr z)
  have hlen:=aBT s k key was now iV fu
  have hnn:=aCH s k key was now iV fu
  have kk:∀x,x=s.new∨x∈s.od→(s.ent k key was now iV fu).key x=if x=s.new then key else s.key x:=λx hx=>by
    have x0:0≤x:=by
      rcases hx with z | z
      · omega
      · have:=h.Pj x z;omega
    show ((s.e2 k key was now iV fu).R x).getD 0 0=_
    have e1r:∀y,0≤y→(s.e1 k key was now iV).R y=if y=s.new then [key,(s.R (s.ahead k)).getD 1 0,was,now,iV]else s.R y:=λy hy=>vy a5 a3 hy
    have ne:s.ahead k≠s.new:=λz=>by
      rcases hA.1 with y | y
      · omega
      · exact a4 (z▸y)
    unfold Wb.e2
    rw[vy hA.2.1 (by show _<((s.wr _ _ _).rs.length:Int);rw[xT];exact hA.2.2) x0]
    by_cases c:x=s.ahead k
    · rw[if_pos c,if_neg (by rw[c];exact ne),e1r _ hA.2.1,if_neg ne,c]
      rfl
    · rw[if_neg c,e1r x x0]
      by_cases c2:x=s.new
      · rw[if_pos c2,if_pos c2];rfl
      · rw[if_neg c2,if_neg c2];rfl
  refine⟨w.bn,w.p1,w.len,w.few,w.pos,w.rcd,w.las,w.lao,?_,?_,?_,?_,?_,?_,?_,?_,?_,w.th⟩
  · rw[hnn];exact(h.coo.put _ _).mono (by omega)
  · rw[hnn];exact h.goo.mono (by omega)
  · intro x y e
    have e:(s.co.put s.new (s.n+1:Nat)).get x=some y:=e
    rw[Mp.vA h.coo.1]at e
    rw[hnn]
    split at e
    · cases e
      omega
    · have:=h.coi x y e
      omega
  · intro x y e
    have:=h.goi x y e
    rw[hnn]
    omega
  · refine Q1.mpr ⟨h.BX.sublist (V3 _ _),M7.mpr ⟨λz=>a4 (T9 z),h.BX.sublist (d6 _ _)⟩,λx hx y hy=>?_⟩
    rcases C6.mp hy with z | z
    · rintro rfl
      exact a4 (z▸U0 hx)
    · have:=h.BX
      rw[←O8 k.toNat s.od]at this
      exact(Q1.mp this).2.2 x hx y z
  · intro x hx
    rw[hlen]
    rcases(hod x).mp hx with z | z
    · omega
    · exact h.Pj x z
  · exact h.lon.sublist (T0 _ _)
  · intro x
    show x∈s.lo.eraseIdx (s.lo.idxOf s.new)↔_
    rw[hlen,Gb h.lon,h.lom x]
    show _↔1≤x∧x<(s.rs.length:Int)∧x∉s.od.take k.toNat++s.new::s.od.drop k.toNat
    rw[hod x,not_or]
    constructor
    · rintro⟨⟨z1,z2,z3⟩,z4⟩
      exact⟨z1,z2,z4,z3⟩
    · rintro⟨z1,z2,z4,z3⟩
      exact⟨⟨z1,z2,z3⟩,z4⟩
  · have hp:=h.key
    rw[←O8 k.toNat s.od]at hp
    obtain⟨p1,p2,p3⟩:=T6.mp hp
    have nt:∀x∈s.od.take k.toNat,x≠s.new:=λx hx z=>a4 (z▸U0 hx)
    have nd:∀x∈s.od.drop k.toNat,x≠s.new:=λx hx z=>a4 (z▸T9 hx)
    have kt:∀x∈s.od.take k.toNat,(s.ent k key was now iV fu).key x=s.key x:=λx hx=>by rw[kk x (.inr (U0 hx)),if_neg (nt x hx)]
    have kd:∀x∈s.od.drop k.toNat,(s.ent k key was now iV fu).key x=s.key x:=λx hx=>by rw[kk x (.inr (T9 hx)),if_neg (nd x hx)]
    have kn:(s.ent k key was now iV fu).key s.new=key:=by rw[kk _ (.inl rfl),if_pos rfl]
    show (s.od.take k.toNat++s.new::s.od.drop k.toNat).Pairwise _
    refine T6.mpr ⟨p1.imp_of_mem λ{x y} hx hy q=>by rw[kt x hx,kt y hy];exact q,G1.mpr ⟨λy hy=>by rw[kn,kd y hy];exact hk.2 y hy,p2.imp_of_mem λ{x y} hx hy q=>by rw[kd x hx,kd y hy];exact q⟩,λx hx y hy=>?_⟩
    rw[kt x hx]
    rcases C6.mp hy with z | z
    · rw[z,kn]
      exact hk.1 x hx
    · rw[kd y z]
      exact p3 x hx y z
theorem aBU{s:Wb}{k key:Int}(h0:0≤k)(h1:k≤(s.od.length:Int))(hk:s.Fits k key):(((s.od.filter λx=>decide (s.key x<key)).length:Nat):Int)=k:=by
 conv=>lhs;rw[←O8 k.toNat s.od]
 rw[U9,Z8.mpr λx hx=>decide_eq_true (hk.1 x hx),List.filter_eq_nil_iff.mpr λx hx=>by have:=hk.2 x hx;simp;omega,G0,O4]
 omega
theorem aEL{env:EN}{i:Nat}{π:FP}{f g:FE}{d0:D}{p:List L2.Step}{ns:List Int}{k y:Int}(h1:env[i]?=some (.own d0))(h2:π (rE env)=some p)(h3:fD p d0=some (aN ns))(h4:f (rE env)=some (.int k))(h5:g (rE env)=some (.int y))(k0:0≤k)(k1:k≤(ns.length:Int))(hl:ns.length<1000):YD i π f g env=.next (env.set i (.own (eN p d0 (aN (ns.take k.toNat++y::ns.drop k.toNat))))):=by
 unfold YD
 rw[h1,h2,h4,h5]
 dsimp only
 rw[h3]
 unfold aN
 dsimp only
 rw[jL]
 dsimp only
 rw[if_pos ⟨k0,by omega,hl⟩]
theorem wj{env:EN}{i:Nat}{π:FP}{g:FE}{d0:D}{p:List L2.Step}{ns:List Int}{y:Int}(h1:env[i]?=some (.own d0))(h2:π (rE env)=some p)(h3:fD p d0=some (aN ns))(h5:g (rE env)=some (.int y))(hy:y∈ns):HW i π g env=.next (env.set i (.own (eN p d0 (aN (ns.eraseIdx (ns.idxOf y)))))):=by
 unfold HW
 rw[h1,h2,h5]
 dsimp only
 rw[h3]
 unfold aN
 dsimp only
 rw[jL]
 dsimp only
 rw[if_pos hy]
theorem BJ{s:Wb}(h:lR s)(hl:0<s.lo.length)(hm:s.n<139){k key was now iV:Int}{fu:List Int}{nd:D}(h0:0≤k)(h1:k≤(s.od.length:Int))(hn:∀m∈fu,0≤m∧m<(s.n:Int))(hf:fu.length≤5)(hk:s.Fits k key)(hnd:(nd=.non∧fu=[])∨nd=aN fu) :
  iK κ [iD κ s,.int key,.int was,.int now,.int iV,nd]=some (.tup [.int s.new,.int (s.n+1:Nat)],iD κ (s.ent k key was now iV fu)):=by
 refine oJ rfl λv=>?_
 unfold Di
 obtain⟨a1,a2,a3,a4,a5⟩:=h.new hl
 obtain⟨b1,b2,b3⟩:=h.ahead h0 h1
 obtain⟨W2,hn2,hc⟩:=h.e2 hl hm (key:=key) (was:=was) (now:=now) (iV:=iV) h0 h1 hn hf
 have W1:=h.e1 hl (by omega) k key was now iV
 have h5:=h.five b2 b3
 have ho:=h.aEJ
 refine ud (fQ (aQ (gR (aA (cR rfl (jU w3 rfl)) rfl) (nQ _)) rfl (lF _ _))) (decide_eq_false (by omega)) (Lp ?_)
 refine eQ (d:=aN fu) (bI (nm:=rA) rfl (by decide +kernel) rfl rfl (Nj κ hn hnd)) (by exact Nat.le_of_ble_eq_true rfl) ?_
 have RM:=Rr (fi:=yX (qY (dX (κ 21) "string") (aG 0))) (fr:=[0,1]) (fc:=fB (f2 dLt (f2 lD (bZ (κ 21) "record_of" 2 (aY κ) (aG 1) (aB (aG 0) aK) []) (fC (.int (0)))) (aG 2))) (fe:=dH (aG 0)) (e:=rE [.inn v (iD κ s),.fro (.int key),.fro (.int was),.fro (.int now),.fro (.int iV),.fro nd,.own (aN fu),.no,.no,.no,.no,.no]) (ms:=s.od) (λx=>decide (s.key x<key)) (λx=>.int x) (oW (cR rfl (jU w2 rfl))) (by omega) (λx hx=>by
  have:=h.Pj x hx
  exact fQ (aQ (aQ (bI (nm:=rA) rfl (by decide +kernel) rfl rfl (jV κ h (by omega) this.2)) rfl (sV (k:=0) (by rw[h.five (by omega) this.2];decide))) rfl (Il _ _))) λx hx _=>bJ rfl rfl
 refine eQ (d:=.int k) ((gR (aA RM rfl) (Lj _)).trans (by rw[B8,aBU h0 h1 hk])) (by exact Nat.le_of_ble_eq_true rfl) ?_
 refine eQ (d:=.int (s.ahead k)) (bI (nm:=rA) rfl (by decide +kernel) rfl rfl (Gu κ h h0 h1)) (by exact Nat.le_of_ble_eq_true rfl) ?_
 refine eQ (d:=.int s.new) (gR (aA (cR rfl (jU w3 rfl)) rfl) (JB hl)) (by exact Nat.le_of_ble_eq_true rfl) ?_
 refine Vi (d:=.int s.n) (env':=[.inn v (iD κ (s.e1 k key was now iV)),.fro (.int key),.fro (.int was),.fro (.int now),.fro (.int iV),.fro nd,.own (aN fu),.own (.int k),.own (.int (s.ahead k)),.own (.int s.new),.no,.no])
  (mW (p:=[]) (nm:=rA) (es:=[.int s.new,dTup [key,(s.R (s.ahead k)).getD 1 0,was,now,iV],jW [s.go.get s.new]]) rfl rfl rfl (by decide +kernel) (mapA (cJ rfl (Lx (oH (aA (bJ rfl rfl) (aA (bJ (aQ (bI (nm:=rA) rfl (by decide +kernel) rfl rfl (jV κ h b2 b3)) rfl (sV (k:=1) (by omega))) rfl) (aA (bJ rfl rfl) (aA (bJ rfl rfl) (aA (bJ rfl rfl) rfl))))) (by exact Nat.le_of_ble_eq_true rfl)) (Lx (gO (aA (bI (nm:=rA) rfl (by decide +kernel) rfl rfl (Zw κ h s.new)) rfl) (by exact Nat.le_of_ble_eq_true rfl)) rfl)))) ((Zy κ h a5 a3 (by rw[Dz];exact λm hm=>h.aGt _ m (by simpa[Ny]using hm)) (by simp)).trans (by rw[Dz,show Ny []=[]from rfl,G0];rfl))) (by exact Nat.le_of_ble_eq_true rfl) ?_
 refine Vi (d:=.int (s.n+1:Nat)) (env':=[.inn v (iD κ (s.e2 k key was now iV fu)),.fro (.int key),.fro (.int was),.fro (.int now),.fro (.int iV),.fro nd,.own (aN fu),.own (.int k),.own (.int (s.ahead k)),.own (.int s.new),.own (.int s.n),.no])
  (mW (p:=[]) (nm:=rA) (es:=[.int (s.ahead k),.int s.new,aN ((s.n:Int)::fu)]) rfl rfl rfl (by decide +kernel) (mapA (cJ rfl (cJ rfl (cJ (aQ (gO (aA rfl rfl) (by exact Nat.le_of_ble_eq_true rfl)) rfl (Am [(s.n:Int)] fu (by simp;omega))) rfl)))) ((aBR κ W1 b2 hc hn2 (by simp;omega)).trans (by rw[aBS];rfl))) (by exact Nat.le_of_ble_eq_true rfl) ?_
 refine qQ rfl (aEL (p:=[L2.Step.fld (κ 21) "string"]) (ns:=s.od) rfl rfl (xQ w2 rfl) rfl rfl h0 h1 (by omega)) rfl ?_
 rw[show eN [L2.Step.fld (κ 21) "string"] (iD κ (s.e2 k key was now iV fu)) (aN (s.od.take k.toNat++s.new::s.od.drop k.toNat))=.ins (κ 21) rA _ from xR w2 rfl]
 refine qQ rfl (wj (p:=[L2.Step.fld (κ 21) "loose"]) (ns:=s.lo) rfl rfl (xQ w3 rfl) rfl a1) rfl ?_
 rw[xR w3 rfl]
 refine qQ rfl (Vh (p:=[L2.Step.fld (κ 21) "comings"]) (k:=.inl s.new) (kd:=.int s.new) (d:=.int (s.n+1:Nat)) rfl rfl (xQ w5 rfl) rfl rfl rfl rfl (by rw[B8];have:=W2.coo.2;have:=W2.aGs;omega)) rfl ?_
 rw[xR w5 rfl,JS]
 exact Vj (aEr (oH (aA (bJ rfl rfl) (aA (bJ rfl rfl) rfl)) (by exact Nat.le_of_ble_eq_true rfl))) ⟨_,.inl rfl,rfl⟩
theorem vB(a b c:GS)(env:EN):aW (aW a b) c env=aW a (aW b c) env:=by
 unfold aW
 cases a env<;>rfl
theorem Nk(s:Wb):cZ κ [iD κ s]=some (aN s.od):=gH rfl (dO (gR (aA (cR rfl (jU w2 rfl)) rfl) (qC (cV _))))
theorem Nm{s:Wb}(h:lR s):iG κ [iD κ s]=some (aN (sortI s.lo)):=gH rfl (dO (gR (aA (cR rfl (jU w3 rfl)) rfl) (Ve h.aEK)))
theorem Pk{s:Wb}(h:lR s)(x:Int):jG κ [iD κ s,.int x]=some (Ph (s.la.get x)):=gH rfl (dO (aQ (cR rfl (jU w4 rfl)) rfl (JR h.lao.1 x)))
def Wb.o1(s:Wb)(k x:Int)(fu:List Int):Wb:=s.wr (s.ahead k) (lnk (s.R (s.ahead k)) ((s.R x).getD 1 0)) (s.ns (s.ahead k) ((s.la.get x).toList++fu))
def Wb.out(s:Wb)(k x:Int)(fu:List Int):Wb:={s.o1 k x fu with od:=s.od.eraseIdx k.toNat,lo:=s.lo++[x],go:=s.go.put x s.n}
theorem JV{l:List Int}{x:Int}:∀{k:Nat},l.Nodup→l[k]?=some x→l.idxOf x=k:=by
 induction l with
 | nil=>intro k _ h;cases h
 | cons a l ih=>
  intro k hn h
  have hn':=M7.mp hn
  cases k with
  | zero=>cases h;exact List.idxOf_cons_self
  | succ k=>
   have h:l[k]?=some x:=h
   have ne:a≠x:=λz=>hn'.1 (z▸F6 h)
   rw[X7,show (a==x)=false from beq_false_of_ne ne,←ih hn'.2 h]
   rfl
theorem lR.aHI{s:Wb}(h:lR s){x:Int}(h0:0≤x)(h1:x<(s.rs.length:Int)):∀m∈(s.la.get x).toList,0≤m∧m<(s.n:Int):=λm hm=>by
 have e:=h.las x.toNat (by omega)
 rw[U4 h0]at e
 rw[e]at hm
 cases z:lastAt s.b.asked ((x.toNat%s.P:Nat):Int) ((x.toNat/s.P:Nat):Int)with
 | none=>rw[z]at hm;cases hm
 | some y=>
  rw[z]at hm
  rw[E8.mp hm]
  have:=yR z
  exact⟨this.1,this.2.1⟩
theorem lR.o1{s:Wb}(h:lR s)(hm:s.n<140){k x:Int}{fu:List Int}(h0:0≤k)(h1:k≤(s.od.length:Int))(x0:0≤x)(x1:x<(s.rs.length:Int))(hn:∀m∈fu,0≤m∧m<(s.n:Int))(hf:fu.length≤5):lR (s.o1 k x fu)∧∀m∈(s.la.get x).toList++fu,0≤m∧m<(s.n:Int):=by
 obtain⟨b1,b2,b3⟩:=h.ahead h0 h1
 have hn2:∀m∈(s.la.get x).toList++fu,0≤m∧m<(s.n:Int):=λm hm=>by
  rcases K6.mp hm with z | z
  ·exact h.aHI x0 x1 m z
  ·exact hn m z
 refine⟨h.wr b2 b3 rfl (h.aEH hn2) ?_ hm λ_=>rfl,hn2⟩
 unfold Wb.ns
 rw[D4,D4]
 have:=yS (s.co.get (s.ahead k))
 have:=yS (s.la.get x)
 omega
theorem aCI(s:Wb)(k x:Int)(fu:List Int):(s.out k x fu).n=s.n+1:=by
 show (s.o1 k x fu).n=_
 unfold Wb.o1
 exact aBP _ _ _ _
theorem aBV(s:Wb)(k x:Int)(fu:List Int):(s.out k x fu).rs.length=s.rs.length:=by
 show (s.o1 k x fu).rs.length=_
 unfold Wb.o1
 exact xT _ _ _ _
theorem lR.out{s:Wb}(h:lR s)(hm:s.n<140){k x:Int}{fu:List Int}(h0:0≤k)(h1:k<(s.od.length:Int))(hx:s.od[k.toNat]?=some x)(hn:∀m∈fu,0≤m∧m<(s.n:Int))(hf:fu.length≤5):lR (s.out k x fu):=by
  have xm:x∈s.od:=F6 hx
  have xr:=h.Pj x xm
  obtain⟨w,_⟩:=h.o1 hm h0 (R6 h1) (x:=x) (by omega) xr.2 hn hf
  have hi:=JV h.BX hx
  have hlen:=aBV s k x fu
  have hnn:=aCI s k x fu
  refine⟨w.bn,w.p1,w.len,w.few,w.pos,w.rcd,w.las,w.lao,?_,?_,?_,?_,h.BX.sublist (T0 _ _),?_,?_,?_,w.key.sublist (T0 _ _),w.th⟩
  · rw[hnn];exact h.coo.mono (by omega)
  · rw[hnn];exact h.goo.put _ _
  · intro z y e
    have:=h.coi z y e
    rw[hnn]
    omega
  · intro z y e
    have e:(s.go.put x s.n).get z=some y:=e
    rw[Mp.vA h.goo.1]at e
    rw[hnn]
    split at e
    · cases e
      omega
    · have:=h.goi z y e
      omega
  · intro z hz
    rw[hlen]
    exact h.Pj z (List.mem_of_mem_eraseIdx hz)
  · refine Q1.mpr ⟨h.lon,by simp,λy hy z hz q=>?_⟩
    rw[E8.mp hz]at q
    exact((h.lom y).mp hy).2.2 (q▸xm)
  · intro y
    show y∈s.lo++[x]↔_
    rw[hlen]
    show _↔1≤y∧y<(s.rs.length:Int)∧y∉s.od.eraseIdx k.toNat
    rw[←hi,Gb h.BX,K6,E8,h.lom y]
    constructor
    · rintro(⟨z1,z2,z3⟩ | rfl)
      · exact⟨z1,z2,λq=>z3 q.1⟩
      · exact⟨xr.1,xr.2,λq=>q.2 rfl⟩
    · rintro⟨z1,z2,z3⟩
      by_cases e:y=x
      · exact .inr e
      · exact .inl ⟨z1,z2,λq=>z3 ⟨q,e⟩⟩
theorem wk{s:Wb}(h:lR s)(hm:s.n<140){k x:Int}{fu:List Int}{nd:D}(h0:0≤k)(h1:k<(s.od.length:Int))(hx:s.od[k.toNat]?=some x)(hn:∀m∈fu,0≤m∧m<(s.n:Int))(hf:fu.length≤5)(hnd:(nd=.non∧fu=[])∨nd=aN fu):pU κ [iD κ s,.int x,nd]=some (.int s.n,iD κ (s.out k x fu)):=by
 refine oJ rfl λv=>?_
 unfold Dh
 obtain⟨b1,b2,b3⟩:=h.ahead h0 (R6 h1)
 have xm:x∈s.od:=F6 hx
 have xr:=h.Pj x xm
 have hi:=JV h.BX hx
 have h5:=h.five (x:=x) (by omega) xr.2
 obtain⟨W,hn2⟩:=h.o1 hm h0 (R6 h1) (x:=x) (by omega) xr.2 hn hf
 have ek:Ny (s.la.get x::fu.map some)=(s.la.get x).toList++fu:=by rw[Dz,Ni]
 have hix:Le (aN s.od) (.int x)=some (.int k):=by
  unfold Le aN
  dsimp only
  rw[jL,B7,if_pos xm,hi,U4 h0]
 have aGu:=Nj κ (s:=s) hn hnd
 rw[Sw]at aGu
 refine eQ (d:=.int (s.ahead k)) (bI (nm:=rA) rfl (by decide +kernel) (aA (aQ (cR rfl (jU w2 rfl)) rfl hix) rfl) rfl (Gu κ h h0 (R6 h1))) (by exact Nat.le_of_ble_eq_true rfl) ?_
 refine eQ (d:=jW (s.la.get x::fu.map some)) (aQ (a:=jW [s.la.get x]) (b:=jW (fu.map some)) (gO (aA (bI (nm:=rA) rfl (by decide +kernel) rfl rfl (Pk κ h x)) rfl) (by exact Nat.le_of_ble_eq_true rfl)) (bI (nm:=rA) rfl (by decide +kernel) rfl rfl aGu) (Nh _ _ (by simp;omega))) (by exact Nat.le_of_ble_eq_true rfl) ?_
 refine Vi (d:=.int s.n) (env':=[.inn v (iD κ (s.o1 k x fu)),.fro (.int x),.fro nd,.own (.int (s.ahead k)),.own (jW (s.la.get x::fu.map some)),.no]) (mW (p:=[]) (nm:=rA) (es:=[.int (s.ahead k),.int ((s.R x).getD 1 0),jW (s.la.get x::fu.map some)]) rfl rfl rfl (by decide +kernel) (mapA (cJ rfl (Lx (bJ (aQ (bI (nm:=rA) rfl (by decide +kernel) rfl rfl (jV κ h (by omega) xr.2)) rfl (sV (k:=1) (by omega))) rfl) (cJ rfl rfl)))) ((Zz κ h b2 b3 (by rw[ek];exact hn2) (by simp;omega)).trans (by rw[ek];rfl))) (by exact Nat.le_of_ble_eq_true rfl) ?_
 refine qQ rfl (wj (p:=[L2.Step.fld (κ 21) "string"]) (ns:=s.od) rfl rfl (xQ w2 rfl) rfl xm) rfl ?_
 rw[hi,show eN [L2.Step.fld (κ 21) "string"] (iD κ (s.o1 k x fu)) (aN (s.od.eraseIdx k.toNat))=.ins (κ 21) rA _ from xR w2 rfl]
 refine qQ rfl (Vg (p:=[L2.Step.fld (κ 21) "loose"]) (ds:=s.lo.map D.int) (d:=.int x) rfl rfl (xQ w3 rfl) (bJ rfl rfl) (by rw[B8];have:=h.aEK;omega)) rfl ?_
 rw[xR w3 rfl,Aj]
 refine qQ rfl (Vh (p:=[L2.Step.fld (κ 21) "goings"]) (k:=.inl x) (kd:=.int x) (d:=.int s.n) rfl rfl (xQ w6 rfl) rfl rfl rfl rfl (by rw[B8];exact U7 (show s.go.k.length≤s.n from h.goo.2) (by omega))) rfl ?_
 rw[xR w6 rfl,JS]
 exact Dd rfl ⟨_,.inl rfl,rfl⟩
theorem ZM{g1 g:GS}{env e':EN}{d:D}(h:g1 env=.rete d e'):aW g1 g env=.rete d e':=by unfold aW;rw[h]
section
variable{env env' e1 e2:EN}{b:Bool}{d d2 r:D}{f:FE}{ft:FT}{g1 g2:GS}{gb gc:GB}{gm:GM}{eF eZ:DE}{z y:FE2}{fs:FA2}{es xs ys:List D}{js:List Nat}{i:Nat}{φ:D→D→Option D}
theorem JW(h:gb env=some (false,env')):Xy gb g1 g2 env=g2 env':=by unfold Xy;rw[h]
theorem wu(h:gb env=some (false,e1))(h2:gc e1=some (b,e2)):ni gb gc env=some (b,e2):=by unfold ni;rw[h,B7,if_neg D7];exact h2
theorem wy(h:ft (rE env)=some b):gbT ft env=some (b,env):=by unfold gbT;rw[h];rfl
theorem JX(h:gm env=some (.bl b,env')):gbV gm env=some (b,env'):=by unfold gbV;rw[h];rfl
theorem Iv(h:gm env=some (d,env'))(h2:f (rE env')=some d2)(h3:φ d d2=some r)(hi:r.iI=true):Kw φ gm f env=some (r,env'):=by unfold Kw;rw[h,B7,h2,B7,h3,B7,if_pos hi]
end
section
variable{env env' e1 e2 e0:EN}{b:Bool}{d r:D}{gb:GB}{gm gn:GM}{as:List Ar}{F:List D→Option (D×List D)}{cds rds ds':List D}{f:FE}{ds:List D}
theorem Vz{Pr:SR→Prop}{g1 g:GS}(h:g1 env=.rete d e1)(k:Pr (.rete d e1)):Qs Pr (aW g1 g env):=by
 unfold Qs
 rw[ZM h]
 exact k
end
def Sx(p:List (List Int)):DV:=.lst (p.map λt=>.tup (t.map DV.int))
theorem Np:∀p:List (List Int),fO (p.map dTup)=some (p.map λt=>.tup (t.map DV.int))
 | []=>by rw[F8];unfold fO;rfl
 | t::p=>by rw[D2];unfold fO;rw[Ls,B7,Np p];rfl
theorem Gv:∀ps:List (List (List Int)),fO (ps.map gC)=some (ps.map Sx)
 | []=>by rw[F8];unfold fO;rfl
 | p::ps=>by
  have e:eG (gC p)=some (Sx p):=by unfold gC eG;rw[Np];rfl
  rw[D2];unfold fO;rw[e,B7,Gv ps];rfl
theorem Nq:∀p:List (List Int),bQ (p.map λt=>DV.tup (t.map DV.int))≤1
 | []=>by rw[F8];unfold bQ;decide
 | t::p=>by
  rw[D2]
  unfold bQ
  have:=Nq p
  have e:(DV.tup (t.map DV.int)).depth=1:=by unfold DV.depth;rw[nJ]
  omega
theorem Gw:∀ps:List (List (List Int)),bQ (ps.map Sx)≤2
 | []=>by rw[F8];unfold bQ;decide
 | p::ps=>by
  rw[D2]
  unfold bQ
  have:=Gw ps
  have:=Nq p
  have e:(Sx p).depth=bQ (p.map λt=>DV.tup (t.map DV.int))+1:=by unfold Sx DV.depth;rfl
  omega
theorem oZ(ns:List Int)(k:Nat):cH [aN ns,.int k]=some (.int (ns.getD k 0)):=by
 refine mR rfl ?_
 unfold Za
 by_cases c:k<ns.length
 ·have hx:=oV (ns:=ns) (i:=k) (by omega) (by omega)
  rw[D9]at hx
  apply aEn
  ·walk_at "et"
  ·exact decide_eq_true (by omega)
  exact aGf (bJ (aQ rfl rfl hx) rfl) rfl
 ·apply aEm
  ·walk_at "et"
  ·exact decide_eq_false (by omega)
  apply aGe
  rw[C4,G2 (by omega)]
  exact dO rfl
abbrev bO(s:List (List (List Int))):D:=kZ s
theorem Nr{s:List (List (List Int))}{k:Nat}{p:List (List Int)}(h:s[k]?=some p):lD (bO s) (.int k)=some (gC p):=by
 unfold bO
 exact yJ (by omega) (by rw[D9,C5,h];rfl)
theorem aHJ{p:List (List Int)}{k:Nat}{t:List Int}(h:p[k]?=some t):lD (gC p) (.int k)=some (dTup t):=by
 unfold gC
 exact yJ (by omega) (by rw[D9,C5,h];rfl)
theorem Gd(s:List (List (List Int))):pQ [bO s]=some (.int s.length):=Ss s
def bG(P R:Nat)(bV:List (List Int))(bB:List Int):List (List (List Int)):=(D5 P).map λp=>((D5 R).map λr=>bV.getD (p+P*r) [])++[[bB.getD p 0]]
theorem wz{P R p r:Nat}(hp:p<P)(hr:r<R):p+P*r<P*R:=by
 have h1:P*(r+1)≤P*R:=Nat.mul_le_mul_left P hr
 rw[Nat.mul_succ]at h1
 omega
theorem getD_mem{l:List Int}{k:Nat}(h:k<l.length):l.getD k 0∈l:=by
 rw[C4,B6 h]
 exact Q6 h
theorem xU{l:List Int}(h:l.Nodup){i j:Nat}(hi:i<l.length)(hj:j<l.length)(hij:i≠j):l.getD i 0≠l.getD j 0:=by
 rw[C4,C4,B6 hi,B6 hj]
 show l[i]≠l[j]
 have hpw:=N4.mp h
 rcases L7 i j with q | q
 ·exact hpw i j hi hj q
 ·exact λe=>hpw j i hj hi (by omega) e.symm
theorem RN{s:List (List (List Int))}{b:Int}(h:0<s.length)(h2:s.length≤1000):uP [bO s,.int b]=some (dTup [b%s.length,b/s.length]):=by
 refine mR rfl ?_
 unfold RD
 have hlen:=Gd s
 apply dO
 show _=some (D.tup [.int (b%s.length),.int (b/s.length)])
 walk_at "ev"
theorem xf{s:List (List (List Int))}{p:List (List Int)}{t:List Int}{i j:Nat}(h1:s[i]?=some p)(h2:p[j]?=some t):wV [bO s,dTup [(i:Int),(j:Int)]]=some (dTup t):=by
 refine mR rfl ?_
 unfold Zb
 apply dO
 exact bJ (aQ (aQ rfl (aQ rfl rfl (Cw (by decide) rfl)) (Nr h1)) (aQ rfl rfl (Cw (by decide) rfl)) (aHJ h2)) (lA _)
theorem xg{s:List (List (List Int))}{b:Nat}{p:List (List Int)}{t:List Int}(h:0<s.length)(h2:s.length≤1000)(h1:s[b%s.length]?=some p)(h3:p[b/s.length]?=some t):jX [bO s,.int b]=some (dTup t):=by
 refine mR rfl ?_
 unfold Rz
 have hs:=RN (b:=(b:Int)) h h2
 have ht:wV [bO s,dTup [(b:Int)%s.length,(b:Int)/s.length]]=some (dTup t):=xf (i:=b%s.length) (j:=b/s.length) h1 h3
 apply dO
 walk_at "ev"
theorem zY(P R:Nat)(bV:List (List Int))(bB:List Int):(bG P R bV bB).length=P:=by unfold bG;rw[B8,E6]
theorem Wa{P R:Nat}{bV:List (List Int)}{bB:List Int}{p:Nat}(h:p<P):(bG P R bV bB)[p]?=some (((D5 R).map λr=>bV.getD (p+P*r) [])++[[bB.getD p 0]]):=by
 unfold bG
 rw[C5,G7 h]
 rfl
theorem RP{P R:Nat}{bV:List (List Int)}{bB:List Int}{q:List (List Int)}(h:q∈bG P R bV bB):q.length=R+1:=by
 unfold bG at h
 obtain⟨p,_,rfl⟩:=G8.mp h
 rw[D4,B8,E6]
 rfl
theorem xj{P R:Nat}{bV:List (List Int)}{bB:List Int}{p r:Nat}(hr:r<R):(((D5 R).map λr=>bV.getD (p+P*r) [])++[[bB.getD p 0]])[r]?=some (bV.getD (p+P*r) []):=by
 rw[G3 (by rw[B8,E6];exact hr),C5,G7 hr]
 rfl
theorem xn{P R:Nat}{bV:List (List Int)}{bB:List Int}{b:Nat}(hP:0<P)(hb:b<P*R):∃q,(bG P R bV bB)[b%P]?=some q∧q[b/P]?=some (bV.getD b []):=by
 have h1:b%P<P:=T7 _ hP
 have h2:b/P<R:=U1 hb
 refine⟨_,Wa h1,?_⟩
 rw[xj h2,i8]
def Chain(bV:List (List Int))(ord:List Int):Prop:=∀k,k≤ord.length→∃key was now iV:Int,bV[(([0]++ord).getD k 0).toNat]?=some [key,(ord++[0]).getD k 0,was,now,iV]
theorem xq{P R:Nat}{bV:List (List Int)}{bB:List Int}{x:Int}{t:List Int}(hP:0<P)(hP8:P≤8)(h0:0≤x)(h1:x<(P*R:Nat))(ht:bV[x.toNat]?=some t):jX [bO (bG P R bV bB),.int x]=some (dTup t):=by
 obtain⟨q,q1,q2⟩:=xn (bV:=bV) (bB:=bB) (b:=x.toNat) hP (show x.toNat<P*R by omega)
 have hl:=zY P R bV bB
 have:=xg (s:=bG P R bV bB) (b:=x.toNat) (by omega) (by omega) (by rw[hl];exact q1) (by rw[hl];exact q2)
 rw[U4 h0,rK ht]at this
 exact this
theorem Sy{P R:Nat}{bV:List (List Int)}{bB ord:List Int}(hP:0<P)(hP8:P≤8)(hR:0<R)(hc:Chain bV ord)(hb:∀x∈ord,1≤x∧x<(P*R:Nat))(hn:ord.Nodup)(hl:ord.length≤64):nT [bO (bG P R bV bB)]=some (aN ord):=by
 suffices h:∃d,nT [bO (bG P R bV bB)]=some d∧d=aN ord by
  obtain⟨d,h1,rfl⟩:=h
  exact h1
 have hm:0<P*R:=Y3 hP hR
 generalize hbd:P*R=m at *
 have nx:∀k,k≤ord.length→∃t:List Int,jX [bO (bG P R bV bB),.int (([0]++ord).getD k 0)]=some (dTup t)∧lD (dTup t) (.int 1)=some (.int ((ord++[0]).getD k 0)):=λk hk=>by
  obtain⟨key,was,now,iV,h1⟩:=hc k hk
  have hx:([0]++ord).getD k 0∈[0]++ord:=getD_mem (by rw[D4];simp;omega)
  have hx2:0≤([0]++ord).getD k 0∧([0]++ord).getD k 0<((P*R:Nat):Int):=by
   rw[hbd]
   rcases K6.mp hx with q | q
   ·have:=E8.mp q;omega
   ·have:=hb _ q;omega
  exact⟨_,xq hP hP8 hx2.1 hx2.2 h1,Cw (by decide) rfl⟩
 refine wR rfl ?_
 unfold Sd
 walk_at "q"
 obtain⟨t0,ht0,hx0⟩:=nx 0 (M3 _)
 have aJA:jX [bO (bG P R bV bB),.int 0]=some (dTup t0):=ht0
 walk_at "q"
 refine Vd (n:=ord.length) (λn env=>n≤ord.length∧env=[.fro (bO (bG P R bV bB)),.own (.dk ((ord.take (ord.length-n)).map G9) ((ord.take (ord.length-n)).map λ_=>D.bl true)),.own (.int ((ord++[0]).getD (ord.length-n) 0))]) ⟨C8 _,by rw[c7];rfl⟩ (by omega) ?_ ?_
 ·rintro n env ⟨hnl,rfl⟩
  by_cases c:n=0
  ·left
   subst c
   have e:(ord++[0]).getD (ord.length-0) 0=0:=by rw[Nat.sub_zero,C4,N2 (C8 _),c7];rfl
   rw[e]
   refine aEj (fQ ((aQ rfl rfl (yI 0 0)).trans ?_))
   rw[decide_eq_true rfl]
   rfl
  ·right
   generalize hk:ord.length-n=k
   have hkl:k<ord.length:=by omega
   have e:(ord++[0]).getD k 0=ord.getD k 0:=by rw[C4,C4,G3 hkl]
   have hx:=hb _ (getD_mem hkl)
   have hnew:ord.getD k 0∉ord.take k:=by
    intro z
    obtain⟨j,hj,ej⟩:=O3 z
    rw[O4]at hj
    rw[e8]at ej
    have:=xU hn (i:=j) (j:=k) (by omega) hkl (by omega)
    rw[C4,B6 (show j<ord.length by omega)]at this
    exact this ej
   rw[e]
   obtain⟨t,ht,hxt⟩:=nx (k+1) hkl
   have ht':jX [bO (bG P R bV bB),.int (ord.getD k 0)]=some (dTup t):=ht
   refine⟨?_,by omega,_,aGg (aBG (k:=G9 (ord.getD k 0)) rfl rfl rfl rfl (Lr hnew) rfl (by rw[B8,O4];omega)) (rJ (bJ (aQ (bK (aA rfl (aA rfl rfl)) rfl ht') rfl hxt) rfl) (by exact Nat.le_of_ble_eq_true rfl)),by omega,?_⟩
   ·refine(rm (fQ (b:=true) ((aQ rfl rfl (yI _ _)).trans ?_))).trans (fQ (aQ rfl rfl ?_))
    ·rw[decide_eq_false (by omega)];rfl
    ·show (some _:Option D)=_
     rw[Lr hnew]
     rfl
   ·have e2:ord.length-(n-1)=k+1:=by omega
    have e3:ord.take (k+1)=ord.take k++[ord.getD k 0]:=by rw[List.take_add_one,wU (d:=0) hkl];rfl
    rw[e2,e3,K3,K3]
    rfl
 ·rintro env n ⟨hnl,rfl⟩ hf
  by_cases c:n=0
  ·subst c
   rw[Nat.sub_zero,List.take_length]
   apply Ew (gR (aA rfl rfl) rfl)
   exact⟨_,rfl,YL ord⟩
  ·exfalso
   generalize hk:ord.length-n=k at hf
   have hkl:k<ord.length:=by omega
   have e:(ord++[0]).getD k 0=ord.getD k 0:=by rw[C4,C4,G3 hkl]
   have hx:=hb _ (getD_mem hkl)
   have hnew:ord.getD k 0∉ord.take k:=by
    intro z
    obtain⟨j,hj,ej⟩:=O3 z
    rw[O4]at hj
    rw[e8]at ej
    have:=xU hn (i:=j) (j:=k) (by omega) hkl (by omega)
    rw[C4,B6 (show j<ord.length by omega)]at this
    exact this ej
   rw[e]at hf
   have:(Ui (fB (f2 Hv (aG 2) (fC (.int (0))))) (fB (f2 (VL true) (aG 2) (aG 1)))) (rE [.fro (bO (bG P R bV bB)),.own (.dk ((ord.take k).map G9) ((ord.take k).map λ_=>D.bl true)),.own (.int (ord.getD k 0))])=some true:=by
    refine(rm (fQ (b:=true) ((aQ rfl rfl (yI _ _)).trans ?_))).trans (fQ (aQ rfl rfl ?_))
    ·rw[decide_eq_false (by omega)];rfl
    ·show (some _:Option D)=_
     rw[Lr hnew]
     rfl
   rw[this]at hf
   cases hf
def lC(m:Nat):List Int:=(D5 (m-1)).map λi:Nat=>(1:Int)+(i:Int)
theorem xu{P R:Nat}{bV:List (List Int)}{bB ord:List Int}(hP:0<P)(hP8:P≤8)(hR:0<R)(hR8:R≤8)(hc:Chain bV ord)(hb:∀x∈ord,1≤x∧x<(P*R:Nat))(hn:ord.Nodup)(hl:ord.length≤64) :
    oX [bO (bG P R bV bB)]=some (aN ((lC (P*R)).filter λi=>!decide (i∈ord))):=by
  have aBW:P*R≤8*8:=U6 hP8 hR8
  have hm0:0<P*R:=Y3 hP hR
  have hstr:=Sy (bB:=bB) hP hP8 hR hc hb hn hl
  have xx:lQ [bO (bG P R bV bB)]=some (.int ((P*R:Nat):Int)):=by
    refine mR rfl ?_
    unfold Av
    apply dO
    have hls:=Gd (bG P R bV bB)
    rw[zY]at hls
    have h0:(bG P R bV bB)[0]?=some _:=Wa (p:=0) hP
    have hix:lD (bO (bG P R bV bB)) (.int 0)=some (gC _):=Nr (k:=0) h0
    have hlp:=Ng (((D5 R).map λr=>bV.getD (0+P*r) [])++[[bB.getD 0 0]])
    rw[RP (F6 h0)]at hlp
    rw[X9]
    have e:(R:Int)=((R+1:Nat):Int)-1:=by omega
    rw[e]
    exact aQ (gR (aA rfl rfl) hls) (aQ (gR (aA (aQ rfl rfl hix) rfl) hlp) rfl (Cv _ _)) (gM (Eu (by omega) (by omega)))
  suffices h:∃d,oX [bO (bG P R bV bB)]=some d∧d=aN ((lC (P*R)).filter λi=>!decide (i∈ord)) by
    obtain⟨d,h1,rfl⟩:=h
    exact h1
  refine wR rfl ?_
  unfold Gr
  walk_at "q"
  generalize P*R=m at *
  have e:iB (0+1) ((m:Int)-(0+1)).toNat=(lC m).map D.int:=by
    unfold iB lC
    rw[K0,show ((m:Int)-(0+1)).toNat=m-1 by omega]
    rfl
  refine Ew (d:=aN ((lC m).filter λi=>!decide (i∈ord))) ?_ ⟨_,rfl,rfl⟩
  refine(wQ (ys:=((iB (0+1) ((m:Int)-(0+1)).toNat).filter λd=>match d with | .int i=>!decide (i∈ord) | _=>false).map id) (rn (i:=0+1) (j:=m) (aA (aQ rfl rfl (bT _ _)) (aA (bK (aA rfl rfl) rfl xx) rfl)) (by decide) (by decide) (by omega) (by omega)) (by rw[Ah];omega) ?_).trans ?_
  · refine Cy (p:=λd=>match d with | .int i=>!decide (i∈ord) | _=>false) (φ:=id) ?_ ?_
    · intro x hx
      obtain⟨k,hk,rfl⟩:=Ai hx
      exact fQ (aQ rfl rfl (Yu true _ ord))
    · intro x hx _
      obtain⟨k,hk,rfl⟩:=Ai hx
      exact bJ rfl rfl
  · rw[List.map_id,e,List.filter_map]
    rfl
theorem JZ{i a b:Nat}{f f' g:FE}{env:EN}{s:List (List (List Int))}{q:List (List Int)}{t:List Int}(h1:env[i]?=some (.own (bO s)))(h2:g (rE env)=some (.int (a:Int)))(h3:f (rE env)=some (.int (b:Int)))(h4:f' (rE env)=some (dTup t))(h5:s[a]?=some q)(h6:b<q.length) :
  Gn i (WK fG g) f f' env=.next (env.set i (.own (bO (s.set a (q.set b t))))):=by
 have hk:(s.map gC)[a]?=some (gC q):=by rw[C5,h5];rfl
 have hp:WK fG g (rE env)=some [.ix a]:=by
  unfold WK fG
  rw[B7,h2,B7]
  dsimp only
  rw[if_pos (by omega),D9]
  rfl
 have hget:fD [.ix a] (bO s)=some (.lst (q.map dTup)):=by
  show ((s.map gC)[a]?).bind (fD [])=_
  rw[hk]
  rfl
 have aHK:∀d:List D,eN [.ix a] (bO s) (.lst d)=.lst ((s.map gC).set a (.lst d)):=λd=>by
  show (match (s.map gC)[a]? with | some c=>_ | none=>_)=_
  rw[hk]
  rfl
 have hix:UJ (q.map dTup).length (b:Int)=some b:=by
  unfold UJ
  rw[if_pos (by omega),if_pos (by rw[B8];omega),D9]
 unfold Gn
 rw[h1,hp,h3,h4]
 dsimp only
 rw[hget]
 dsimp only
 rw[hix]
 dsimp only
 rw[aHK,←List.map_set]
 show SR.next (env.set i (.own (.lst ((s.map gC).set a (gC (q.set b t))))))=_
 rw[←List.map_set]
 rfl
theorem yc(ns:List Int):∃P R:Nat,tW [aN ns]=some (.tup [.int P,.int R])∧1≤P∧P≤8∧1≤R∧R≤8:=by
 suffices hh:∃d,tW [aN ns]=some d∧∃P R:Nat,d=.tup [.int P,.int R]∧1≤P∧P≤8∧1≤R∧R≤8 by
  obtain⟨d,e,P,R,rfl,q⟩:=hh
  exact⟨P,R,e,q⟩
 refine wR rfl ?_
 unfold Rw
 have hcell:=oZ ns 0
 generalize ns.getD 0 0=c at hcell
 have aEM:cH [aN ns,.int 0]=some (.int c):=hcell
 refine eQ (d:=.int c) (bK (aA rfl (aA rfl rfl)) rfl aEM) (by exact Nat.le_of_ble_eq_true rfl) ?_
 have nn:∀{a m:Int},0<m→m≤8→∃P:Nat,1+a%m=(P:Int)∧1≤P∧P≤8:=λ{a m} h h2=>by
  have h0:=K7 a (show m≠0 by omega)
  have h1:=J1 a h
  exact⟨(1+a%m).toNat,by omega,by omega,by omega⟩
 refine Oo (fQ (aQ (aQ (aQ rfl rfl (iR (by decide) (by decide))) rfl (bM (by decide))) rfl (lF _ _))) (λ_=>?_) λ_=>Lp ?_
 ·obtain⟨P,e1,p1,p2⟩:=nn (a:=c) (m:=8) (by decide) (by decide)
  obtain⟨R,e2,r1,r2⟩:=nn (a:=c/240) (m:=8) (by decide) (by decide)
  exact ue ((oH (aA (aQ rfl (aQ rfl rfl (bM (by decide))) (bT _ _)) (aA (aQ rfl (aQ (aQ rfl rfl (iR (by decide) (by decide))) rfl (bM (by decide))) (bT _ _)) rfl)) (by exact Nat.le_of_ble_eq_true rfl)).trans (by rw[e1,e2])) ⟨_,rfl,P,R,rfl,p1,p2,r1,r2⟩
 ·obtain⟨P,e1,p1,p2⟩:=nn (a:=c) (m:=5) (by decide) (by decide)
  obtain⟨R,e2,r1,r2⟩:=nn (a:=c/5) (m:=6) (by decide) (by decide)
  exact Ew ((oH (aA (aQ rfl (aQ rfl rfl (bM (by decide))) (bT _ _)) (aA (aQ rfl (aQ (aQ rfl rfl (iR (by decide) (by decide))) rfl (bM (by decide))) (bT _ _)) rfl)) (by exact Nat.le_of_ble_eq_true rfl)).trans (by rw[e1,e2])) ⟨_,rfl,P,R,rfl,p1,p2,r1,r2⟩
theorem xV(c:Int){k:Int}(h0:0≤k)(h1:k≤100000):∃m:Int,iU [.int c,.int k]=some (.int m)∧0≤m∧m<2147483587:=by
 suffices hh:∃d,iU [.int c,.int k]=some d∧∃m:Int,d=.int m∧0≤m∧m<2147483587 by
  obtain⟨d,e,m,rfl,q⟩:=hh
  exact⟨m,e,q⟩
 refine wR rfl ?_
 unfold Rx
 have a0:=K7 c (show (2147483629:Int)≠0 by decide)
 have a1:=J1 c (show (0:Int)<2147483629 by decide)
 refine eQ (aQ (aQ (aQ (aQ rfl rfl (bM (by decide))) rfl (bT _ _)) (aQ rfl (aQ (aQ rfl rfl (gM (Eu (by decide) (by decide)))) rfl (gM (Eu (by omega) (by omega)))) (bT _ _)) (gM (Eu (by omega) (by omega)))) rfl (bM (by decide))) (by exact Nat.le_of_ble_eq_true rfl) ?_
 generalize hn:(c%2147483629+1)*(48271+2*k*k)%2147483629=n
 have n0:0≤n:=by rw[←hn];exact K7 _ (by decide)
 have n1:n<2147483629:=by rw[←hn];exact J1 _ (by decide)
 exact Ew (aQ (aQ rfl rfl (gM (Eu (by omega) (by omega)))) rfl (bM (by decide))) ⟨_,rfl,_,rfl,K7 _ (by decide),J1 _ (by decide)⟩
theorem Nt(c:Int){k:Int}(key f:Int)(h0:0≤k)(h1:k≤1000):∃a b e:Int,nR [.int c,.int k,.int key,.int f]=some (dTup [key,f,a,b,e]):=by
 suffices hh:∃d,nR [.int c,.int k,.int key,.int f]=some d∧∃a b e:Int,d=dTup [key,f,a,b,e] by
  obtain⟨d,q,a,b,e,rfl⟩:=hh
  exact⟨a,b,e,q⟩
 refine wR rfl ?_
 unfold Ma
 obtain⟨p,hp,p0,p1⟩:=xV c (k:=5*k) (by omega) (by omega)
 obtain⟨m,hm,m0,m1⟩:=xV c (k:=5*k+1) (by omega) (by omega)
 have pick:∀(l:List Int)(k:Int),0≤k→k<(l.length:Int)→∃y,lD (aN l) (.int k)=some (.int y):=λl k a b=>⟨_,oV a b⟩
 obtain⟨now,aHL⟩:=pick [0,1,2,m*10 ^ (40:Int).toNat,-1] (p%5) (K7 _ (by decide)) (J1 _ (by decide))
 obtain⟨was,aHM⟩:=pick [-1,0,5,p] (p/90%4) (K7 _ (by decide)) (J1 _ (by decide))
 refine eQ (d:=.int p) (bK (aA rfl (aA (aQ rfl rfl (gM (Eu (by decide) (by decide)))) rfl)) rfl hp) (by exact Nat.le_of_ble_eq_true rfl) ?_
 refine eQ (d:=.int now) (bJ (aQ (gO (aA rfl (aA rfl (aA rfl (aA (aQ (bK (aA rfl (aA (aQ (aQ rfl rfl (gM (Eu (by decide) (by decide)))) rfl (bT _ _)) rfl)) rfl hm) (aQ rfl rfl (wO ⟨by decide,by decide,by decide⟩)) (gM (Eu (by omega) (by omega)))) (aA (mU rfl) rfl))))) (by exact Nat.le_of_ble_eq_true rfl)) (aQ rfl rfl (bM (by decide))) aHL) rfl) (by exact Nat.le_of_ble_eq_true rfl) ?_
 refine eQ (d:=.int 0) rfl (by exact Nat.le_of_ble_eq_true rfl) ?_
 have fin:∀iV:Int,Qs (λr=>∃d,r=.ret d∧∃a b e:Int,d=dTup [key,f,a,b,e]) (aW (zN (fB (f2 Gi (aG 6) (fC (.int 0)))) (cW 5 (fL aBy (aB (aG 5) aK))) iC) (gU (vN (aB (dH (aG 2)) (aB (dH (aG 3)) (aB (dH (f2 lD (lK (aB (tQ (fC (.int 1))) (aB (fC (.int 0)) (aB (fC (.int 5)) (aB (aG 4) aK))))) (f2 jJ (f2 yW (aG 4) (fC (.int 90))) (fC (.int 4))))) (aB (dH (aG 5)) (aB (dH (aG 6)) aK))))))) [.fro (.int c),.fro (.int k),.fro (.int key),.fro (.int f),.own (.int p),.own (.int now),.own (.int iV)]):=λiV=>by
  have last:∀b:Int,Qs (λr=>∃d,r=.ret d∧∃a b e:Int,d=dTup [key,f,a,b,e]) (gU (vN (aB (dH (aG 2)) (aB (dH (aG 3)) (aB (dH (f2 lD (lK (aB (tQ (fC (.int 1))) (aB (fC (.int 0)) (aB (fC (.int 5)) (aB (aG 4) aK))))) (f2 jJ (f2 yW (aG 4) (fC (.int 90))) (fC (.int 4))))) (aB (dH (aG 5)) (aB (dH (aG 6)) aK)))))) [.fro (.int c),.fro (.int k),.fro (.int key),.fro (.int f),.own (.int p),.own (.int b),.own (.int iV)]):=λb=>Ew (oH (aA (bJ rfl rfl) (aA (bJ rfl rfl) (aA (bJ (aQ (gO (aA (mU rfl) (aA rfl (aA rfl (aA rfl rfl)))) (by exact Nat.le_of_ble_eq_true rfl)) (aQ (aQ rfl rfl (iR (by decide) (by decide))) rfl (bM (by decide))) aHM) rfl) (aA (bJ rfl rfl) (aA (bJ rfl rfl) rfl))))) (by exact Nat.le_of_ble_eq_true rfl)) ⟨_,rfl,_,_,_,rfl⟩
  refine Oo (fQ (aQ rfl rfl (lF _ _))) (λ_=>?_) λ_=>Lp (last now)
  exact Ln (rJ (d:=.int (if now<0 then -now else now)) (gR (aA rfl rfl) rfl) (by exact Nat.le_of_ble_eq_true rfl)) (last _)
 refine Oo (fQ (aQ (aQ (aQ rfl rfl (iR (by decide) (by decide))) rfl (bM (by decide))) rfl (lF _ _))) (λ_=>?_) λ_=>Lp (fin 0)
 exact Ln (rJ (aQ rfl (aQ (aQ rfl rfl (iR (by decide) (by decide))) rfl (bM (by decide))) (bT _ _)) (by exact Nat.le_of_ble_eq_true rfl)) (fin _)
def zH(P R:Nat)(rs:List (List Int)):List (List (List Int)):=(D5 P).map λp=>(D5 R).map λr=>rs.getD (p+P*r) []
theorem Ge{P R:Nat}{rs:List (List Int)}{p:Nat}(h:p<P):(zH P R rs)[p]?=some ((D5 R).map λr=>rs.getD (p+P*r) []):=by
 unfold zH
 rw[C5,G7 h]
 rfl
theorem yd{P x:Nat}{p r:Nat}(hp:p<P)(h:p+P*r=x):x%P=p∧x/P=r:=by
 subst h
 exact⟨by rw[Nat.add_mul_mod_self_left,Nat.mod_eq_of_lt hp],by rw[Nat.add_mul_div_left _ _ (by omega),Nat.div_eq_of_lt hp,Q3]⟩
theorem yf{P R x:Nat}{rs:List (List Int)}{t:List Int}(hP:0<P)(h:x<P*R)(hl:rs.length=P*R):(zH P R rs).set (x%P) (((D5 R).map λr=>rs.getD (x%P+P*r) []).set (x/P) t)=zH P R (rs.set x t):=by
 have a:=T7 x hP
 have b:x/P<R:=U1 h
 apply M6
 intro p
 rw[L3,show (zH P R rs).length=P by unfold zH;rw[B8,E6]]
 by_cases hp:p<P
 ·rw[Ge hp,Ge hp]
  by_cases e:x%P=p
  ·rw[if_pos e,if_pos a]
   congr 1
   apply M6
   intro r
   rw[L3,B8,E6,C5,C5]
   by_cases hr:r<R
   ·rw[G7 hr,G4,G4,oY _ _ _ _ _ (by omega)]
    by_cases e2:x/P=r
    ·rw[if_pos e2,if_pos b,if_pos (by rw[←e,←e2];exact(i8 x P).symm)]
    ·rw[if_neg e2,if_neg λz=>e2 (yd hp z.symm).2,e]
   ·rw[G2 (by rw[E6];omega)]
    rw[if_neg (by omega)]
    rfl
  ·rw[if_neg e]
   congr 1
   apply R0
   intro r hr
   have:=wz hp (J8.mp hr)
   rw[oY _ _ _ _ _ (by omega),if_neg λz=>e (yd hp z.symm).1]
 ·rw[if_neg (by omega)]
  unfold zH
  rw[C5,C5,G2 (by rw[E6];omega)]
  rfl
theorem BK{i P R x:Nat}{f f' g:FE}{env:EN}{rs:List (List Int)}{t:List Int}(hP:0<P)(h:x<P*R)(hl:rs.length=P*R)(h1:env[i]?=some (.own (bO (zH P R rs))))(h2:g (rE env)=some (.int ((x:Int)%(P:Int))))(h3:f (rE env)=some (.int ((x:Int)/(P:Int))))(h4:f' (rE env)=some (dTup t)) :
  Gn i (WK fG g) f f' env=.next (env.set i (.own (bO (zH P R (rs.set x t))))):=by
 rw[←g8]at h2
 rw[←g9]at h3
 rw[JZ (a:=x%P) (b:=x/P) h1 h2 h3 h4 (Ge (T7 x hP)) (by rw[B8,E6];exact U1 h),yf hP h hl]
structure Built(P R:Nat)(rs:List (List Int))(od:List Int):Prop where
 p1:1≤P
 p8:P≤8
 r1:1≤R
 r8:R≤8
 len:rs.length=P*R
 five:∀k,k<P*R→(rs.getD k []).length=5
 BX:od.Nodup
 Pj:∀x∈od,1≤x∧x<(P*R:Nat)
 chain:Chain rs od
 key:od.Pairwise λx y=>(rs.getD x.toNat []).getD 0 0<(rs.getD y.toNat []).getD 0 0
theorem yg{ns:List Int}:∃(P R:Nat)(rs:List (List Int))(bB od:List Int),tY [aN ns]=some (bO (bG P R rs bB))∧Built P R rs od:=by
 suffices hh:∃d,tY [aN ns]=some d∧∃(P R:Nat)(rs:List (List Int))(bB od:List Int),d=bO (bG P R rs bB)∧Built P R rs od by
  obtain⟨d,e,P,R,rs,bB,od,rfl,q⟩:=hh
  exact⟨P,R,rs,bB,od,e,q⟩
 refine wR rfl ?_
 unfold Ry
 obtain⟨P,R,hsz,p1,p8,r1,r8⟩:=yc ns
 have hm0:0<P*R:=Y3 p1 r1
 have aBW:P*R≤8*8:=U6 p8 r8
 have hPR:((P:Int)*(R:Int))=((P*R:Nat):Int):=(X9 P R).symm
 generalize hM:P*R=M at *
 have hP0:(0:Int)<P:=by omega
 have hP9:(P:Int)<1073741824:=by omega
 have hmul:∀{env:EN},(rE env)[1]?=some (some (.int (P:Int)))→(rE env)[2]?=some (some (.int (R:Int)))→f2 vO (aG 1) (aG 2) (rE env)=some (.int (M:Int)):=λh1 h2=>(aQ (Im h1) (Im h2) (gM (Eu (by omega) (by omega)))).trans (by rw[hPR])
 refine aGl (ds:=[.int P,.int R]) (bK (aA rfl rfl) rfl hsz) rfl rfl ?_
 have hsp:fL Cp (aB (fC (.int 1)) (aB (f2 vO (aG 1) (aG 2)) aK)) (rE (rH ([aN ns].map SD.fro++E7 (11-1) SD.no) [1,2] [.int P,.int R]))=some (aN (lC M)):=by
  refine(gR (aA rfl (aA (hmul rfl rfl) rfl)) (show Cp [.int 1,.int (M:Int)]=some _ from if_pos ⟨by decide,by decide,by omega,by omega⟩)).trans ?_
  unfold aN lC
  rw[K0,show ((M:Int)-1).toNat=M-1 by omega]
  rfl
 refine eQ hsp (by exact Nat.le_of_ble_eq_true rfl) ?_
 refine eQ (d:=aN [0]) rfl (by exact Nat.le_of_ble_eq_true rfl) ?_
 have hc1:cH [aN ns,.int 1]=some (.int (ns.getD 1 0)):=oZ ns 1
 have hc2:cH [aN ns,.int 2]=some (.int (ns.getD 2 0)):=oZ ns 2
 generalize ns.getD 1 0=c1 at hc1
 generalize ns.getD 2 0=c at hc2
 have b0:=K7 c1 (show (M:Int)≠0 by omega)
 have b1:=J1 c1 (show 0<(M:Int) by omega)
 refine Io (n:=(c1%(M:Int)).toNat) (λk env=>∃(sp bs:List Int)(v:SD),env=[.fro (aN ns),.own (.int P),.own (.int R),.own (aN sp),.own (aN (0::bs)),v,.no,.no,.no,.no,.no]∧bs.length=k∧(bs++sp).Perm (lC M)) (Ys (aA (aQ (bK (aA rfl (aA rfl rfl)) rfl hc1) (hmul rfl rfl) (bM (by omega))) rfl) (by omega) (by omega)) ⟨lC M,[],_,rfl,rfl,R7 _⟩ ?_ ?_
 ·rintro k env hk ⟨sp,bs,v,rfl,hb,hp⟩
  refine⟨by walk_at "lt", ?_⟩
  have hlen:=hp.length_eq
  rw[D4,hb,show (lC M).length=M-1 by unfold lC;rw[B8,E6]]at hlen
  obtain⟨m,hm,_,_⟩:=xV c1 (k:=(k:Int)) (by omega) (by omega)
  have i0:=K7 m (show (sp.length:Int)≠0 by omega)
  have i1:=J1 m (show 0<(sp.length:Int) by omega)
  refine⟨_,Vc (ns:=0::bs) (ms:=sp) (k:=m%(sp.length:Int)) rfl rfl (aQ (bK (aA (bK (aA rfl (aA rfl rfl)) rfl hc1) (aA rfl rfl)) rfl hm) (gR (aA rfl rfl) (nQ _)) (bM (by omega))) (by decide) (by simp;omega) (by omega) i0 i1,sp.eraseIdx (m%(sp.length:Int)).toNat,bs++[sp.getD (m%(sp.length:Int)).toNat 0],_,rfl,by rw[D4,hb];rfl,?_⟩
  rw[d8]
  exact(Y5 bs (Lq sp _ 0 (by omega))).trans hp
 rintro env ⟨sp,bs,v5,rfl,hb,hp⟩
 have hnd:(bs++sp).Nodup:=hp.nodup_iff.mpr (by
  unfold lC
  refine e9 _ (λa b (h:a≠b)=>by omega) h8)
 have hmem:∀x,x∈bs++sp→1≤x∧x<(M:Int):=λx hx=>by
  have:=hp.mem_iff.mp hx
  unfold lC at this
  obtain⟨i,hi,rfl⟩:=G8.mp this
  have:=J8.mp hi
  omega
 have hbn:=(Q1.mp hnd).1
 have hbm:∀x∈bs,1≤x∧x<(M:Int):=λx hx=>hmem x (M4 _ hx)
 have hsm:∀x∈sp,1≤x∧x<(M:Int):=λx hx=>hmem x (F2 _ hx)
 have aJE:sp.length≤M:=by
  have:=hp.length_eq
  rw[D4,show (lC M).length=M-1 by unfold lC;rw[B8,E6]]at this
  omega
 have hbl:bs.length<M:=by omega
 generalize aEN:E7 M ([0,0,-1,-1,0]:List Int)=rs0
 have hl0:rs0.length=M:=by rw[←aEN,S8]
 have aGv:jM (pK (aB (aG 1) aK)) [2] qI (jM (pK (aB (aG 1) aK)) [] qI (vN (aB (fC (.int 0)) (aB (fC (.int 0)) (aB (tQ (fC (.int 1))) (aB (tQ (fC (.int 1))) (aB (fC (.int 0)) aK))))))) (rE [.fro (aN ns),.own (.int P),.own (.int R),.own (aN sp),.own (aN (0::bs)),v5,.no,.no,.no,.no,.no])=some (bO (zH P R rs0)):=by
  refine(Al (n:=P) (φ:=λp=>gC ((D5 R).map λr=>rs0.getD (p+P*r) [])) (yK (aA rfl rfl) (by omega)) (by omega) λp hp=>?_).trans ?_
  ·refine(Al (n:=R) (φ:=λr=>dTup (rs0.getD (p+P*r) [])) (yK (aA rfl rfl) (by omega)) (by omega) λr hr=>?_).trans ?_
   ·have:=wz hp hr
    rw[←aEN,C4,P7,if_pos (by omega)]
    exact oH (aA rfl (aA rfl (aA (mU rfl) (aA (mU rfl) (aA rfl rfl))))) (by exact Nat.le_of_ble_eq_true rfl)
   ·unfold gC
    rw[K0]
    rfl
  ·show _=some (D.lst ((zH P R rs0).map gC))
   unfold zH
   rw[K0]
   rfl
 refine eQ aGv (by exact Nat.le_of_ble_eq_true rfl) ?_
 refine eQ (d:=.int c) (bK (aA rfl (aA rfl rfl)) rfl hc2) (by exact Nat.le_of_ble_eq_true rfl) ?_
 have p9:(0:Int)<10 ^ (9:Int).toNat:=Y2 (by decide)
 have p58:(0:Int)<10 ^ (58:Int).toNat:=Y2 (by decide)
 have hpw:∀n:Int,0≤n→n<100→Od (.int 10) (.int n)=some (.int (10 ^ n.toNat)):=λn a b=>wO ⟨a,by omega,by omega⟩
 have f5:∀{l:List (List Int)} {x:Nat} {t:List Int},l.length=M→x<M→t.length=5→(∀k,k<M→(l.getD k []).length=5)→∀k,k<M→((l.set x t).getD k []).length=5:=λ{l x t} h1 h2 h3 h4 k hk=>by
  rw[oY _ _ _ _ _ (by omega)]
  split
  ·exact h3
  ·exact h4 k hk
 refine aGk (xs:=sp.map D.int) (λk env=>∃(rs:List (List Int))(v:SD),env=[.fro (aN ns),.own (.int P),.own (.int R),.fro (aN sp),.own (aN (0::bs)),v5,.own (bO (zH P R rs)),.own (.int c),v,.no,.no]∧rs.length=M∧∀k,k<M→(rs.getD k []).length=5) rfl (oW rfl) ⟨rs0,_,rfl,hl0,λk hk=>by rw[←aEN,C4,P7,if_pos hk];rfl⟩ ?_ ?_
 ·rintro k x env hx ⟨rs,v,rfl,hl,h5⟩
  refine⟨by walk_at "lt", ?_⟩
  rw[C5]at hx
  obtain⟨y,hy,rfl⟩:=mF hx
  have ym:=hsm y (F6 hy)
  obtain⟨a,b,e,hrec⟩:=Nt c (k:=y) (c%10 ^ (9:Int).toNat) (y*y%(M:Int)) (by omega) (by omega)
  have ye:((y.toNat:Nat):Int)=y:=by omega
  refine⟨_,BK (x:=y.toNat) (t:=[c%10 ^ (9:Int).toNat,y*y%(M:Int),a,b,e]) p1 (by rw[hM];omega) (by rw[hM];exact hl) rfl (by rw[ye];exact aQ rfl rfl (bM hP0)) (by rw[ye];exact aQ rfl rfl (iR hP0 hP9)) (bK (aA rfl (aA rfl (aA (aQ rfl (aQ rfl rfl (hpw 9 (by decide) (by decide))) (bM p9)) (aA (aQ (aQ rfl rfl (gM (Eu (by omega) (by omega)))) (hmul rfl rfl) (bM (by omega))) rfl)))) rfl hrec),_,_,rfl,by rw[M8];exact hl,f5 hl (by omega) rfl h5⟩
 rintro env ⟨rs1,v8,rfl,hl1,h51⟩
 refine eQ (d:=.int (c%10 ^ (58:Int).toNat)) (aQ rfl (aQ rfl rfl (hpw 58 (by decide) (by decide))) (bM p58)) (by exact Nat.le_of_ble_eq_true rfl) ?_
 have hb0:∀i,i<bs.length+1→0≤(0::bs).getD i 0∧(0::bs).getD i 0<(M:Int):=λi hi=>by
  have:=getD_mem (l:=0::bs) (k:=i) (by simp;omega)
  rcases C6.mp this with z | z
  ·rw[z];omega
  ·have:=hbm _ z;omega
 have aEO:(0::bs).Nodup:=M7.mpr ⟨λz=>by have:=hbm 0 z;omega,hbn⟩
 refine Io (n:=bs.length+1) (λk env=>∃(rs:List (List Int))(key:Int)(v5 v8:SD),env=[.fro (aN ns),.own (.int P),.own (.int R),.fro (aN sp),.own (aN (0::bs)),v5,.own (bO (zH P R rs)),.own (.int c),v8,.own (.int key),.no]∧rs.length=M∧(∀k,k<M→(rs.getD k []).length=5) ∧
   (∀i,i<k→∃y was now iV:Int,rs[((0::bs).getD i 0).toNat]?=some [y,(bs++[0]).getD i 0,was,now,iV]∧y<key)∧(∀i j,i<j→j<k→(rs.getD ((0::bs).getD i 0).toNat []).getD 0 0<(rs.getD ((0::bs).getD j 0).toNat []).getD 0 0)) (yK (aA ((gR (aA rfl rfl) (nQ _)).trans rfl) rfl) (by omega)) ⟨rs1,_,_,_,rfl,hl1,h51,λi hi=>absurd hi (L5 _),λi j _ hj=>absurd hj (L5 _)⟩ ?_ ?_
 ·rintro k env hk ⟨rs,key,w5,w8,rfl,hl,h5,hch,hke⟩
  refine⟨by walk_at "lt", ?_⟩
  obtain⟨x0,x1⟩:=hb0 k hk
  generalize hx:(0::bs).getD k 0=x at *
  have xe:((x.toNat:Nat):Int)=x:=by omega
  have ix:lD (aN (0::bs)) (.int (k:Int))=some (.int x):=(oV (by omega) (by simp;omega)).trans (by rw[D9,hx])
  have ixn:lD (aN ((0::bs)++[0])) (.int ((k:Int)+1))=some (.int ((bs++[0]).getD k 0)):=(oV (by omega) (by simp;omega)).trans (by rw[show ((k:Int)+1).toNat=k+1 by omega];rfl)
  obtain⟨a,b,e,hrec⟩:=Nt c (k:=(k:Int)+100) key ((bs++[0]).getD k 0) (by omega) (by omega)
  obtain⟨m,hm,m0,m1⟩:=xV c (k:=(k:Int)+7) (by omega) (by omega)
  refine eQ (d:=.int x) (bJ (aQ rfl rfl ix) rfl) (by exact Nat.le_of_ble_eq_true rfl) ?_
  refine Ln (BK (x:=x.toNat) (t:=[key,(bs++[0]).getD k 0,a,b,e]) p1 (by rw[hM];omega) (by rw[hM];exact hl) rfl (by rw[xe];exact aQ rfl rfl (bM hP0)) (by rw[xe];exact aQ rfl rfl (iR hP0 hP9)) (bK (aA rfl (aA (aQ rfl rfl (bT _ _)) (aA rfl (aA (aQ (aQ rfl (gO (aA rfl rfl) (by exact Nat.le_of_ble_eq_true rfl)) (Am (0::bs) [0] (by simp;omega))) (aQ rfl rfl (bT _ _)) ixn) rfl)))) rfl hrec)) ?_
  have c20:=K7 c (show (2:Int)≠0 by decide)
  have c21:=J1 c (show (0:Int)<2 by decide)
  have pos:∃z:Int,0≤z∧lD (aN [1,10 ^ (40:Int).toNat]) (.int (c%2))=some (.int z):=by
   rcases(show c%2=0∨c%2=1 by omega)with z | z
   ·exact⟨1,by decide,by rw[z];rfl⟩
   ·exact⟨10 ^ (40:Int).toNat,R6 (Y2 (by decide)),by rw[z];rfl⟩
  obtain⟨z,z0,hz⟩:=pos
  have mm:=K7 m (show (3:Int)≠0 by decide)
  have mm1:=J1 m (show (0:Int)<3 by decide)
  have hst:0≤m%3*z:=Int.mul_nonneg mm z0
  refine aEo (d:=.int (key+1+m%3*z)) (aQ (aQ rfl rfl (bT _ _)) (aQ (aQ (bK (aA rfl (aA (aQ rfl rfl (bT _ _)) rfl)) rfl hm) rfl (bM (by decide))) (aQ (gO (aA rfl (aA (aQ rfl rfl (hpw 40 (by decide) (by decide))) rfl)) (by exact Nat.le_of_ble_eq_true rfl)) (aQ rfl rfl (bM (by decide))) hz) (gM (Eu (by omega) (by omega)))) (bT _ _)) (by exact Nat.le_of_ble_eq_true rfl) ⟨_,rfl,_,_,_,_,rfl,by rw[M8];exact hl,f5 hl (by omega) rfl h5,?_,?_⟩
  ·intro i hi
   rcases L7 i k with q | q
   ·obtain⟨y,was,now,iV,h1,h2⟩:=hch i q
    have hi0:=hb0 i (by omega)
    have ne:(0::bs).getD i 0≠x:=by rw[←hx];exact xU aEO (by simp;omega) (by simp;omega) (by omega)
    exact⟨y,was,now,iV,by rw[Q4 (by omega)];exact h1,by omega⟩
   ·have:i=k:=by omega
    subst this
    rw[hx]
    exact⟨key,a,b,e,by rw[F9 (by omega)],by omega⟩
  ·intro i j hij hj
   have hi0:=hb0 i (by omega)
   have nei:(0::bs).getD i 0≠x:=by rw[←hx];exact xU aEO (by simp;omega) (by simp;omega) (by omega)
   rw[oY _ _ _ _ _ (by omega),if_neg (by omega)]
   rcases L7 j k with q | q
   ·have hj0:=hb0 j (by omega)
    have nej:(0::bs).getD j 0≠x:=by rw[←hx];exact xU aEO (by simp;omega) (by simp;omega) (by omega)
    rw[oY _ _ _ _ _ (by omega),if_neg (by omega)]
    exact hke i j hij q
   ·have:j=k:=by omega
    subst this
    rw[hx,oY _ _ _ _ _ (by omega),if_pos rfl]
    obtain⟨y,was,now,iV,h1,h2⟩:=hch i hij
    rw[rK h1]
    exact h2
 rintro env ⟨rs,key,w5,w8,rfl,hl,h5,hch,hke⟩
 refine Io (n:=P) (λk env=>∃(se:List Int)(v:SD),env=[.fro (aN ns),.own (.int P),.own (.int R),.fro (aN sp),.own (aN (0::bs)),w5,.own (bO ((D5 P).map λp=>((D5 R).map λr=>rs.getD (p+P*r) [])++(if p<k then [[se.getD p 0]]else []))),.own (.int c),w8,.own (.int key),v]∧se.length=k) (yK (aA rfl rfl) (by omega)) ⟨[],_,by
   have:(D5 P).map (λp=>((D5 R).map λr=>rs.getD (p+P*r) [])++(if p<0 then [[([]:List Int).getD p 0]]else []))=zH P R rs:=by
    unfold zH
    apply R0
    intro p _
    rw[if_neg (L5 _),G0]
   rw[this],rfl⟩ ?_ ?_
 ·rintro k env hk ⟨se,v,rfl,hse⟩
  refine⟨by walk_at "lt", ?_⟩
  obtain⟨m,hm,_,_⟩:=xV c (k:=(k:Int)+70) (by omega) (by omega)
  generalize hS:((D5 P).map λp=>((D5 R).map λr=>rs.getD (p+P*r) [])++(if p<k then [[se.getD p 0]]else []))=S
  have hk2:S[k]?=some ((D5 R).map λr=>rs.getD (k+P*r) []):=by
   rw[←hS,C5,G7 hk,G4,if_neg (J7 _),G0]
  have hgp:fD [.ix k] (bO S)=some (.lst (((D5 R).map λr=>rs.getD (k+P*r) []).map dTup)):=uz (by rw[C5,hk2];rfl)
  refine⟨_,Vg (p:=[.ix k]) (d:=dTup [m%10]) rfl (by
   show WK fG (aG 10) _=_
   rw[aED (k:=(k:Int)) rfl rfl (by omega),D9]
   rfl) hgp (oH (aA (aQ (bK (aA rfl (aA (aQ rfl rfl (bT _ _)) rfl)) rfl hm) rfl (bM (by decide))) rfl) (by exact Nat.le_of_ble_eq_true rfl)) (by rw[B8,B8,E6];omega),se++[m%10],.fro (.int k),?_,by rw[D4,hse];rfl⟩
  rw[show eN [.ix k] (bO S) (.lst (((D5 R).map λr=>rs.getD (k+P*r) []).map dTup++[dTup [m%10]]))=bO ((D5 P).map λp=>((D5 R).map λr=>rs.getD (p+P*r) [])++(if p<k+1 then [[(se++[m%10]).getD p 0]]else []))from ?_]
  ·rfl
  refine(vd (y:=gC _) (by rw[C5,hk2];rfl)).trans ?_
  refine congrArg D.lst (?_:(S.map gC).set k _=_)
  apply M6
  intro p
  rw[L3,B8,←hS,B8,E6,C5,C5,C5,C5]
  by_cases hp:p<P
  ·rw[G7 hp]
   by_cases e:k=p
   ·subst e
    rw[if_pos rfl,if_pos hp,G4,G4,if_pos (by omega),C4,N2 (by omega),hse,c7]
    unfold gC
    rw[K3]
    rfl
   ·rw[if_neg e,G4,G4,G4,G4]
    by_cases q:p<k
    ·rw[if_pos q,if_pos (by omega),C4,C4,G3 (by omega)]
    ·rw[if_neg q,if_neg (by omega)]
  ·rw[if_neg (by omega),G2 (by rw[E6];omega)]
   rfl
 rintro env ⟨se,v,rfl,hse⟩
 refine IV rfl ⟨_,rfl,P,R,rs,se,bs,?_,⟨p1,p8,r1,r8,by rw[hM];exact hl,by rw[hM];exact h5,hbn,by rw[hM];exact hbm,?_,?_⟩⟩
 ·refine congrArg kZ ?_
  unfold bG
  apply R0
  intro p hp
  rw[if_pos (J8.mp hp)]
 ·intro k hk
  obtain⟨y,was,now,iV,h1,_⟩:=hch k (by omega)
  exact⟨y,was,now,iV,h1⟩
 ·rw[N4]
  intro i j hi hj hij
  have:=hke (i+1) (j+1) (by omega) (by omega)
  have ei:(0::bs).getD (i+1) 0=bs[i]:=by rw[U3,C4,B6 hi];rfl
  have ej:(0::bs).getD (j+1) 0=bs[j]:=by rw[U3,C4,B6 hj];rfl
  rw[ei,ej]at this
  exact this
theorem aBX{P R:Nat}{bV:List (List Int)}{bB:List Int}(hP:0<P)(hP8:P≤8):lQ [bO (bG P R bV bB)]=some (.int ((P*R:Nat):Int)):=by
 refine mR rfl ?_
 unfold Av
 apply dO
 have hls:=Gd (bG P R bV bB)
 rw[zY]at hls
 have h0:(bG P R bV bB)[0]?=some _:=Wa (p:=0) hP
 have hix:lD (bO (bG P R bV bB)) (.int 0)=some (gC _):=Nr (k:=0) h0
 have hlp:=Ng (((D5 R).map λr=>bV.getD (0+P*r) [])++[[bB.getD 0 0]])
 rw[RP (F6 h0)]at hlp
 rw[X9]
 have e:(R:Int)=((R+1:Nat):Int)-1:=by omega
 rw[e]
 exact aQ (gR (aA rfl rfl) hls) (aQ (gR (aA (aQ rfl rfl hix) rfl) hlp) rfl (Cv _ _)) (gM (Eu (by omega) (by omega)))
def Wb.first(P R:Nat)(rs:List (List Int))(bB od:List Int):Wb:=⟨⟨bG P R rs bB,[],[],[],[]⟩,rs,od,(lC (P*R)).filter λi=>!decide (i∈od),⟨[],[]⟩,⟨[],[]⟩,⟨[],[]⟩⟩
section
variable{P R:Nat}{rs:List (List Int)}{bB od:List Int}
theorem Built.ok(h:Built P R rs od):lR (Wb.first P R rs bB od):=by
 have aBW:P*R≤8*8:=U6 h.p8 h.r8
 have hm0:0<P*R:=Y3 h.p1 h.r1
 have hpl:(Wb.first P R rs bB od).P=P:=zY _ _ _ _
 have box:∀k,k<P*R→∃q,(bG P R rs bB)[k%P]?=some q∧q[k/P]?=some (rs.getD k []):=λk hk=>xn h.p1 hk
 have hb:∀k,k<rs.length→k<P*R:=λk hk=>by rw[←h.len];exact hk
 refine⟨Pg.init (by rw[zY];exact h.p8),by rw[hpl];exact h.p1,?_,?_,?_,?_,?_,⟨rfl,C8 _⟩,⟨rfl,C8 _⟩,⟨rfl,C8 _⟩,nofun,nofun,h.BX,?_,?_,?_,h.key,λk hk=>absurd hk (L5 _)⟩
 ·intro k hk
  rw[hpl]
  obtain⟨q,q1,q2⟩:=box k (hb k hk)
  show k/P<((bG P R rs bB).getD (k%P) []).length
  rw[rK q1]
  exact(D3.mp q2).1
 ·show rs.length≤64
  rw[h.len]
  exact aBW
 ·show 0<rs.length
  rw[h.len]
  exact hm0
 ·intro k hk
  rw[hpl]
  obtain⟨q,q1,q2⟩:=box k (hb k hk)
  refine⟨?_,h.five k (hb k hk)⟩
  show rs.getD k []=((bG P R rs bB).getD ((k%P:Nat):Int).toNat []).getD ((k/P:Nat):Int).toNat []
  rw[D9,D9,rK q1,rK q2]
 ·intro k hk
  rfl
 ·intro x hx
  show 1≤x∧x<(rs.length:Int)
  rw[h.len]
  exact h.Pj x hx
 ·refine List.Nodup.sublist List.filter_sublist ?_
  unfold lC
  exact e9 _ (λa b (h:a≠b)=>by omega) h8
 ·intro x
  show x∈(lC (P*R)).filter _↔1≤x∧x<(rs.length:Int)∧x∉od
  rw[h.len,T2]
  unfold lC
  rw[G8]
  constructor
  ·rintro⟨⟨i,hi,rfl⟩,z⟩
   have:=J8.mp hi
   exact⟨by omega,by omega,by simpa using z⟩
  ·rintro⟨z1,z2,z3⟩
   exact⟨⟨(x-1).toNat,J8.mpr (by omega),by omega⟩,by simpa using z3⟩
theorem Tc{Pr:SR→Prop}{v:V}{C:Addr}{nm:List Str}{ds:List D}{x:Str}{f:FE}{g:GS}{d:D}{rest:EN}(h:f (rE (.own (.ins C nm ds)::rest))=some d)(hx:posK nm x=none)(hl:nm.length<900)(k:Qs Pr (g (.inn v (.ins C (nm++[x]) (ds++[d]))::rest))):Qs Pr (aW (jA 0 (tR C 0 fG x f)) g (.inn v (.ins C nm ds)::rest)):=qQ rfl (qW (p:=[]) rfl rfl rfl h hl hx) rfl k
theorem aEP{Pr:SR→Prop}{v:V}{C:Addr}{nm:List Str}{ds:List D}{x:Str}{f:FE}{d:D}{rest:EN}(h:f (rE (.own (.ins C nm ds)::rest))=some d)(hx:posK nm x=none)(hl:nm.length<900)(k:Pr (.next (.inn v (.ins C (nm++[x]) (ds++[d]))::rest))):Qs Pr (jA 0 (tR C 0 fG x f) (.inn v (.ins C nm ds)::rest)):=um rfl (qW (p:=[]) rfl rfl rfl h hl hx) rfl k
variable(κ:Nat→Addr)
theorem yh(h:Built P R rs od):rP κ [.ins (κ 21) [] [],bO (bG P R rs bB)]=some (.non,iD κ (Wb.first P R rs bB od)):=by
 refine oJ rfl λv=>?_
 have aBW:P*R≤8*8:=U6 h.p8 h.r8
 have h64:od.length≤64:=by
  have:=tV (P*R) od h.BX λx hx=>by have:=h.Pj x hx;omega
  omega
 have hl:=zY P R rs bB
 have xx:=aBX (R:=R) (bV:=rs) (bB:=bB) h.p1 h.p8
 have hbn:qT κ [.ins (κ 20) [] [],bO (bG P R rs bB)]=_:=aBN κ (qX:=bG P R rs bB) (by rw[hl];exact h.p8)
 have hstr:=Sy (bB:=bB) h.p1 h.p8 h.r1 h.chain h.Pj h.BX h64
 have hlo:=xu (bB:=bB) h.p1 h.p8 h.r1 h.r8 h.chain h.Pj h.BX h64
 have hso:∀k:Nat,uP [bO (bG P R rs bB),.int (k:Int)]=some (dTup [((k%P:Nat):Int),((k/P:Nat):Int)]):=λk=>(RN (by rw[hl];exact h.p1) (by rw[hl];have:=h.p8;omega)).trans (by rw[hl,g8,g9])
 have hwv:iD κ (Wb.first P R rs bB od)=.ins (κ 21) rA [dD (κ 20) ⟨bG P R rs bB,[],[],[],[]⟩,ZL P (P*R),aN od,aN ((lC (P*R)).filter λi=>!decide (i∈od)),Nx ⟨[],[]⟩,Nx ⟨[],[]⟩,Nx ⟨[],[]⟩]:=by
  unfold iD Wb.P Wb.first
  dsimp only
  rw[hl,h.len]
 rw[hwv]
 clear hwv
 generalize bO (bG P R rs bB)=st at *
 generalize dD (κ 20) ⟨bG P R rs bB,[],[],[],[]⟩=bd at *
 generalize ((lC (P*R)).filter λi=>!decide (i∈od))=lo at *
 suffices hh:Qs (Yb .non (.ins (κ 21) rA [bd,ZL P (P*R),aN od,aN lo,Nx ⟨[],[]⟩,Nx ⟨[],[]⟩,Nx ⟨[],[]⟩]) v) (wW κ [.inn v (.ins (κ 21) [] []),.fro st])from hh
 unfold wW
 refine Tc (d:=bd) (Yz (aA rfl rfl) hbn) rfl (by decide) ?_
 refine Tc (d:=ZL P (P*R)) (Al (n:=P*R) (yK (aA (bK (aA rfl rfl) rfl xx) rfl) (by omega)) (by omega) λk hk=>bK (aA rfl (aA rfl rfl)) rfl (hso k)) (by decide +kernel) (by decide) ?_
 refine Tc (d:=aN od) (bK (aA rfl rfl) rfl hstr) (by decide +kernel) (by decide) ?_
 refine Tc (d:=aN lo) (bK (aA rfl rfl) rfl hlo) (by decide +kernel) (by decide) ?_
 refine Tc (d:=Nx ⟨[],[]⟩) rfl (by decide +kernel) (by decide) ?_
 refine Tc (d:=Nx ⟨[],[]⟩) rfl (by decide +kernel) (by decide) ?_
 exact aEP (d:=Nx ⟨[],[]⟩) rfl (by decide +kernel) (by decide) ⟨_,.inr ⟨rfl,rfl⟩,rfl⟩
end
theorem ZP{b:Bn}(h:b.gF.length≤8):rR κ [dD (κ 20) b]=some (kZ b.gF):=gH rfl (dO (Ey (xs:=b.gF) (ψ:=gC) (φ:=gC) (oW (cR rfl yP)) (by omega) λx _=>gR (aA rfl rfl) (qC (Cz λd hd=>by
  obtain⟨t,_,rfl⟩:=G8.mp hd
  exact lA t))))
theorem BL{b:Bn}(h:b.held.length<64):oM κ [dD (κ 20) b]=some (aN (sortI b.held)):=gH rfl (dO (gR (aA (cR rfl uy) rfl) (JC h)))
theorem aEQ{Pr:SR→Prop}{gb:GB}{g1 g2:GS}{env env':EN}(h:gb env=some (false,env'))(k:Qs Pr (g2 env')):Qs Pr (Xy gb g1 g2 env):=by unfold Qs at *;rw[JW h];exact k
theorem aBY(l:List Int):Hv (aN l) (.lst [])=some (.bl (!decide (l=[]))):=Yy l []
theorem aBZ(a b:Str):Gi (.str a) (.str b)=some (.bl (a==b)):=by
 unfold Gi
 show (if Wr (V.str a) (V.str b)=true then _ else _)=_
 rw[show Wr (V.str a) (V.str b)=true from rfl,if_pos rfl,Hs]
theorem RQ(a b:Str):Hv (.str a) (.str b)=some (.bl (!(a==b))):=by
 unfold Hv
 show (if Wr (V.str a) (V.str b)=true then _ else _)=_
 rw[show Wr (V.str a) (V.str b)=true from rfl,if_pos rfl,Hs]
theorem yj{s:Wb}(h:lR s){key:Int}(hk:∀x∈s.od,s.key x≠key):∃k:Int,0≤k∧k≤(s.od.length:Int)∧s.Fits k key:=by
 have:∀l:List Int,(l.Pairwise λx y=>s.key x<s.key y)→(∀x∈l,s.key x≠key)→∃k:Nat,k≤l.length∧(∀x∈l.take k,s.key x<key)∧∀x∈l.drop k,key<s.key x:=by
  intro l
  induction l with
  | nil=>exact λ_ _=>⟨0,C8 _,λx hx=>(by cases hx),λx hx=>(by cases hx)⟩
  | cons a l ih=>
   intro hp hn
   obtain⟨h1,h2⟩:=G1.mp hp
   rcases Int.lt_or_gt_of_ne (hn a (D1 ..))with z | z
   ·obtain⟨k,k1,k2,k3⟩:=ih h2 λx hx=>hn x (C7 _ hx)
    refine⟨k+1,O5 k1,λx hx=>?_,k3⟩
    rw[List.take_succ_cons]at hx
    rcases C6.mp hx with rfl | hx
    ·exact z
    ·exact k2 x hx
   ·refine⟨0,M3 _,λx hx=>(by cases hx),λx hx=>?_⟩
    rcases C6.mp hx with rfl | hx
    ·exact z
    ·have:=h1 x hx;omega
 obtain⟨k,k1,k2,k3⟩:=this s.od h.key hk
 exact⟨k,by omega,by omega,by unfold Wb.Fits;rw[D9];exact⟨k2,k3⟩⟩
theorem yl(key:Int):∀ks:List Int,(ks.filter λx=>decide (key+1≤x)).length≤(ks.filter λx=>decide (key≤x)).length
 | []=>C8 _
 | a::ks=>by
  have ih:=yl key ks
  rw[P6,P6]
  by_cases c:key+1≤a
  ·rw[if_pos (decide_eq_true c),if_pos (decide_eq_true (show key≤a by omega))]
   exact O5 ih
  ·rw[if_neg (by simpa using c)]
   split
   ·exact F5 ih (N0 _)
   ·exact ih
theorem KC(key:Int):∀ks:List Int,key∈ks→(ks.filter λx=>decide (key+1≤x)).length+1≤(ks.filter λx=>decide (key≤x)).length
 | a::ks,h=>by
  rw[P6,P6]
  by_cases c:key+1≤a
  ·rw[if_pos (decide_eq_true c),if_pos (decide_eq_true (show key≤a by omega))]
   rcases C6.mp h with z | z
   ·omega
   ·exact O5 (KC key ks z)
  ·rw[if_neg (by simpa using c)]
   by_cases d:key≤a
   ·rw[if_pos (decide_eq_true d)]
    exact O5 (yl key ks)
   ·rw[if_neg (by simpa using d)]
    rcases C6.mp h with z | z
    ·omega
    ·exact KC key ks z
theorem RT{s:Wb}(h:lR s)(c:Int):∃key:Int,yM κ [iD κ s,.int c]=some (.int key)∧∀x∈s.od,s.key x≠key:=by
 suffices hh:∃d,yM κ [iD κ s,.int c]=some d∧∃key:Int,d=.int key∧∀x∈s.od,s.key x≠key by
  obtain⟨d,h1,key,rfl,h2⟩:=hh
  exact⟨key,h1,h2⟩
 refine wR rfl ?_
 unfold RG
 have o64:=h.aEJ
 have RM:=Rr (fi:=yX (bZ (κ 21) "order" 1 (cZ κ) (aG 0) aK [])) (fr:=[0]) (fc:=qI) (fe:=dH (f2 lD (bZ (κ 21) "record_of" 2 (aY κ) (aG 1) (aB (aG 0) aK) []) (fC (.int 0)))) (e:=rE [.fro (iD κ s),.fro (.int c),.no,.no]) (ms:=s.od) (λ_=>true) (λx=>.int (s.key x)) (oW (bI (nm:=rA) rfl (by decide +kernel) rfl rfl (Nk κ s))) (by omega) (λm hm=>rfl) λx hx _=>by
  have:=h.Pj x hx
  exact bJ (aQ (bI (nm:=rA) rfl (by decide +kernel) rfl rfl (jV κ h (by omega) this.2)) rfl (sV (k:=0) (by rw[h.five (by omega) this.2];decide))) rfl
 rw[Z8.mpr λ_ _=>rfl]at RM
 refine eQ (d:=aN (s.od.map s.key)) (RM.trans (by unfold aN;rw[K0];rfl)) (by exact Nat.le_of_ble_eq_true rfl) ?_
 have e58:Od (.int 10) (.int 58)=some (.int (10 ^ 58)):=wO ⟨by decide,by decide,by decide⟩
 refine eQ (d:=.int (c%10 ^ 58)) (aQ rfl (aQ rfl rfl e58) (bM (by decide))) (by exact Nat.le_of_ble_eq_true rfl) ?_
 have e:∀key:Int,fB (f2 (dIn false) (aG 3) (aG 2)) (rE [.fro (iD κ s),.fro (.int c),.own (aN (s.od.map s.key)),.own (.int key)])=some (decide (key∈s.od.map s.key)):=λkey=>fQ (aQ rfl rfl (Yu false key _))
 refine Vd (n:=64) (λn env=>∃key:Int,env=[.fro (iD κ s),.fro (.int c),.own (aN (s.od.map s.key)),.own (.int key)]∧((s.od.map s.key).filter λx=>decide (key≤x)).length≤n) ⟨_,rfl,F5 (Y8 _ _) (by rw[B8];exact o64)⟩ (by decide) ?_ ?_
 ·rintro n env ⟨key,rfl,hn⟩
  have e:=e key
  by_cases q:key∈s.od.map s.key
  ·right
   rw[decide_eq_true q]at e
   have:=KC key _ q
   exact⟨e,by omega,_,rJ (d:=.int (key+1)) (aQ rfl rfl (bT _ _)) (by exact Nat.le_of_ble_eq_true rfl),key+1,rfl,by omega⟩
  ·left
   rw[decide_eq_false q]at e
   exact e
 ·rintro env n ⟨key,rfl,_⟩ hf
  have hne:=F0 ((e key).symm.trans hf)
  exact IV rfl ⟨_,rfl,key,rfl,λx hx z=>of_decide_eq_false hne (G8.mpr ⟨x,hx,z⟩)⟩
theorem yo{z:GZ}{g:GS}{sub:HX}{n:Nat}{hs:List (Nat×GS)}{env:EN}(h:z env=none):Hg z g sub n hs env=g env:=by unfold Hg;rw[h]
theorem yp{z:GZ}{g:GS}{sub:HX}{n:Nat}{hs:List (Nat×GS)}{env:EN}{i:Nat}(h:z env=some i):Hg z g sub n hs env=Gq sub n hs i env:=by unfold Hg;rw[h]
theorem aB0(s:Wb)(a b c d e:D):dY κ [iD κ s,a,b,c,d,e]=if s.lo.length=0 then some 3 else none:=by
 have e0:fB (f2 Gi (fL pQ (aB (qY (dX (κ 21) "loose") (aG 0)) aK)) (fC (.int 0))) (rE ([iD κ s,a,b,c,d,e].map SD.fro++E7 (12-6) SD.no))=some (decide ((s.lo.length:Int)=0)):=fQ (aQ (gR (aA (cR rfl (jU w3 rfl)) rfl) (nQ _)) rfl (lF _ _))
 unfold dY fRz Dj zIf
 rw[if_pos (show [iD κ s,a,b,c,d,e].length=6 from rfl),e0]
 by_cases q:s.lo.length=0
 ·rw[decide_eq_true (by omega),if_pos q];rfl
 ·rw[decide_eq_false (by omega),if_neg q];rfl
theorem Iw{s:Wb}{env:EN}{fs:FA}{dd es:List D}{a b c d e:D}(h1:(rE env)[0]?=some (some (iD κ s)))(h2:fs (rE env)=some es)(h3:es++dd=[a,b,c,d,e]):zX (uN (κ 21) "enter" (dY κ) (aG 0) fs dd) env=if s.lo.length=0 then some 3 else none:=by
 rw[←aB0 κ s a b c d e]
 unfold zX uN
 rw[Im h1,B7]
 unfold iD
 dsimp only
 rw[if_pos ⟨rfl,by decide +kernel⟩,h2,B7,h3]
theorem RV{s:Wb}(h:lR s)(hm:s.n<139)(hl:0<s.lo.length){k key:Int}(way:Int)(h0:0≤k)(h1:k≤(s.od.length:Int))(fit:s.Fits k key):lB κ [iD κ s,.int key,.int way]=some (.str "taken", iD κ (s.ent k key (-1) 3 0 [])):=by
 refine oJ rfl λv=>?_
 unfold Ml
 have nil:∀m∈([]:List Int),0≤m∧m<(s.n:Int):=λm hm=>by cases hm
 have ha:=BJ κ h hl hm (was:=-1) (now:=3) (iV:=0) h0 h1 nil (by decide) fit (.inl ⟨rfl,rfl⟩)
 have hb:=BJ κ h hl hm (was:=-1) (now:=3) (iV:=0) h0 h1 nil (by decide) fit (.inr rfl)
 have hz:(if s.lo.length=0 then some 3 else none:Option Nat)=none:=if_neg (by omega)
 generalize s.ent k key (-1) 3 0 []=s' at *
 refine eQ (d:=.str "taken") rfl (by exact Nat.le_of_ble_eq_true rfl) ?_
 have hA:∀hs,Hg (zX (uN (κ 21) "enter" (dY κ) (aG 0) (aB (aG 1) (aB (tQ (fC (.int 1))) (aB (fC (.int 3)) (aB (fC (.int 0)) aK)))) [.non])) (sG (oU (κ 21) "enter" 0 fG (iK κ) (λeF eZ=>((qN (aG 1) (qN (tQ (fC (.int 1))) (qN (fC (.int 3)) (qN (fC (.int 0)) jB)))) eF eZ).map (·++[.non])))) Ly 4 hs [.inn v (iD κ s),.fro (.int key),.fro (.int way),.own (.str "taken"),.no]=.next [.inn v (iD κ s'),.fro (.int key),.fro (.int way),.own (.str "taken"),.no]:=λhs=>
  (yo ((Iw κ (a:=.int key) (b:=.int (-1)) (c:=.int 3) (d:=.int 0) (e:=.non) rfl (aA rfl (aA (mU rfl) (aA rfl (aA rfl rfl)))) rfl).trans hz)).trans (Ez (mW (d0:=iD κ s) (p:=[]) (nm:=rA) (es:=[.int key,.int (-1),.int 3,.int 0,.non]) rfl rfl rfl (by decide +kernel) (by
   rw[cJ (d:=.int key) rfl (cJ (d:=.int (-1)) (mU rfl) (cJ (d:=.int 3) rfl (cJ (d:=.int 0) rfl rfl)))]
   rfl) ha))
 refine Oo (fQ (aQ rfl rfl (lF _ _))) (λ_=>?_) λ_=>Lp ?_
 ·rw[vB]
  exact Ln (hA _) (Vz (show lO 3 _=.rete (.str "taken") _ from rfl) ⟨_,.inl rfl,rfl⟩)
 refine Oo (fQ (aQ rfl rfl (lF _ _))) (λ_=>?_) λ_=>Lp ?_
 ·rw[vB]
  refine Ln (env':=[.inn v (iD κ s'),.fro (.int key),.fro (.int way),.own (.str "taken"),.no]) ((yo ((Iw κ (a:=.int key) (b:=.int (-1)) (c:=.int 3) (d:=.int 0) (e:=.lst []) rfl (aA rfl (aA (mU rfl) (aA rfl (aA rfl (aA (gO rfl (by exact Nat.le_of_ble_eq_true rfl)) rfl))))) rfl).trans hz)).trans (Ez (mW (d0:=iD κ s) (p:=[]) (nm:=rA) (es:=[.int key,.int (-1),.int 3,.int 0,aN []]) rfl rfl rfl (by decide +kernel) (by
   rw[cJ (d:=.int key) rfl (cJ (d:=.int (-1)) (mU rfl) (cJ (d:=.int 3) rfl (cJ (d:=.int 0) rfl (cJ (d:=aN []) (gO rfl (by exact Nat.le_of_ble_eq_true rfl)) rfl))))]
   rfl) hb))) ?_
  exact Vz (show lO 3 _=.rete (.str "taken") _ from rfl) ⟨_,.inl rfl,rfl⟩
 refine Ln (hA _) ?_
 exact Dd rfl ⟨_,.inl rfl,rfl⟩
theorem Td{s:Wb}(hl:s.lo.length=0)(key way:Int):lB κ [iD κ s,.int key,.int way]=some (.str "full", iD κ s):=by
 refine oJ rfl λv=>?_
 unfold Ml
 have hz:(if s.lo.length=0 then some 3 else none:Option Nat)=some 3:=if_pos hl
 refine eQ (d:=.str "taken") rfl (by exact Nat.le_of_ble_eq_true rfl) ?_
 have hA:∀(g:GS)(hs:List (Nat×GS)),Hg (zX (uN (κ 21) "enter" (dY κ) (aG 0) (aB (aG 1) (aB (tQ (fC (.int 1))) (aB (fC (.int 3)) (aB (fC (.int 0)) aK)))) [.non])) g Ly 4 hs [.inn v (iD κ s),.fro (.int key),.fro (.int way),.own (.str "taken"),.no]=Gq Ly 4 hs 3 [.inn v (iD κ s),.fro (.int key),.fro (.int way),.own (.str "taken"),.no]:=λg hs=>
  yp ((Iw κ (a:=.int key) (b:=.int (-1)) (c:=.int 3) (d:=.int 0) (e:=.non) rfl (aA rfl (aA (mU rfl) (aA rfl (aA rfl rfl)))) rfl).trans hz)
 refine Oo (fQ (aQ rfl rfl (lF _ _))) (λ_=>?_) λ_=>Lp ?_
 ·rw[vB]
  exact Ln (env':=[.inn v (iD κ s),.fro (.int key),.fro (.int way),.own (.str "full"),.no]) ((hA _ _).trans rfl) (Vz (show lO 3 _=.rete (.str "full") _ from rfl) ⟨_,.inl rfl,rfl⟩)
 refine Oo (fQ (aQ rfl rfl (lF _ _))) (λ_=>?_) λ_=>Lp ?_
 ·rw[vB]
  refine Ln (env':=[.inn v (iD κ s),.fro (.int key),.fro (.int way),.own (.str "full"),.no]) ((yp ((Iw κ (a:=.int key) (b:=.int (-1)) (c:=.int 3) (d:=.int 0) (e:=.lst []) rfl (aA rfl (aA (mU rfl) (aA rfl (aA rfl (aA (gO rfl (by exact Nat.le_of_ble_eq_true rfl)) rfl))))) rfl).trans hz)).trans rfl) ?_
  exact Vz (show lO 3 _=.rete (.str "full") _ from rfl) ⟨_,.inl rfl,rfl⟩
 refine Ln (env':=[.inn v (iD κ s),.fro (.int key),.fro (.int way),.own (.str "full"),.no]) ((hA _ _).trans rfl) ?_
 exact Dd rfl ⟨_,.inl rfl,rfl⟩
def xW(s:Wb):D:=.lst [aN s.od,aN (sortI s.lo),zB s.b.asked,aN (sortI s.b.held),kZ s.b.gF]
theorem RW{s:Wb}(h:lR s)(hh:s.b.held=[]):wY κ [iD κ s]=some (xW s):=by
 refine mR rfl ?_
 unfold Ze
 refine aBE (d:=dD (κ 20) s.b) (cR rfl (jU w0 rfl)) (by exact Nat.le_of_ble_eq_true rfl) (dO ?_)
 exact gO (aA (bI (nm:=rA) rfl (by decide +kernel) rfl rfl (Nk κ s)) (aA (bI (nm:=rA) rfl (by decide +kernel) rfl rfl (Nm κ h)) (aA (bI (nm:=Wi) rfl (by decide +kernel) rfl rfl (Zu κ)) (aA (bI (nm:=Wi) rfl (by decide +kernel) rfl rfl (BL κ (by rw[hh];decide))) (aA (bI (nm:=Wi) rfl (by decide +kernel) rfl rfl (ZP κ h.p8)) rfl))))) (by show 5≤100000;decide)
theorem yq{ds:List D}{xs:List DV}(h:fO ds=some xs)(hd:bQ xs≤32):Hv (.lst ds) (.lst ds)=some (.bl false):=by
 have e:eG (.lst ds)=some (.lst xs):=by unfold eG;rw[h];rfl
 unfold Hv toV
 dsimp only
 rw[e]
 dsimp only
 rw[if_pos hd,tK]
 rfl
def HV(d:D):Prop:=∃v,eG d=some v∧v.depth≤3
theorem RX:∀hs:List D,(∀d∈hs,HV d)→∃xs,fO hs=some xs∧bQ xs≤3
 | [],_=>⟨[],by unfold fO;rfl,by unfold bQ;exact M3 _⟩
 | d::hs,h=>by
  obtain⟨v,h1,h2⟩:=h d (D1 ..)
  obtain⟨xs,h3,h4⟩:=RX hs λe he=>h e (C7 _ he)
  exact⟨v::xs,by unfold fO;rw[h1,h3];rfl,by unfold bQ;omega⟩
theorem Wc(ns:List Int):HV (aN ns):=⟨.lst (ns.map DV.int),by unfold aN eG;rw[qO];rfl,by unfold DV.depth;rw[nJ];decide⟩
theorem yr(ps:List (List (List Int))):HV (kZ ps):=⟨.lst (ps.map Sx),by unfold kZ eG;rw[Gv];rfl,by unfold DV.depth;have:=Gw ps;omega⟩
theorem aER(cs:List vG):HV (zB cs):=⟨.lst (cs.map chV),by unfold zB eG;rw[Rt];rfl,by unfold DV.depth;have:=Lw cs;omega⟩
theorem aB1(s:Wb):Hv (xW s) (xW s)=some (.bl false):=by
 obtain⟨xs,h1,h2⟩:=RX [aN s.od,aN (sortI s.lo),zB s.b.asked,aN (sortI s.b.held),kZ s.b.gF] λd hd=>by
  rcases C6.mp hd with rfl | hd
  ·exact Wc _
  rcases C6.mp hd with rfl | hd
  ·exact Wc _
  rcases C6.mp hd with rfl | hd
  ·exact aER _
  rcases C6.mp hd with rfl | hd
  ·exact Wc _
  rcases E8.mp hd with rfl
  exact yr _
 exact yq h1 (by omega)
theorem BP{s:Wb}(h:lR s)(K:Int):nA κ [iD κ s,.int K]=some (Ph (s.od.find? λx=>decide (s.key x=K))):=by
 have hlp:∀(l:List Int)(v2:SD),(∀x∈l,x∈s.od)→∃v',Aa 2 (zN (fB (f2 Gi (f2 lD (bZ (κ 21) "record_of" 2 (aY κ) (aG 0) (aB (aG 2) aK) []) (fC (.int (0)))) (aG 1))) (wK 2) iC) (l.map D.int) [.fro (iD κ s),.fro (.int K),v2]=match l.find? λx=>decide (s.key x=K)with
   | some x=>.ret (.int x)
   | none=>.next [.fro (iD κ s),.fro (.int K),v']:=by
  intro l
  induction l with
  | nil=>exact λv2 _=>⟨v2,rfl⟩
  | cons a l ih=>
   intro v2 hm
   have ha:=h.Pj a (hm a (D1 ..))
   have e:fB (f2 Gi (f2 lD (bZ (κ 21) "record_of" 2 (aY κ) (aG 0) (aB (aG 2) aK) []) (fC (.int (0)))) (aG 1)) (rE [.fro (iD κ s),.fro (.int K),.fro (.int a)])=some (decide (s.key a=K)):=fQ (aQ (aQ (bI (nm:=rA) rfl (by decide +kernel) rfl rfl (jV κ h (by omega) ha.2)) rfl (sV (k:=0) (by rw[h.five (by omega) ha.2];decide))) rfl (lF _ _))
   rw[D2,N9]
   unfold Aa
   rw[if_pos (by exact Nat.le_of_ble_eq_true rfl),show [SD.fro (iD κ s),.fro (.int K),v2].set 2 (.fro (.int a))=[.fro (iD κ s),.fro (.int K),.fro (.int a)]from rfl]
   by_cases q:s.key a=K
   ·rw[decide_eq_true q]at e ⊢
    rw[Cu e]
    exact⟨v2,rfl⟩
   ·rw[decide_eq_false q]at e ⊢
    rw[lX e]
    exact ih _ λx hx=>hm x (C7 _ hx)
 refine gH rfl ?_
 unfold Dk
 obtain⟨v',hv⟩:=hlp s.od .no λx hx=>hx
 have hf:=(QX (js:=[]) (i:=2) (fi:=yX (qY (dX (κ 21) "string") (aG 0))) (g:=zN (fB (f2 Gi (f2 lD (bZ (κ 21) "record_of" 2 (aY κ) (aG 0) (aB (aG 2) aK) []) (fC (.int (0)))) (aG 1))) (wK 2) iC) (env:=[.fro (iD κ s),.fro (.int K),.no]) rfl (oW (cR rfl (jU w2 rfl)))).trans hv
 cases q:s.od.find? λx=>decide (s.key x=K)with
 | some x=>
  rw[q]at hf
  exact Li hf
 | none=>
  rw[q]at hf
  exact(cD hf).trans (dO rfl)
theorem aES{s:Wb}(h:lR s)(hl:0<s.lo.length)(k key was now iV:Int){y:Int}(hy:0≤y):(s.e1 k key was now iV).key y=if y=s.new then key else s.key y:=by
 obtain⟨a1,a2,a3,a4,a5⟩:=h.new hl
 unfold Wb.key Wb.e1
 rw[vy a5 a3 hy]
 split<;>rfl
theorem yu{s:Wb}{x y z:Int}{ns:List Int}(h0:0≤x)(h1:x<(s.rs.length:Int))(hy:0≤y):(s.wr x (lnk (s.R x) z) ns).key y=s.key y:=by
 unfold Wb.key
 rw[vy h0 h1 hy]
 split
 ·rename_i e
  rw[e]
  rfl
 ·rfl
theorem aB2{s:Wb}(h:lR s)(hl:0<s.lo.length){k:Int}(key was now iV:Int)(fu:List Int)(h0:0≤k)(h1:k≤(s.od.length:Int)){y:Int}(hy:0≤y):(s.ent k key was now iV fu).key y=if y=s.new then key else s.key y:=by
 obtain⟨b1,b2,b3⟩:=h.ahead h0 h1
 rw[←aES h hl k key was now iV hy]
 exact yu (s:=s.e1 k key was now iV) (ns:=(s.e1 k key was now iV).ns (s.ahead k) ((s.n:Int)::fu)) b2 (by unfold Wb.e1;rw[xT];exact b3) hy
theorem aB3{s:Wb}(h:lR s){k x:Int}(fu:List Int)(h0:0≤k)(h1:k≤(s.od.length:Int)){y:Int}(hy:0≤y):(s.out k x fu).key y=s.key y:=by
 obtain⟨b1,b2,b3⟩:=h.ahead h0 h1
 exact yu (s:=s) (ns:=s.ns (s.ahead k) ((s.la.get x).toList++fu)) b2 b3 hy
theorem yw:Hv (.str "taken") (.str "taken")=some (.bl false):=(RQ _ _).trans (by rw[beq_self_eq_true];rfl)
theorem aET:Hv (.str "full") (.str "full")=some (.bl false):=(RQ _ _).trans (by rw[beq_self_eq_true];rfl)
theorem aEU:Gi (.str "full") (.str "full")=some (.bl true):=(aBZ _ _).trans (by rw[beq_self_eq_true])
theorem key_ne(f:Int→Int):∀l:List Int,(l.Pairwise λx y=>f x<f y)→∀a∈l,∀b∈l,a≠b→f a≠f b
 | c::l,h,a,ha,b,hb,hn=>by
  obtain⟨h1,h2⟩:=G1.mp h
  rcases C6.mp ha with za | za<;>rcases C6.mp hb with zb | zb
  ·exact absurd (za.trans zb.symm) hn
  ·have:=h1 b zb;rw[za];omega
  ·have:=h1 a za;rw[zb];omega
  ·exact key_ne f l h2 a za b zb hn
theorem yx{l:List Int}{p:Int→Bool}{x:Int}(hx:x∈l)(hp:p x=true)(hu:∀y∈l,p y=true→y=x):l.find? p=some x:=by
 cases q:l.find? p with
 | none=>exact absurd hp (by simpa using c8.mp q x hx)
 | some y=>rw[hu y (List.mem_of_find?_eq_some q) (List.find?_some q)]
theorem yz(ns:List Int)(hl:ns.length≤63)(hs:∀k∈ns,Small k):aEu κ [.lst (ns.map D.int)]=some (.bl true):=by
  suffices h:∃d,aEu κ [aN ns]=some d∧d=.bl true by
    obtain⟨d,h1,rfl⟩:=h
    exact h1
  refine wR rfl ?_
  unfold aGm
  obtain⟨P,R,rs,bB,od,hb,B⟩:=yg (ns:=ns)
  have W0:=B.ok (bB:=bB)
  have hw:=yh κ (bB:=bB) B
  refine eQ (d:=bO (bG P R rs bB)) (bK (aA rfl rfl) rfl hb) (by exact Nat.le_of_ble_eq_true rfl) ?_
  refine eQ (d:=iD κ (Wb.first P R rs bB od)) (Yz (aA rfl rfl) hw) (by exact Nat.le_of_ble_eq_true rfl) ?_
  refine eQ (d:=.int 3) rfl (by exact Nat.le_of_ble_eq_true rfl) ?_
  have hheld:(Wb.first P R rs bB od).b.held=[]:=rfl
  have hn0:(Wb.first P R rs bB od).n=0:=rfl
  generalize Wb.first P R rs bB od=s0 at *
  have hlo:=W0.aEK
  generalize bO (bG P R rs bB)=sd at *
  have nil:∀n:Nat,∀m∈([]:List Int),0≤m∧m<(n:Int):=λn m hm=>by cases hm
  have aGw:∀{s:Wb}(W:lR s)(k:Nat),fB (f2 Hv (bZ (κ 21) "free" 1 (iG κ) (aG 2) aK []) (lK aK)) (rE [.fro (aN ns),.own sd,.own (iD κ s),.own (.int k),.no,.no,.no,.no,.no])=some (!decide (sortI s.lo=[])):=λW k=>fQ (aQ (bI (nm:=rA) rfl (by decide +kernel) rfl rfl (Nm κ W)) (gO rfl (by exact Nat.le_of_ble_eq_true rfl)) (aBY _))
  have aGx:∀s:Wb,(sortI s.lo).length=s.lo.length:=λs=>(pR s.lo).1.length_eq
  refine Vd (n:=s0.lo.length) (λn env=>∃(s:Wb)(k:Nat),env=[.fro (aN ns),.own sd,.own (iD κ s),.own (.int k),.no,.no,.no,.no,.no]∧lR s∧s.b.held=[]∧s.lo.length=n∧k+n=3+s0.lo.length∧s.n=2*(k-3)∧3≤k) ⟨s0,3,rfl,W0,hheld,rfl,by omega,by omega,by omega⟩ (by omega) ?_ ?_
  · rintro n env ⟨s,k,rfl,W,hh,hsl,hk,hn,hk3⟩
    have e:=aGw W k
    have zc:=aGx s
    by_cases q:s.lo.length=0
    · left
      rw[decide_eq_true (I0 (show (sortI s.lo).length=0 by omega))]at e
      exact e
    · right
      rw[decide_eq_false (λz=>by rw[z]at zc;simp at zc;omega)]at e
      obtain⟨key,hkey,hne⟩:=RT κ W (ns.getD k 0/3)
      obtain⟨j,j0,j1,fit⟩:=yj W hne
      have hw:=RV κ W (by omega) (by omega) (ns.getD k 0%3) j0 j1 fit
      have hW:=W.ent (by omega) (by omega) (was:=-1) (now:=3) (iV:=0) j0 j1 (nil _) (by decide) fit
      have hn':=aCH s j key (-1) 3 0 []
      have hh':(s.ent j key (-1) 3 0 []).b.held=[]:=hh
      have hl':(s.ent j key (-1) 3 0 []).lo.length=s.lo.length-1:=by
        show (s.lo.eraseIdx _).length=_
        rw[O9 (O7 (W.new (by omega)).1)]
      generalize s.ent j key (-1) 3 0 []=s' at *
      have hcell:=oZ ns k
      refine⟨e,by omega,[.fro (aN ns),.own sd,.own (iD κ s'),.own (.int ((k+1:Nat):Int)),.no,.no,.no,.no,.no],?_,s',k+1,rfl,hW,hh',by omega,by omega,by omega,by omega⟩
      have c70:fB (f2 dGt (aG 3) (fC (.int 70))) (rE [.fro (aN ns),.own sd,.own (iD κ s),.own (.int k),.no,.no,.no,.no,.no])=some false:=(fQ (aQ rfl rfl (Va _ _))).trans (by rw[decide_eq_false (by omega)])
      refine(cD ((lX c70).trans rfl)).trans ?_
      refine(cD ((JW (JX (Iv (Ip (d0:=iD κ s) (es:=[.int key,.int (ns.getD k 0%3)]) rfl (Lx (bK (aA rfl (aA (aQ (bK (aA rfl (aA rfl rfl)) rfl hcell) rfl (iR (by decide) (by decide))) rfl)) rfl hkey) (cJ (aQ (bK (aA rfl (aA rfl rfl)) rfl hcell) rfl (bM (by decide))) rfl)) hw) rfl yw rfl))).trans rfl)).trans ?_
      exact rJ (d:=.int ((k+1:Nat):Int)) ((aQ rfl rfl (bT _ _)).trans (by rw[i9];rfl)) (by exact Nat.le_of_ble_eq_true rfl)
  · rintro env n ⟨s,k,rfl,W,hh,hsl,hk,hn,hk3⟩ hf
    have hs0:s.lo=[]:=by
      have e:=F0 ((aGw W k).symm.trans hf)
      have zc:=aGx s
      have:sortI s.lo=[]:=by simpa using e
      rw[this]at zc
      exact I0 zc.symm
    have aHN:s.lo.length=0:=by rw[hs0];rfl
    refine eQ (d:=xW s) (bK (aA rfl rfl) rfl (RW κ W hh)) (by exact Nat.le_of_ble_eq_true rfl) ?_
    refine Io (n:=3) (λm env=>∃v5 v6:SD,env=[.fro (aN ns),.own sd,.own (iD κ s),.own (.int k),.own (xW s),v5,v6,.no,.no]∧(0<m→∃key:Int,v6=.own (.int key)∧∀x∈s.od,s.key x≠key)) (yK (n:=3) (aA rfl rfl) (by decide)) ⟨.no,.no,rfl,λz=>absurd z (by decide)⟩ ?_ ?_
    · rintro m env hm ⟨v5,v6,rfl,_⟩
      refine⟨by walk_at "lt", ?_⟩
      obtain⟨key,hkey,hne⟩:=RT κ W (ns.getD (k+m) 0/3)
      have hcell:=oZ ns (k+m)
      rw[i9]at hcell
      refine eQ (d:=.int key) (bK (aA rfl (aA (aQ (bK (aA rfl (aA (aQ rfl rfl (bT _ _)) rfl)) rfl hcell) rfl (iR (by decide) (by decide))) rfl)) rfl hkey) (by exact Nat.le_of_ble_eq_true rfl) ?_
      have hw:=Td κ aHN key (ns.getD (k+m) 0%3)
      refine aEQ (wu (JX (Iv (Ip (d0:=iD κ s) (es:=[.int key,.int (ns.getD (k+m) 0%3)]) rfl (cJ rfl (cJ (aQ (bK (aA rfl (aA (aQ rfl rfl (bT _ _)) rfl)) rfl hcell) rfl (bM (by decide))) rfl)) hw) rfl aET rfl)) (wy (fQ (aQ (bK (aA rfl rfl) rfl (RW κ W hh)) rfl (aB1 s))))) ?_
      exact aGi ⟨_,rfl,_,_,rfl,λ_=>⟨key,rfl,hne⟩⟩
    · rintro env ⟨v5,v6,rfl,hk6⟩
      obtain⟨key,rfl,hne⟩:=hk6 (by decide)
      have hod:=Nk κ s
      refine Oo (b:=decide (s.od=[])) (fQ (aQ (bI (nm:=rA) rfl (by decide +kernel) rfl rfl hod) (gO rfl (by exact Nat.le_of_ble_eq_true rfl)) (sy s.od []))) (λ_=>ue rfl ⟨_,rfl,rfl⟩) λhb=>Lp ?_
      have ho:0<s.od.length:=List.length_pos_iff.mpr (of_decide_eq_false hb)
      have c3:=oZ ns 3
      have c4:=oZ ns 4
      have c5:=oZ ns 5
      rw[show ((3:Nat):Int)=3 from rfl]at c3
      rw[show ((4:Nat):Int)=4 from rfl]at c4
      rw[show ((5:Nat):Int)=5 from rfl]at c5
      generalize ns.getD 3 0=x3 at *
      generalize ns.getD 4 0=x4 at *
      generalize ns.getD 5 0=x5 at *
      have i0:=K7 x3 (show (s.od.length:Int)≠0 by omega)
      have i1:=J1 x3 (show 0<(s.od.length:Int) by omega)
      obtain⟨x,hx⟩:∃x,s.od[(x3%(s.od.length:Int)).toNat]?=some x:=⟨_,B6 (show (x3%(s.od.length:Int)).toNat<s.od.length by omega)⟩
      have hxm:=F6 hx
      have xr:=W.Pj x hxm
      refine eQ (d:=.int x) (bJ ((aQ (bI (n:=1) (es:=[]) (BW:=[]) (m := "order") (nm:=rA) rfl (by decide +kernel) rfl rfl hod) (aQ (bK (aA rfl (aA rfl rfl)) rfl c3) (gR (aA (bI (n:=1) (es:=[]) (BW:=[]) (m := "order") (nm:=rA) rfl (by decide +kernel) rfl rfl hod) rfl) (nQ _)) (bM (by omega))) (oV i0 i1)).trans (by rw[rK hx])) rfl) (by exact Nat.le_of_ble_eq_true rfl) ?_
      refine eQ (d:=.int (s.key x)) (bJ (aQ (bI (nm:=rA) rfl (by decide +kernel) rfl rfl (jV κ W (by omega) xr.2)) rfl (sV (k:=0) (by rw[W.five (by omega) xr.2];decide))) rfl) (by exact Nat.le_of_ble_eq_true rfl) ?_
      generalize x3%(s.od.length:Int)=i at *
      have hlv:=wk κ W (by omega) (fu:=[]) (nd:=.non) i0 i1 hx (nil _) (by decide) (.inl ⟨rfl,rfl⟩)
      have W1:=W.out (by omega) (fu:=[]) i0 i1 hx (nil _) (by decide)
      have L1:(s.out i x []).lo=[x]:=by show s.lo++[x]=[x];rw[hs0];rfl
      have O1:∀y∈(s.out i x []).od,y∈s.od∧y≠x:=λy hy=>by
        have hy:y∈s.od.eraseIdx i.toNat:=hy
        rw[←JV W.BX hx]at hy
        exact(Gb W.BX).mp hy
      have K1:∀y:Int,0≤y→(s.out i x []).key y=s.key y:=λy hy=>aB3 W [] i0 (R6 i1) hy
      have N1:=aCI s i x []
      generalize s.out i x []=s1 at *
      refine aBJ (d:=.int s.n) (env':=[.fro (aN ns),.own sd,.own (iD κ s1),.own (.int k),.own (xW s),v5,.own (.int key),.own (.int x),.own (.int (s.key x))]) (mW (p:=[]) (nm:=rA) (es:=[.int x,.non]) rfl rfl rfl (by decide +kernel) rfl hlv) ?_
      have F1:=Nm κ W1
      rw[L1,List.perm_singleton.mp (pR [x]).1]at F1
      have aGy:∀y∈s1.od,s1.key y≠key:=λy hy=>by
        have hy1:=O1 y hy
        have:=W.Pj y hy1.1
        rw[K1 y (by omega)]
        exact hne y hy1.1
      obtain⟨j,j0,j1,fit⟩:=yj W1 aGy
      have hl1:0<s1.lo.length:=by rw[L1];exact Nat.succ_pos _
      have hw1:=RV κ W1 (by omega) hl1 (x4%3) j0 j1 fit
      have aGz:s1.new=x:=by unfold Wb.new;rw[L1];rfl
      have W2:=W1.ent hl1 (by omega) (was:=-1) (now:=3) (iV:=0) j0 j1 (nil _) (by decide) fit
      have L2:(s1.ent j key (-1) 3 0 []).lo.length=0:=by
        show (s1.lo.eraseIdx (s1.lo.idxOf s1.new)).length=0
        rw[O9 (O7 (W1.new hl1).1),L1]
        rfl
      have O2:∀y,y∈(s1.ent j key (-1) 3 0 []).od↔y=x∨y∈s1.od:=λy=>by
        show y∈s1.od.take j.toNat++s1.new::s1.od.drop j.toNat↔_
        rw[aGz,K6,C6]
        conv=>rhs;rw[←O8 j.toNat s1.od,K6]
        constructor
        · rintro(z | z | z)
          · exact .inr (.inl z)
          · exact .inl z
          · exact .inr (.inr z)
        · rintro(z | z | z)
          · exact .inr (.inl z)
          · exact .inl z
          · exact .inr (.inr z)
      have K2:∀y:Int,0≤y→(s1.ent j key (-1) 3 0 []).key y=if y=x then key else s1.key y:=λy hy=>by
        have:=aB2 W1 hl1 key (-1) 3 0 [] j0 j1 hy
        rw[aGz]at this
        exact this
      generalize s1.ent j key (-1) 3 0 []=s2 at *
      refine Ln (env':=[.fro (aN ns),.own sd,.own (iD κ s2),.own (.int k),.own (xW s),v5,.own (.int key),.own (.int x),.own (.int (s.key x))]) ((JW (env':=[.fro (aN ns),.own sd,.own (iD κ s2),.own (.int k),.own (xW s),v5,.own (.int key),.own (.int x),.own (.int (s.key x))]) (wu (e1:=[.fro (aN ns),.own sd,.own (iD κ s1),.own (.int k),.own (xW s),v5,.own (.int key),.own (.int x),.own (.int (s.key x))]) (wy (b:=false) ?_) (JX (b:=false) ?_))).trans rfl) ?_
      · exact fQ (aQ (bI (n:=1) (es:=[]) (BW:=[]) (m := "free") (nm:=rA) rfl (by decide +kernel) rfl rfl F1) (gO (ds:=[.int x]) (aA rfl rfl) (by exact Nat.le_of_ble_eq_true rfl)) ((Yy [x] [x]).trans (by rw[decide_eq_true rfl];rfl)))
      · exact Iv (Ip (d0:=iD κ s1) (es:=[.int key,.int (x4%3)]) rfl (cJ rfl (cJ (aQ (bK (aA rfl (aA rfl rfl)) rfl c4) rfl (bM (by decide))) rfl)) hw1) rfl yw rfl
      have b1:=BP κ W2 key
      have b2:=BP κ W2 (s.key x)
      rw[yx (x:=x) ((O2 x).mpr (.inl rfl)) (by rw[K2 x (by omega),if_pos rfl];exact decide_eq_true rfl) (λy hy hp=>by
        rcases(O2 y).mp hy with z | z
        · exact z
        · have hy1:=O1 y z
          have hr:=W.Pj y hy1.1
          have:=of_decide_eq_true hp
          rw[K2 y (by omega),if_neg hy1.2]at this
          exact absurd this (aGy y z))]at b1
      rw[show s2.od.find? (λy=>decide (s2.key y=s.key x))=none from c8.mpr λy hy hp=>by
        have hp:=of_decide_eq_true hp
        rcases(O2 y).mp hy with z | z
        · rw[z,K2 x (by omega),if_pos rfl]at hp
          exact hne x hxm hp.symm
        · have hy1:=O1 y z
          have hr:=W.Pj y hy1.1
          rw[K2 y (by omega),if_neg hy1.2,K1 y (by omega)]at hp
          exact key_ne s.key s.od W.key y hy1.1 x hxm hy1.2 hp]at b2
      refine ud (b:=(!decide (x=x))||false) (su (fQ (aQ (bI (nm:=rA) rfl (by decide +kernel) rfl rfl b1) rfl (yI _ _))) (fQ (aQ (bI (nm:=rA) rfl (by decide +kernel) rfl rfl b2) rfl (De true .non)))) (by rw[decide_eq_true rfl];rfl) (Lp ?_)
      have hw2:=Td κ L2 (s.key x) (x5%3)
      have hend:Kw Gi (Oh 2 (lB κ) (qN (aG 8) (qN (f2 jJ (cM 2 cH (aB (aG 0) (aB (fC (.int 5)) aK))) (fC (.int 3))) jB))) (fC (.str "full")) [.fro (aN ns),.own sd,.own (iD κ s2),.own (.int k),.own (xW s),v5,.own (.int key),.own (.int x),.own (.int (s.key x))]=some (.bl true,_):=Iv (Ip (d0:=iD κ s2) (es:=[.int (s.key x),.int (x5%3)]) rfl (cJ rfl (cJ (aQ (bK (aA rfl (aA rfl rfl)) rfl c5) rfl (bM (by decide))) rfl)) hw2) rfl aEU rfl
      have:Ky (Kw Gi (Oh 2 (lB κ) (qN (aG 8) (qN (f2 jJ (cM 2 cH (aB (aG 0) (aB (fC (.int 5)) aK))) (fC (.int 3))) jB))) (fC (.str "full"))) [.fro (aN ns),.own sd,.own (iD κ s2),.own (.int k),.own (xW s),v5,.own (.int key),.own (.int x),.own (.int (s.key x))]=.ret (.bl true):=by unfold Ky;rw[hend]
      exact⟨_,this,rfl⟩
end Rs

def PySem.W.Fast.tw14227377503159880908:Unit:=()
def PySem.W.Fast.tw15370973061133980039:Unit:=()
def PySem.W.Fast.tw13673499514154093513:Unit:=()
def PySem.W.Fast.tw61826120175192540:Unit:=()
def PySem.W.Fast.tw6350873917164006661:Unit:=()
def PySem.W.Fast.tw69763165322009506:Unit:=()
def PySem.W.Fast.tw4947498333114622782:Unit:=()
def PySem.W.Fast.tw11702262332659839330:Unit:=()
def PySem.W.Fast.tw4485862225489754695:Unit:=()
def PySem.W.Fast.tw14037080345932246320:Unit:=()
def PySem.W.Fast.tw619062469222334602:Unit:=()
def PySem.W.Fast.tw13382445986351194373:Unit:=()
def PySem.W.Fast.tw3012506436978243620:Unit:=()
def PySem.W.Fast.tw2755923034707732293:Unit:=()
def PySem.W.Fast.tw4711238152967439172:Unit:=()
def PySem.W.Fast.tw1031421739970593493:Unit:=()
def PySem.W.Fast.tw8134196420815081094:Unit:=()
def PySem.W.Fast.tw2256936966998862951:Unit:=()
def PySem.W.Fast.tw4327692069201817188:Unit:=()
def PySem.W.Fast.tw4071265517633713960:Unit:=()
def PySem.W.Fast.tw4894262922019716014:Unit:=()
def PySem.W.Fast.tw1278672173954026195:Unit:=()
namespace Rs
open PySem L2
theorem Wd{K:aD}{f:Addr}{oc:Value}{od:Option Addr}{fd:FuncData}{sl:Array (Option Value)}(l:K.lookup f=some ⟨oc,od,.func fd,sl⟩):J6 K (.ref f)=true:=by
 unfold J6
 dsimp only
 rw[l]
theorem We{K:aD}{f:Addr}{od:Option Addr}{fd:FuncData}{sl:Array (Option Value)}(l:K.lookup f=some ⟨.type "function", od,.func fd,sl⟩):P4 K (.ref f)=true:=by
 unfold P4 j4
 dsimp only
 rw[l]
 show (some (Value.type "function")==some (Value.type "function"))=true
 decide +kernel
theorem aHP{K:aD}{h:Heap}{mg:Str→Option Value}{x:Str}{st:Stmt}{f:Addr}{oc:Value}{od an:Option Addr}{osl:Array (Option Value)}{kV doc pm cdv ct:Value}(X:K.In h)(G:h.Ns mainGlobals mg)(a:O0 K mainGlobals x=some (some (.ref f)))(l:K.lookup f=some ⟨oc,od,.func (F3 x x (dJ st) (bR st) (aJ st) .none kV doc pm an cdv ct),osl⟩)(c:J9 K cdv x=true):Raw K mg x st:=aDs X G a l c (Wd l)
theorem rM{K:aD}{C f:Addr}{nm q:Str}{st:Stmt}{kV dc pm cd ct:Value}{od an:Option Addr}{sl:Array (Option Value)}(a:F4 K (.ref C) nm=some (some (.ref f)))(l:K.lookup f=some ⟨.type "function", od,.func (F3 nm q (dJ st) (bR st) (aJ st) .none kV dc pm an cd ct),sl⟩) (c:J9 K cd q=true):dR K C nm q st false:=aBq a (We l) l c (Wd l)
theorem rD{K:aD}{C f T:Addr}{nm q:Str}{st:Stmt}{kV dc pm cd ct ot:Value}{od an dt:Option Addr}{sl s2:Array (Option Value)}{nt:Nat}(a:F4 K (.ref C) nm=some (some (.ref f)))(l:K.lookup f=some ⟨.type "function", od,.func (F3 nm q (dJ st) (bR st) (aJ st) (.ref T) kV dc pm an cd ct),sl⟩) (c:J9 K cd q=true) (t:K.lookup T=some ⟨ot,dt,.seq #[.none] nt,s2⟩):dR K C nm q st true:=ou a (We l) l c (Wd l) t
theorem rI{K:aD}{h:Heap}{mg:Str→Option Value}(X:K.In h)(G:h.Ns mainGlobals mg){C f:Addr}{cn q:Str}{st:Stmt}{kV dc pm cd ct:Value}{od an:Option Addr}{sl:Array (Option Value)}(x:O0 K mainGlobals cn=some (some (.ref C)))(a:F4 K (.ref C) "__init__" = some (some (.ref f))) (l:K.lookup f=some ⟨.type "function", od,.func (F3 "__init__" q (dJ st) (bR st) (aJ st) .none kV dc pm an cd ct),sl⟩) (c:J9 K cd q=true) (m:T3 K C=true) (k:J6 K (.ref C)=true):Xz K mg cn C q st:=aBr X G x a (We l) l c m k
theorem cX{K:aD}{h:Heap}{C:Addr}{P:Addr→Prop}{cn:Str}(X:K.In h)(a:O0 K mainGlobals cn=some (some (.ref C)))(p:P C):∃C,P C:=⟨C,p⟩
theorem cF{K:aD}{C:Addr}{fn:List Str}(a:Q5 K C Str.empty=true)(b:R9 K C=true)(c:V2 K C=true)(d:F4 K (.ref C) "__setattr__" = some (some (.builtin "object.__setattr__"))) (e:∀x∈fn,F4 K (.ref C) x=some none):gB K C fn:=⟨⟨a,b,c,d⟩,e⟩
theorem Iz{K:aD}{a b:Value}{v:Bool}(h:B9 K a b=some v):R8 K a b=some v:=by
 unfold B9 at h
 split at h
 ·exact h
 ·cases h
theorem exX{K:aD}{h:Heap}{mg:Str→Option Value}(X:K.In h)(G:h.Ns mainGlobals mg){E0 E1 E2 E3:Addr}(a0:O0 K mainGlobals "StoneError" = some (some (.ref E0))) (a1:O0 K mainGlobals "NoPlace" = some (some (.ref E1))) (a2:O0 K mainGlobals "NoChange" = some (some (.ref E2))) (a3:O0 K mainGlobals "Full" = some (some (.ref E3))) (b0:Q7 K E0 Rm "ValueError.__new__" = true) (b1:Q7 K E1 Rm "ValueError.__new__" = true) (b2:Q7 K E2 Rm "ValueError.__new__" = true) (b3:Q7 K E3 Rm "ValueError.__new__" = true) (zf:B9 K (.ref E0) (.ref E0)=some true) (zg:B9 K (.ref E0) (.ref E1)=some false) (zj:B9 K (.ref E0) (.ref E2)=some false) (zm:B9 K (.ref E0) (.ref E3)=some false) (zp:B9 K (.ref E1) (.ref E0)=some true) (zq:B9 K (.ref E1) (.ref E1)=some true) (zr:B9 K (.ref E1) (.ref E2)=some false) (zu:B9 K (.ref E1) (.ref E3)=some false) (zy:B9 K (.ref E2) (.ref E0)=some true) (aAa:B9 K (.ref E2) (.ref E1)=some false) (aAb:B9 K (.ref E2) (.ref E2)=some true) (aAc:B9 K (.ref E2) (.ref E3)=some false) (aAd:B9 K (.ref E3) (.ref E0)=some true) (aAe:B9 K (.ref E3) (.ref E1)=some false) (aAf:B9 K (.ref E3) (.ref E2)=some false) (aAg:B9 K (.ref E3) (.ref E3)=some true) (v0:B9 K (.ref E0) (.type "ValueError")=some true) (v1:B9 K (.ref E1) (.type "ValueError")=some true) (v2:B9 K (.ref E2) (.type "ValueError")=some true) (v3:B9 K (.ref E3) (.type "ValueError")=some true):∃E0 E1 E2 E3:Addr,Yr K mg "StoneError" E0∧Yr K mg "NoPlace" E1∧Yr K mg "NoChange" E2∧Yr K mg "Full" E3∧B9 K (.ref E0) (.ref E0)=some true∧B9 K (.ref E0) (.ref E1)=some false∧B9 K (.ref E0) (.ref E2)=some false∧B9 K (.ref E0) (.ref E3)=some false∧B9 K (.ref E1) (.ref E0)=some true∧B9 K (.ref E1) (.ref E1)=some true∧B9 K (.ref E1) (.ref E2)=some false∧B9 K (.ref E1) (.ref E3)=some false∧B9 K (.ref E2) (.ref E0)=some true∧B9 K (.ref E2) (.ref E1)=some false∧B9 K (.ref E2) (.ref E2)=some true∧B9 K (.ref E2) (.ref E3)=some false∧B9 K (.ref E3) (.ref E0)=some true∧B9 K (.ref E3) (.ref E1)=some false∧B9 K (.ref E3) (.ref E2)=some false∧B9 K (.ref E3) (.ref E3)=some true∧B9 K (.ref E0) (.type "ValueError")=some true∧B9 K (.ref E1) (.type "ValueError")=some true∧B9 K (.ref E2) (.type "ValueError")=some true∧B9 K (.ref E3) (.type "ValueError")=some true:=⟨E0,E1,E2,E3,⟨P8 X G a0,b0⟩,⟨P8 X G a1,b1⟩,⟨P8 X G a2,b2⟩,⟨P8 X G a3,b3⟩,zf,zg,zj,zm,zp,zq,zr,zu,zy,aAa,aAb,aAc,aAd,aAe,aAf,aAg,v0,v1,v2,v3⟩
theorem walk{l:i5}{q:Program}{loose:List Str}{XP:(Str→Option Value)→Heap→Prop}{YP:World→Heap→Prop}{d:DefRec}{K:Params→aD}(hn:l.most=some 63)(hdf:d.params.defaults=[])(hdn:d.name = "law")
  (hY:∀(w:World)(h:Heap),YP w h→(K w.params).In h)
  (F:∀(w:World)(mg:Str→Option Value)(h:Heap),(K w.params).In h→h.Ns mainGlobals mg→(∃E0 E1 E2 E3:Addr,Yr (K w.params) mg "StoneError" E0∧Yr (K w.params) mg "NoPlace" E1∧Yr (K w.params) mg "NoChange" E2∧Yr (K w.params) mg "Full" E3∧B9 (K w.params) (.ref E0) (.ref E0)=some true∧B9 (K w.params) (.ref E0) (.ref E1)=some false∧B9 (K w.params) (.ref E0) (.ref E2)=some false∧B9 (K w.params) (.ref E0) (.ref E3)=some false∧B9 (K w.params) (.ref E1) (.ref E0)=some true∧B9 (K w.params) (.ref E1) (.ref E1)=some true∧B9 (K w.params) (.ref E1) (.ref E2)=some false∧B9 (K w.params) (.ref E1) (.ref E3)=some false∧B9 (K w.params) (.ref E2) (.ref E0)=some true∧B9 (K w.params) (.ref E2) (.ref E1)=some false∧B9 (K w.params) (.ref E2) (.ref E2)=some true∧B9 (K w.params) (.ref E2) (.ref E3)=some false∧B9 (K w.params) (.ref E3) (.ref E0)=some true∧B9 (K w.params) (.ref E3) (.ref E1)=some false∧B9 (K w.params) (.ref E3) (.ref E2)=some false∧B9 (K w.params) (.ref E3) (.ref E3)=some true∧B9 (K w.params) (.ref E0) (.type "ValueError")=some true∧B9 (K w.params) (.ref E1) (.type "ValueError")=some true∧B9 (K w.params) (.ref E2) (.type "ValueError")=some true∧B9 (K w.params) (.ref E3) (.type "ValueError")=some true)∧(∃C:Addr,gB (K w.params) C gW∧Xz (K w.params) mg "Bench" C "Bench.__init__" qR∧dR (K w.params) C "changes" "Bench.changes" sH false∧dR (K w.params) C "settled" "Bench.settled" sI false∧dR (K w.params) C "stone" "Bench.stone" rQ false∧dR (K w.params) C "check_pane" "Bench.check_pane" pC false∧dR (K w.params) C "check_place" "Bench.check_place" nU false∧dR (K w.params) C "seen" "Bench.seen" Aw false∧dR (K w.params) C "check_change" "Bench.check_change" mX false∧dR (K w.params) C "put" "Bench.put" Fg true)∧(∃C:Addr,gB (K w.params) C cA∧Xz (K w.params) mg "Weaver" C "Weaver.__init__" rO∧dR (K w.params) C "order" "Weaver.order" uQ false∧dR (K w.params) C "free" "Weaver.free" wX false∧dR (K w.params) C "box_ahead" "Weaver.box_ahead" pB false∧dR (K w.params) C "record_of" "Weaver.record_of" pD false∧dR (K w.params) C "write" "Weaver.write" uR false∧dR (K w.params) C "coming_in" "Weaver.coming_in" pF false∧dR (K w.params) C "write_tied" "Weaver.write_tied" nW false∧dR (K w.params) C "link" "Weaver.link" wZ false∧dR (K w.params) C "further_needs" "Weaver.further_needs" kY false∧dR (K w.params) C "last_change" "Weaver.last_change" mY false∧dR (K w.params) C "leave" "Weaver.leave" uT true∧dR (K w.params) C "going_out" "Weaver.going_out" pG false∧dR (K w.params) C "enter" "Weaver.enter" mZ true∧dR (K w.params) C "box_of" "Weaver.box_of" uU false)∧Raw (K w.params) mg "_law_cell" Lz∧Raw (K w.params) mg "_law_sizes" Fb∧Raw (K w.params) mg "_law_mixed" Fd∧Raw (K w.params) mg "_law_record" Ao∧Raw (K w.params) mg "_law_built" tX∧Raw (K w.params) mg "thing_at" Mg∧Raw (K w.params) mg "spot_of" Vl∧Raw (K w.params) mg "record_at" Fe∧Raw (K w.params) mg "string_of" Ff∧Raw (K w.params) mg "many_boxes" Aq∧Raw (K w.params) mg "loose_boxes" rN∧Raw (K w.params) mg "_law_shot" Mh∧Raw (K w.params) mg "known" Vn∧Raw (K w.params) mg "_law_key" Ir∧Raw (K w.params) mg "_law_word" Mj∧Raw (K w.params) mg "law" aEt∧mg "len" = none∧mg "abs" = none∧mg "list" = none∧mg "range" = none∧mg "sorted" = none∧mg "set" = none∧mg "tuple" = none∧mg "min" = none∧mg "isinstance" = none∧mg "ValueError" = none∧mg "int" = none∧kJ mg "HEAD" (0)∧kJ mg "NEXT" (1)∧kJ mg "THING" (2)∧kJ mg "KEY" (0)∧kJ mg "WAS" (2)∧kJ mg "NOW" (3)∧kJ mg "AGE" (4)) :
  k8 q loose XP YP l.row.toRowW d [] (λf vs=>i4 f vs):=by
 refine L2.XC (n:=63) (k:=9) (x := "script") (CX:=λ_=>Wg) (sp:=λw=>spB (K w.params)) hn (by decide) hdf ⟨rfl,by decide,by decide⟩ hY ?_ (λ_ _ a ns hl hb _ hS=>⟨a,ns,rfl,hS,hl,hb,λ_=>rfl⟩) λ_ _ _ _ _ z=>z
 intro w mg fa h KX G hmg
 obtain⟨⟨E0,E1,E2,E3,xH,Mz,Fx,My,zf,zg,zj,zm,zp,zq,zr,zu,zy,aAa,aAb,aAc,aAd,aAe,aAf,aAg,v0,v1,v2,v3⟩,⟨C20,bC,RBenchInit,RBenchChanges,RBenchSettled,RBenchStone,RBenchCheckPane,RBenchCheckPlace,RBenchSeen,RBenchCheckChange,RBenchPut⟩,⟨C21,aL,RWeaverInit,RWeaverOrder,RWeaverFree,RWeaverBoxAhead,RWeaverRecordOf,RWeaverWrite,RWeaverComingIn,RWeaverWriteTied,RWeaverLink,RWeaverFurtherNeeds,RWeaverLastChange,RWeaverLeave,RWeaverGoingOut,RWeaverEnter,RWeaverBoxOf⟩,RLawCell,RLawSizes,RLawMixed,RLawRecord,RLawBuilt,RThingAt,RSpotOf,RRecordAt,RStringOf,RManyBoxes,RLooseBoxes,RLawShot,RKnown,RLawKey,RLawWord,RLaw,jC,aEv,jH,jP,pW,aEw,JL,aEA,xJ,xK,aEB,zO,zP,JK,Vw,aEx,aEy,aEz⟩:=F w mg h KX G
 obtain⟨κ,e0,e1,e2,e3,e20,e21⟩:∃κ:Nat→Addr,κ 0=E0∧κ 1=E1∧κ 2=E2∧κ 3=E3∧κ 20=C20∧κ 21=C21:=⟨(λn=>match n with | 0=>E0 | 1=>E1 | 2=>E2 | 3=>E3 | 20=>C20 | 21=>C21 | _=>E0),rfl,rfl,rfl,rfl,rfl,rfl⟩
 subst e0 e1 e2 e3 e20 e21
 have XM:∀i j,i<4→j<4→B9 (K w.params) (.ref (κ i)) (.ref (κ j))=some (Ly i j):=λi j hi hj=>match i,j,hi,hj with
  | 0,0,_,_=>zf
  | 0,1,_,_=>zg
  | 0,2,_,_=>zj
  | 0,3,_,_=>zm
  | 1,0,_,_=>zp
  | 1,1,_,_=>zq
  | 1,2,_,_=>zr
  | 1,3,_,_=>zu
  | 2,0,_,_=>zy
  | 2,1,_,_=>aAa
  | 2,2,_,_=>aAb
  | 2,3,_,_=>aAc
  | 3,0,_,_=>aAd
  | 3,1,_,_=>aAe
  | 3,2,_,_=>aAf
  | 3,3,_,_=>aAg
  | n+4,_,h,_=>absurd h (by omega)
  | _,n+4,_,h=>absurd h (by omega)
 have XV:∀i,i<4→R8 (K w.params) (.ref (κ i)) (.type "ValueError")=some true:=λi hi=>match i,hi with
  | 0,_=>Iz v0
  | 1,_=>Iz v1
  | 2,_=>Iz v2
  | 3,_=>Iz v3
  | n+4,h=>absurd h (by omega)
 obtain⟨f,fd,FL,m⟩:=RLaw.ex
 rw[hdn]at hmg
 have e:=hmg.symm.trans m
 cases e
 refine⟨fd,GK FL (λ_ _ _ _ _ _ u=>rfl),λbase _ _=>?_⟩
 have dZ:=JD (P:=l.prog) (w:=w) (mg:=mg) (base:=base) RLawCell  jC
 have Fi:=Zf (P:=l.prog) (w:=w) (mg:=mg) (base:=base) RLawSizes dZ
 have kE:=Zg (P:=l.prog) (w:=w) (mg:=mg) (base:=base) RLawMixed
 have uV:=Vp (P:=l.prog) (w:=w) (mg:=mg) (base:=base) RLawRecord kE  aEv
 have Fy:=Zh (P:=l.prog) (w:=w) (mg:=mg) (base:=base) RLawBuilt Fi dZ kE uV  jH jP jC
 have Ax:=Vq (P:=l.prog) (w:=w) (mg:=mg) (base:=base) RBenchInit bC  jH
 have Mr:=JF (P:=l.prog) (w:=w) (mg:=mg) (base:=base) RThingAt
 have yN:=YX (P:=l.prog) (w:=w) (mg:=mg) (base:=base) RSpotOf  jC
 have yO:=Zj (P:=l.prog) (w:=w) (mg:=mg) (base:=base) RRecordAt yN Mr
 have qD:=Zk (P:=l.prog) (w:=w) (mg:=mg) (base:=base) RStringOf yO  jH zO zP
 have nY:=Vr (P:=l.prog) (w:=w) (mg:=mg) (base:=base) RManyBoxes  jC
 have xF:=Ou (P:=l.prog) (w:=w) (mg:=mg) (base:=base) RLooseBoxes qD nY  jP zO
 have xM:=Ov (P:=l.prog) (w:=w) (mg:=mg) (base:=base) RWeaverInit bC aL Ax nY yN qD xF  jP
 have dC:=Ms (P:=l.prog) (w:=w) (mg:=mg) (base:=base) RWeaverOrder aL  jH
 have jQ:=Oz (P:=l.prog) (w:=w) (mg:=mg) (base:=base) RWeaverFree aL  pW
 have sJ:=Hl (P:=l.prog) (w:=w) (mg:=mg) (base:=base) RBenchChanges bC  jH
 have sO:=Ho (P:=l.prog) (w:=w) (mg:=mg) (base:=base) RBenchSettled bC  pW
 have xG:=Pa (P:=l.prog) (w:=w) (mg:=mg) (base:=base) RBenchStone bC  jH
 have Dw:=JH (P:=l.prog) (w:=w) (mg:=mg) (base:=base) RLawShot aL bC dC jQ sJ sO xG
 have gK:=Dm (P:=l.prog) (w:=w) (mg:=mg) (base:=base) RWeaverBoxAhead aL  zO
 have pH:=Dn (P:=l.prog) (w:=w) (mg:=mg) (base:=base) RBenchCheckPane bC  jC
 have fW:=Ay (P:=l.prog) (w:=w) (mg:=mg) (base:=base) RBenchCheckPlace bC pH  jC
 have Az:=Vv (P:=l.prog) (w:=w) (mg:=mg) (base:=base) RBenchSeen bC fW  JK
 have bA:=Dq (P:=l.prog) (w:=w) (mg:=mg) (base:=base) RWeaverRecordOf aL bC Az
 have eV:=zF (P:=l.prog) (w:=w) (mg:=mg) (base:=base) RBenchCheckChange bC  jC
 have Ft:=Zq (P:=l.prog) (w:=w) (mg:=mg) (base:=base) RBenchPut bC fW eV  jH jC pW aEw JL
 have JM:=uv (P:=l.prog) (w:=w) (mg:=mg) (base:=base) RKnown
 have kI:=Mv (P:=l.prog) (w:=w) (mg:=mg) (base:=base) RWeaverWrite aL bC Ft JM
 have pI:=Dr (P:=l.prog) (w:=w) (mg:=mg) (base:=base) RWeaverComingIn aL
 have nZ:=Bb (P:=l.prog) (w:=w) (mg:=mg) (base:=base) RWeaverWriteTied aL kI pI
 have lZ:=Pb (P:=l.prog) (w:=w) (mg:=mg) (base:=base) RWeaverLink aL bA nZ  Vw aEx aEy aEz
 have dG:=vR (P:=l.prog) (w:=w) (mg:=mg) (base:=base) RWeaverFurtherNeeds bC aL eV  jH
 have nC:=zG (P:=l.prog) (w:=w) (mg:=mg) (base:=base) RWeaverLastChange aL
 have uY:=Mw (P:=l.prog) (w:=w) (mg:=mg) (base:=base) RWeaverLeave aL gK nC dG lZ bA  zP
 have Iu:=ZC (P:=l.prog) (w:=w) (mg:=mg) (base:=base) RLawKey aL dC bA
 have pJ:=Dv (P:=l.prog) (w:=w) (mg:=mg) (base:=base) RWeaverGoingOut aL
 have nD:=Mx (P:=l.prog) (w:=w) (mg:=mg) (base:=base) RWeaverEnter aL dG bA gK kI pJ lZ  jC aEA Vw zP
 have nF:=Hq (P:=l.prog) (w:=w) (mg:=mg) (base:=base) RWeaverEnter aL My jC
 have uC:=JN (P:=l.prog) (w:=w) (mg:=mg) (base:=base) RLawWord aL nD nF My Fx Mz xH XM XV xJ xK aEB
 have pX:=Nb (P:=l.prog) (w:=w) (mg:=mg) (base:=base) RWeaverBoxOf aL bA  Vw
 exact aEC FL aL Fy xM jQ uC dZ Iu Dw dC bA uY pX  jP jC (yz κ)
end Rs
open PySem PySem.W PyProof.Rows
set_option maxRecDepth 100000 in
set_option maxHeartbeats 0 in
theorem PySem.Challenge.cw_ripestone_k29_full_holds : PySem.Challenge.rw_ripestone_k29_full.Holds := by
 w_on;o_law;k_head;(case hw=>w_witness2)
 k_fill
 refine Rs.walk (l:=PySem.Challenge.rw_ripestone_k29_full) rfl rfl rfl (λw h Y=>PySem.W.kIn_of Y) ?F
 case F=>
  intro w mg h KX G
  refine⟨?_,?_,?_,?_,?_,?_,?_,?_,?_,?_,?_,?_,?_,?_,?_,?_,?_,?_,?_,J5 KX G ?_,J5 KX G ?_,J5 KX G ?_,J5 KX G ?_,J5 KX G ?_,J5 KX G ?_,J5 KX G ?_,J5 KX G ?_,J5 KX G ?_,J5 KX G ?_,J5 KX G ?_,?_,?_,?_,?_,?_,?_,?_⟩
  ·refine' Rs.exX KX G ?a0 ?a1 ?a2 ?a3 ?b0 ?b1 ?b2 ?b3 ?zf ?zg ?zj ?zm ?zp ?zq ?zr ?zu ?zy ?aAa ?aAb ?aAc ?aAd ?aAe ?aAf ?aAg ?v0 ?v1 ?v2 ?v3
   (case a0=>k_is);(case a1=>k_is);(case a2=>k_is);(case a3=>k_is);(case b0=>k_exc);(case b1=>k_exc);(case b2=>k_exc);(case b3=>k_exc);(case zf=>kts_exm);(case zg=>kts_exm);(case zj=>kts_exm);(case zm=>kts_exm);(case zp=>kts_exm);(case zq=>kts_exm);(case zr=>kts_exm);(case zu=>kts_exm);(case zy=>kts_exm);(case aAa=>kts_exm);(case aAb=>kts_exm);(case aAc=>kts_exm);(case aAd=>kts_exm);(case aAe=>kts_exm);(case aAf=>kts_exm);(case aAg=>kts_exm);(case v0=>kts_exm);(case v1=>kts_exm);(case v2=>kts_exm);(case v3=>kts_exm)
  ·refine' Rs.cX (cn := "Bench") KX ?xa20 ?zz20
   (case xa20=>k_is)
   refine⟨?_,?_,?_,?_,?_,?_,?_,?_,?_,?_⟩
   ·refine' Rs.cF ?fa20 ?fb20 ?fc20 ?fd20 ?fe20
    (case fa20=>k_is);(case fb20=>k_is);(case fc20=>k_is);(case fd20=>k_is)
    dsimp only[Rs.gW]
    repeat' (first | refine Z0.mpr ⟨?_,?_⟩ | exact Z9 _ | k_is)
   ·refine' Rs.rI KX G ?ix20 ?ia20 ?il20 ?ic20 ?im20 ?ik20
    (case ix20=>k_is);(case ia20=>k_is);(case il20=>k_is);(case ic20=>k_is);(case im20=>k_is);(case ik20=>k_is)
   ·refine' Rs.rM ?a ?l ?c
    (case a=>k_is);(case l=>k_is);(case c=>k_is)
   ·refine' Rs.rM ?a ?l ?c
    (case a=>k_is);(case l=>k_is);(case c=>k_is)
   ·refine' Rs.rM ?a ?l ?c
    (case a=>k_is);(case l=>k_is);(case c=>k_is)
   ·refine' Rs.rM ?a ?l ?c
    (case a=>k_is);(case l=>k_is);(case c=>k_is)
   ·refine' Rs.rM ?a ?l ?c
    (case a=>k_is);(case l=>k_is);(case c=>k_is)
   ·refine' Rs.rM ?a ?l ?c
    (case a=>k_is);(case l=>k_is);(case c=>k_is)
   ·refine' Rs.rM ?a ?l ?c
    (case a=>k_is);(case l=>k_is);(case c=>k_is)
   ·refine' Rs.rD ?a ?l ?c ?t
    (case a=>k_is);(case l=>k_is);(case c=>k_is);(case t=>k_is)
  ·refine' Rs.cX (cn := "Weaver") KX ?xa21 ?zz21
   (case xa21=>k_is)
   refine⟨?_,?_,?_,?_,?_,?_,?_,?_,?_,?_,?_,?_,?_,?_,?_,?_⟩
   ·refine' Rs.cF ?fa21 ?fb21 ?fc21 ?fd21 ?fe21
    (case fa21=>k_is);(case fb21=>k_is);(case fc21=>k_is);(case fd21=>k_is)
    dsimp only[Rs.cA]
    repeat' (first | refine Z0.mpr ⟨?_,?_⟩ | exact Z9 _ | k_is)
   ·refine' Rs.rI KX G ?ix21 ?ia21 ?il21 ?ic21 ?im21 ?ik21
    (case ix21=>k_is);(case ia21=>k_is);(case il21=>k_is);(case ic21=>k_is);(case im21=>k_is);(case ik21=>k_is)
   ·refine' Rs.rM ?a ?l ?c
    (case a=>k_is);(case l=>k_is);(case c=>k_is)
   ·refine' Rs.rM ?a ?l ?c
    (case a=>k_is);(case l=>k_is);(case c=>k_is)
   ·refine' Rs.rM ?a ?l ?c
    (case a=>k_is);(case l=>k_is);(case c=>k_is)
   ·refine' Rs.rM ?a ?l ?c
    (case a=>k_is);(case l=>k_is);(case c=>k_is)
   ·refine' Rs.rM ?a ?l ?c
    (case a=>k_is);(case l=>k_is);(case c=>k_is)
   ·refine' Rs.rM ?a ?l ?c
    (case a=>k_is);(case l=>k_is);(case c=>k_is)
   ·refine' Rs.rM ?a ?l ?c
    (case a=>k_is);(case l=>k_is);(case c=>k_is)
   ·refine' Rs.rM ?a ?l ?c
    (case a=>k_is);(case l=>k_is);(case c=>k_is)
   ·refine' Rs.rM ?a ?l ?c
    (case a=>k_is);(case l=>k_is);(case c=>k_is)
   ·refine' Rs.rM ?a ?l ?c
    (case a=>k_is);(case l=>k_is);(case c=>k_is)
   ·refine' Rs.rD ?a ?l ?c ?t
    (case a=>k_is);(case l=>k_is);(case c=>k_is);(case t=>k_is)
   ·refine' Rs.rM ?a ?l ?c
    (case a=>k_is);(case l=>k_is);(case c=>k_is)
   ·refine' Rs.rD ?a ?l ?c ?t
    (case a=>k_is);(case l=>k_is);(case c=>k_is);(case t=>k_is)
   ·refine' Rs.rM ?a ?l ?c
    (case a=>k_is);(case l=>k_is);(case c=>k_is)
  iterate 16
   ·refine' Rs.aHP KX G ?a ?l ?c
    (case a=>k_is);(case l=>k_is);(case c=>k_is)
  iterate 11
   ·k_is
  ·refine' L2.qK KX G ?a
   (case a=>k_is)
  ·refine' L2.qK KX G ?a
   (case a=>k_is)
  ·refine' L2.qK KX G ?a
   (case a=>k_is)
  ·refine' L2.qK KX G ?a
   (case a=>k_is)
  ·refine' L2.qK KX G ?a
   (case a=>k_is)
  ·refine' L2.qK KX G ?a
   (case a=>k_is)
  ·refine' L2.qK KX G ?a
   (case a=>k_is)
#print axioms PySem.Challenge.cw_ripestone_k29_full_holds
