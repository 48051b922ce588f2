import PyProof.Rows.All
import Wide.All
import OpenK.AllK
import Wide.FinOn
import Lean
import PyProof.EqAt
import PyProof.EqKinds
import PyProof.TupleCall
import PySem.Challenge.RW_ripestone_k09_plan
open Array renaming getElem?_toList→E9,length_toList→F1,getD_eq_getD_getElem?→J5,getElem?_eq_getElem→K1,getD→N5,getElem_toList→R4,forIn_toList→X6,toList_push→Y4,toList→e8
open Array.Perm renaming refl→U7
open Bool renaming false_ne_true→D5,and_eq_true→D7,false_eq_true→K5,eq_iff_iff→M3,or_eq_true→P5,or_false→V9,and_false→c6
open Classical renaming em→f6
open Int renaming toNat_natCast→C5,emod_nonneg→K2,emod_lt_of_pos→K9,le_refl→P1,toNat_of_nonneg→P4,zero_add→X8,lt_or_le→Y0,lt_or_eq_of_le→Y1,ediv_nonneg→b8
open List renaming getElem?_eq_getElem→B0,getD_eq_getElem?_getD→B3,length_map→B5,size_toArray→B6,mem_cons_of_mem→B7,getElem?_eq_some_iff→B8,mem_cons_self→B9,mem_cons→C4,mem_singleton→C6,length_append→C7,getElem?_map→C8,map_cons→D4,range→D6,mem_append→D9,take_of_length_le→E1,mem_map→E2,mem_append_right→E4,pairwise_cons→E6,length_cons→E7,replicate→E8,getElem?_eq_none→F0,mem_append_left→F2,length_range→F3,mem_filter→F6,pairwise_iff_getElem→G1,map_nil→G5,map_map→J0,length_take→J1,mem_of_getElem?→J6,mem_range→J8,filter_eq_nil_iff→J9,nodup_cons→K0,length_filter_le→K3,eq_nil_of_length_eq_zero→K4,filter_cons→K6,cons_append→K7,take_add_one→L3,map_congr_left→L4,zipWith_cons_cons→L6,getElem?_append_right→L7,take_append_of_le_length→M4,getElem_of_mem→M5,map_id→M8,find?_cons→N0,nodup_iff_pairwise_ne→N1,pairwise_map→N2,getElem?_append_left→N3,drop_eq_getElem_cons→N4,take_zero→N7,length_drop→N8,toArray→O0,filter_eq_self→O1,map_append→O2,ext_getElem?→O3,reverse_cons→O5,lookup_cons→O7,any_eq_true→O8,getElem_mem→O9,mem_of_mem_take→P0,filterMap_cons→P2,nil_append→P6,foldl_cons→P7,getElem?_drop→P9,zip_cons_cons→Q1,any_cons→Q5,ext_getElem→Q7,pairwise_append→R5,take_succ_cons→R7,length_eraseIdx_of_lt→R9,foldl_append→S8,mem_take_iff_getElem→S9,all_eq_true→T2,zipWith→T4,map_fst_zip→T5,drop_length→T6,getElem?_replicate→T8,eraseIdx_cons_succ→T9,pairwise_mergeSort→U0,getElem?_cons_succ→U1,append_nil→U4,of_mem_zip→U5,getElem?_set_self→U8,length_replicate→V3,zipWith_nil_left→V4,getElem?_set_ne→V8,mergeSort_perm→W2,replicate_succ→W3,length_reverse→W7,getElem?_range→W8,length_pos_iff→X0,mem_filterMap→X1,getElem_range→X7,getElem?_take→X9,take_sublist→Y3,nodup_append→Y5,filter_congr→Y6,getElem_zip→Z4,getElem_map→Z5,take_length→Z6,length_set→a7,length_zip→a8,nodup_nil→c9,all_cons→d6
open List.Perm renaming refl→Q4,cons_inv→X4,nil_eq→Z0
open Nat renaming le_refl→B4,ne_of_lt→C9,lt_of_lt_of_le→D1,lt_or_ge→E3,le_trans→E5,lt_succ_of_lt→F8,zero_le→G9,lt_irrefl→J4,zero_add→J7,ne_of_gt→L5,le_of_lt→L9,lt_succ_self→M6,le_succ→M7,le_add_right→N9,lt_trichotomy→O4,min_self→R3,strongRecOn→R6,lt_of_le_of_lt→R8,le_of_eq→T1,not_lt_zero→U6,le_of_ble_eq_true→V7,eq_zero_or_pos→X5
open Option renaming bind_some→C3,isSome_map→S7,getD_none→Y8,map_map→c8,none→f9
open Option.some renaming inj→F5
open Or renaming inl→D2,inr→D3
open PyProof renaming noPylong_small→U9
open PyProof.Rows renaming callWith_type1→G8,slot_tuple_getitem→I0,boot_list→J2,boot_max→O6,boot_sorted→Q3,boot_int→Q8,callWith_builtin1→Q9,callWith_kw→T7,boot_dict→V1,gt_int→W6,lt_int→W9
open PyProof.Rows.F renaming plain_set_update_loop→M9,entry_set_update_loop→Q2
open PySem renaming boot_len→G2,mem_of_lookup→J3,call→a9,Within→d9
open PySem.F renaming plainAttrs_list→G0,slot_list_append→G6,type_list_append→G7,called_set→K8,plain_extend_loop→N6,plain_list_iadd→U2,plain_set_new→V5,slot_set_iter→V6
open PySem.W renaming mg_none_of→F4,codeIn→F7,kitOne→F9,kia_one→G3,fnOf→G4,keepIn→L0,findIn→L8,codeHdIn→Q6,methodObj→S0,specialIn→S5,kitx_list→S6,instObj→U3,cellsFrom_some→V0,lookIn→V2,kitx_tuple→X2,nsIn→X3,kitx_dict→Y2,plainGet→Y7,kdl_dict→Y9,km_in_of→Z7,hideAll→Z8,takesIn→Z9,OpenLaw→b7,CodeHd→b9,tabObj→c0,kitCls→c7,mroIn→d5,mg_of→d7,WalkO→d8,isFn→e9
open Sum renaming inl→D8,inr→T0
open Sum.inl renaming inj→f7
abbrev aA:=PySem.W.Frag
theorem aV{α:Type u_1}{b:α}{β:Type u_2}{x:Option β}{f:β→Option α}(h:x.bind f=some b):∃a,x=some a∧f a=some b:=Option.bind_eq_some_iff.mp h
theorem iT{α:Type u_1}{b:α}{β:Type u_2}{x:Option β}{f:β→α}(h:x.map f=some b):∃a,x=some a∧f a=b:=Option.map_eq_some_iff.mp h

set_option Elab.async false
set_option linter.all false
set_option maxRecDepth 100000
namespace L2
open PySem PySem.Spec PyProof.Rows
abbrev Key:=Sum Int Str
def Dh:Key→Value→Bool
 | .inl k,v=>Value.isInt k v
 | .inr x,v=>Value.isStrOf x v
def aBb(w:World):Key→Int
 | .inl k=>hashInt k
 | .inr x=>hashStr w x
theorem cH:∀{k:Key} {v:Value},Dh k v=true→(∃i t,k=D8 i∧v=Value.int i t)∨(∃x t,k=T0 x∧v=Value.str x t)
 | .inl i,v,h=>by
  obtain⟨t,e⟩:=Value.isInt_shape (k:=i) (v:=v) h
  exact .inl ⟨i,t,rfl,e⟩
 | .inr x,v,h=>by
  obtain⟨t,e⟩:=Value.isStrOf_shape (x:=x) (v:=v) h
  exact .inr ⟨x,t,rfl,e⟩
theorem Ur(i:Int)(t:Tok):Dh (.inl i) (.int i t)=true:=by simp[Dh,Value.isInt]
theorem Us(x:Str)(t:Tok):Dh (.inr x) (.str x t)=true:=by simp[Dh,Value.isStrOf]
theorem aa(a b:Int):decide ((D8 a:Key)=D8 b)=(a==b):=by
 by_cases e:a=b
 ·subst e;simp
 ·have h:¬(D8 a:Key)=D8 b:=λq=>e (f7 q)
  rw[decide_eq_false h]
  exact(beq_eq_false_iff_ne.mpr e).symm
theorem ak(a b:Str):decide ((T0 a:Key)=T0 b)=decide (a=b):=by
 by_cases e:a=b
 ·subst e;simp
 ·have h:¬(T0 a:Key)=T0 b:=λq=>e (Sum.inr.inj q)
  rw[decide_eq_false h,decide_eq_false e]
theorem ao(a:Int)(b:Str):decide ((D8 a:Key)=T0 b)=false:=decide_eq_false (λq=>nomatch q)
theorem aq(a:Str)(b:Int):decide ((T0 a:Key)=D8 b)=false:=decide_eq_false (λq=>nomatch q)
def cQ(prog:Program)(w:World):PySem.KeyKind prog w Key where
  is:=Dh
  hash:=aBb w
  inj:=λv a b ha hb=>by
    rcases cH ha with ⟨i,t,rfl,rfl⟩ | ⟨x,t,rfl,rfl⟩
    · rcases cH hb with ⟨j,u,rfl,e⟩ | ⟨y,u,rfl,e⟩
      · injection e with e1 _;rw[e1]
      · exact nomatch e
    · rcases cH hb with ⟨j,u,rfl,e⟩ | ⟨y,u,rfl,e⟩
      · exact nomatch e
      · injection e with e1 _;rw[e1]
  byValue:=λk v h=>by
    rcases cH h with ⟨i,t,rfl,rfl⟩ | ⟨x,t,rfl,rfl⟩<;>rfl
  pyHash:=λhv h=>by
    rcases cH hv with ⟨i,t,rfl,rfl⟩ | ⟨x,t,rfl,rfl⟩
    · exact wpAny_pyHash_int h
    · exact wpAny_pyHash_str h
  eqBool:=λhu hv h=>by
    rcases cH hu with ⟨i,t,rfl,rfl⟩ | ⟨x,t,rfl,rfl⟩
    · rcases cH hv with ⟨j,u,rfl,rfl⟩ | ⟨y,u,rfl,rfl⟩
      · rw[aa]at h;exact wpAny_eqBool_int h
      · rw[ao]at h;exact SeqAt.EqAt.int_str i t y u _ _ _ _ h
    · rcases cH hv with ⟨j,u,rfl,rfl⟩ | ⟨y,u,rfl,rfl⟩
      · rw[aq]at h;exact SeqAt.EqAt.str_int x t j u _ _ _ _ h
      · rw[ak]at h;exact wpAny_eqBool_str h
  «strs»:=λk x t v h=>by
    rcases cH h with ⟨i,u,rfl,e⟩ | ⟨y,u,rfl,e⟩
    · exact nomatch e
    · injection e with e1 _
      subst e1
      cases v<;>rfl
theorem Jb(prog:Program)(w:World)(i:Int)(t:Tok):(cQ prog w).is (.inl i) (.int i t)=true:=Ur i t
theorem Jc(prog:Program)(w:World)(x:Str)(t:Tok):(cQ prog w).is (.inr x) (.str x t)=true:=Us x t
end L2
namespace L2
open PySem PySem.Spec PyProof.Rows
inductive V where
  | non | bl (b:Bool) | int (i:Int) | str (x:Str) | byt (b:Array UInt8) | flt (b:UInt64) | ref (a:Addr) | ty (n:String)
  deriving DecidableEq
def RelV:V→Value→Prop
 | .non,u=>u=Value.none
 | .bl b,u=>u=Value.bool b
 | .int i,u=>∃t,u=Value.int i t
 | .str x,u=>∃t,u=Value.str x t
 | .byt b,u=>∃t,u=Value.bytes b t
 | .flt b,u=>∃t,u=Value.float b t
 | .ref a,u=>u=Value.ref a
 | .ty n,u=>u=Value.type n
abbrev Vals:List V→List Value→Prop:=Paired RelV
theorem Vals.length{xs:List V}{us:List Value}(r:Vals xs us):xs.length=us.length:=Paired.length r
theorem Vals.get:∀{xs:List V} {us:List Value} {i:Nat} {x:V},Vals xs us→xs[i]?=some x→∃u,us[i]?=some u∧RelV x u
 | _,_,_,_,.nil,e=>by simp at e
 | _,_,0,_,.cons r _,e=>by simp at e;subst e;exact⟨_,rfl,r⟩
 | _,_,i+1,x,.cons _ t,e=>by
  obtain⟨u,h1,h2⟩:=Vals.get (i:=i) (x:=x) t (by simpa using e)
  exact⟨u,by simpa using h1,h2⟩
theorem Vals.append:∀{xs ys:List V} {us ws:List Value},Vals xs us→Vals ys ws→Vals (xs++ys) (us++ws)
 | _,_,_,_,.nil,s=>s
 | _,_,_,_,.cons r t,s=>.cons r (Vals.append t s)
theorem Vals.take:∀{xs:List V} {us:List Value} (n:Nat),Vals xs us→Vals (xs.take n) (us.take n)
 | _,_,0,_=>.nil
 | _,_,_+1,.nil=>.nil
 | _,_,n+1,.cons r t=>.cons r (Vals.take n t)
theorem Vals.drop:∀{xs:List V} {us:List Value} (n:Nat),Vals xs us→Vals (xs.drop n) (us.drop n)
 | _,_,0,r=>r
 | _,_,_+1,.nil=>.nil
 | _,_,n+1,.cons _ t=>Vals.drop n t
def yR:Option V→Option Value→Prop
 | some v,some u=>RelV v u
 | none,none=>True
 | _,_=>False
def KV{κ:Type}:List (κ×V)→List (κ×Value)→Prop:=Paired λ(p:κ×V) (q:κ×Value)=>p.1=q.1∧RelV p.2 q.2
def kV:Key→V
 | .inl i=>.int i
 | .inr x=>.str x
inductive HO where
  | lst (xs:List V)
  | tup (xs:List V)
  | dK (kvs:List (Key×V)) | dT (kvs:List (List Key×V))
  | set (S:Int→Bool) (n:Nat)
  | ins (C dx:Addr) (fs:List (Str×V))
  | own (x:Addr)
  | xd (fs:List (Str×V))
  | met (f x:Addr)
  | rng (lo hi:Int)
  | qG (o:Obj) (u:HO)
  | tbl (ps:Array Value)
  | ext (φ:Heap→Prop)
abbrev Hp:=Addr→Option HO
def upd(H:Hp)(a:Addr)(o:HO):Hp:=λb=>if b=a then some o else H b
theorem aX{H:Hp}{a:Addr}{o:HO}:upd H a o a=some o:=by unfold upd;rw[if_pos rfl]
theorem aQ{H:Hp}{a b:Addr}{o:HO}(h:b≠a):upd H a o b=H b:=by unfold upd;rw[if_neg h]
theorem xn{H:Hp}{a b:Addr}{o u:HO}(h:H a=some o)(h':H b=some u)(d:o≠u):a≠b:=by
 intro e;subst e;rw[h]at h';exact d (F5 h')
theorem bH{H:Hp}{a b:Addr}{o:HO}(h:H a=some o)(h':H b=none):a≠b:=by
 intro e;subst e;rw[h]at h';cases h'
section
variable(P:Program)(w:World)
def Rc(oc:Obj)(q:Str):Prop:=∃vs t,oc.data=.fields vs∧vs[1]?=some (.str q t)
def cI(H:Hp)(h:Heap)(a:Addr):HO→Prop
 | .lst xs=>xs.length≤sizeLine∧∃(its:List Value)(n:Nat),Vals xs its∧h.get? a=some {cls:=.type "list", data:=.seq its.toArray n}
 | .tup xs=>xs.length≤sizeLine∧∃its:List Value,Vals xs its∧IsTup h a its.toArray
 | .dK kvs=>kvs.length≤sizeLine∧(a==sysModules)=false∧∃vs,KV kvs vs∧h.DictOf (cQ P w) a vs
 | .dT kvs=>kvs.length≤sizeLine∧(a==sysModules)=false∧∃xs:List (List Key×Addr×Value),
   Paired (λ(p:List Key×V) (q:List Key×Addr×Value)=>p.1=q.1∧H q.2.1=some (.tup (p.1.map kV))∧RelV p.2 q.2.2) kvs xs ∧
   ∃o es ep,h.get? a=some o∧o.ExactDict∧o.data=.dict es ep∧es.toList=xs.map (entryOfKey (tupleKind (cQ P w)))∧(xs.map (·.1)).Nodup
 | .set S n=>h.SetOf (intKind P w) a S n
 | .ins C dx fs=>H dx=some (.own a)∧fs.length≤1000∧dx≠a∧h.get? a=some (U3 C dx) ∧
   ∃mA,h.Ns1 dx mA∧(∀f,yR (fs.lookup f) (mA f))∧d9 mA (fs.map (·.1))
 | .own _=>∃o,h.get? a=some o
 | .xd fs=>∃mA,h.Ns1 a mA∧∀f,yR (fs.lookup f) (mA f)
 | .rng lo hi=>∃t u v,h.get? a=some {cls:=.type "range", data:=.fields #[.int lo t,.int hi u,.int 1 v]}
 | .qG o u=>h.get? a=some o∧cI H h a u
 | .tbl qs=>∃ps:Array Value,h.get? a=some {cls:=.none,data:=.fields ps}∧TriplesOk ps.toList∧∀pos c,codeAmong pos ps.toList=some c→∃c' oc q t,qs[0]?=some (.str q t)∧c=.ref c'∧H c'=some (.qG oc (.own a))∧Rc oc q
 | .met f x=>h.get? a=some (S0 (.ref f) (.ref x))
 | .ext φ=>φ h∧(∃o,h.get? a=some o)∧∀h1 h2:Heap,φ h1→(∀o,h1.get? a=some o→h2.get? a=some o)→φ h2
def tD(H:Hp)(h:Heap):Prop:=∀a o,H a=some o→cI P w H h a o
end
section
variable{P:Program}{w:World}{H H':Hp}{h h':Heap}{a:Addr}{o:HO}
theorem cI.lt(x:cI P w H h a o):a<h.objs.size:=by
 cases o with
 | lst xs=>obtain⟨_,_,_,_,e⟩:=x;exact Heap.lt_size e
 | tup xs=>obtain⟨_,_,_,p⟩:=x;exact p.lt
 | dK kvs=>obtain⟨_,_,_,_,o,_,_,e,_⟩:=x;exact Heap.lt_size e
 | dT kvs=>obtain⟨_,_,_,_,o,_,_,e,_⟩:=x;exact Heap.lt_size e
 | set S n=>obtain⟨o,_,_,_,e,_⟩:=x;exact Heap.lt_size e
 | ins C dx fs=>obtain⟨_,_,_,e,_⟩:=x;exact Heap.lt_size e
 | own y=>obtain⟨_,e⟩:=x;exact Heap.lt_size e
 | xd fs=>obtain⟨_,⟨_,_,_,e,_⟩,_⟩:=x;exact Heap.lt_size e
 | rng lo hi=>obtain⟨_,_,_,e⟩:=x;exact Heap.lt_size e
 | qG ob u=>obtain⟨e,_⟩:=x;exact Heap.lt_size e
 | tbl ps=>obtain⟨_,e,_⟩:=x;exact Heap.lt_size e
 | met f y=>exact Heap.lt_size (show h.get? a=some _ from x)
 | ext φ=>obtain⟨_,⟨_,e⟩,_⟩:=x;exact Heap.lt_size e
theorem Paired.au{α β:Type}{F G:α→β→Prop}:∀{l₁:List α} {l₂:List β},Paired F l₁ l₂→(∀a b,F a b→G a b)→Paired G l₁ l₂
 | _,_,.nil,_=>.nil
 | _,_,.cons r t,f=>.cons (f _ _ r) (Paired.au t f)
theorem cI.stay(x:cI P w H h a o)(k:∀b u,(b=a∨H b=some (.own a))→h.get? b=some u→h'.get? b=some u)
  (ho:∀b,H b=some (.own a)→H' b=some (.own a)) (ht:∀b xs,H b=some (.tup xs)→H' b=some (.tup xs)) (hf:∀b ob y,H b=some (.qG ob (.own y))→H' b=some (.qG ob (.own y))):cI P w H' h' a o:=by
 induction o with
 | lst xs=>obtain⟨z,its,n,r,e⟩:=x;exact⟨z,its,n,r,k _ _ (.inl rfl) e⟩
 | tup xs=>obtain⟨z,its,r,ob,e,c⟩:=x;exact⟨z,its,r,ob,k _ _ (.inl rfl) e,c⟩
 | dK kvs=>obtain⟨z,y,vs,r,ob,es,ep,e,c⟩:=x;exact⟨z,y,vs,r,ob,es,ep,k _ _ (.inl rfl) e,c⟩
 | dT kvs=>
  obtain⟨z,y,xs,r,ob,es,ep,e,c⟩:=x
  exact⟨z,y,xs,Paired.au r λp q z=>⟨z.1,ht _ _ z.2.1,z.2.2⟩,ob,es,ep,k _ _ (.inl rfl) e,c⟩
 | set S n=>obtain⟨ob,es,ep,t,e,c⟩:=x;exact⟨ob,es,ep,t,k _ _ (.inl rfl) e,c⟩
 | ins C dx fs=>
  obtain⟨d,z,ne,e,mA,⟨od,es,ep,e2,c⟩,r⟩:=x
  exact⟨ho _ d,z,ne,k _ _ (.inl rfl) e,mA,⟨od,es,ep,k _ _ (.inr d) e2,c⟩,r⟩
 | own y=>obtain⟨ob,e⟩:=x;exact⟨ob,k _ _ (.inl rfl) e⟩
 | xd fs=>obtain⟨mA,⟨od,es,ep,e,c⟩,r⟩:=x;exact⟨mA,⟨od,es,ep,k _ _ (.inl rfl) e,c⟩,r⟩
 | rng lo hi=>obtain⟨t,u,v,e⟩:=x;exact⟨t,u,v,k _ _ (.inl rfl) e⟩
 | qG ob u ih=>obtain⟨e,q⟩:=x;exact⟨k _ _ (.inl rfl) e,ih q⟩
 | tbl qs=>
  obtain⟨ps,e,tr,am⟩:=x
  refine⟨ps,k _ _ (.inl rfl) e,tr,λpos c hc=>?_⟩
  obtain⟨c',oc,q,t,e1,e0,e2,r⟩:=am pos c hc
  exact⟨c',oc,q,t,e1,e0,hf _ _ _ e2,r⟩
 | met f y=>
  have e:h.get? a=some (S0 (.ref f) (.ref y)):=x
  show h'.get? a=some (S0 (.ref f) (.ref y))
  exact k a _ (.inl rfl) e
 | ext φ=>obtain⟨p,⟨o,e⟩,st⟩:=x;exact⟨st _ _ p λo q=>k _ _ (.inl rfl) q,⟨o,k _ _ (.inl rfl) e⟩,st⟩
theorem tD.lt(x:tD P w H h)(e:H a=some o):a<h.objs.size:=(x a o e).lt
theorem tD.fresh(x:tD P w H h)(e:h.objs.size≤a):H a=none:=by
 cases q:H a with
 | none=>rfl
 | some u=>exact absurd (D1 (x.lt q) e) (J4 _)
theorem tD.kept(x:tD P w H h)(k:∀b u,h.get? b=some u→h'.get? b=some u):tD P w H h':=λa o e=>
 (x a o e).stay (λb u _ q=>k b u q) (λ_ q=>q) (λ_ _ q=>q) λ_ _ _ q=>q
theorem tD.laid(x:tD P w H h)(k:∀b u,h.get? b=some u→h'.get? b=some u)(hp:h.objs.size≤a)(new:cI P w (upd H a o) h' a o):tD P w (upd H a o) h':=λb u e=>by
 have hn:=x.fresh hp
 by_cases hb:b=a
 ·subst hb;rw[aX]at e;cases e;exact new
 ·rw[aQ hb]at e
  exact(x b u e).stay (λc v _ q=>k c v q) (λc q=>by rw[aQ (bH q hn)];exact q) (λc xs q=>by rw[aQ (bH q hn)];exact q) λc ob y q=>by rw[aQ (bH q hn)];exact q
end
def Rd(H:Hp)(a:Addr)(u:HO):Prop:=H a=some u∨∃o,H a=some (.qG o u)
theorem Rd.ok{P:Program}{w:World}{H:Hp}{h:Heap}{a:Addr}{u:HO}(r:Rd H a u)(x:tD P w H h):cI P w H h a u:=by
 rcases r with r | ⟨o,r⟩
 ·exact x a u r
 ·obtain⟨_,q⟩:=x a _ r
  exact q
def KQ:Option HO→Prop
 | some (.lst _)=>True
 | some (.dK _)=>True
 | some (.dT _)=>True
 | some (.set _ _)=>True
 | some (.ins _ _ _)=>True
 | some (.ext _)=>True
 | _=>False
section
variable{P:Program}{w:World}{H:Hp}{h h':Heap}{x e:Addr}{o':HO}
theorem tD.write(ok:tD P w H h)(mu:KQ (H x))(he:e=x∨H e=some (.own x))(k:∀b u,b≠e→h.get? b=some u→h'.get? b=some u)(heo:∃u,h'.get? e=some u)
  (new:cI P w (upd H x o') h' x o'):tD P w (upd H x o') h':=λb u q=>by
 have xq:∀c y,H c=some (.own y)→c≠x:=λc y r z=>by subst z;rw[r]at mu;exact mu
 have aBc:∀c xs,H c=some (.tup xs)→c≠x:=λc xs r z=>by subst z;rw[r]at mu;exact mu
 by_cases hb:b=x
 ·subst hb;rw[aX]at q;cases q;exact new
 ·rw[aQ hb]at q
  by_cases hbe:b=e
  ·have q':H b=some (.own x):=by
    rcases he with z | z
    ·exact absurd (hbe.trans z) hb
    ·rw[hbe];exact z
   rw[q]at q';cases q'
   obtain⟨v,hv⟩:=heo
   exact⟨v,by rw[hbe];exact hv⟩
  ·refine(ok b u q).stay (λc v hc r=>k c v ?_ r) (λc r=>by rw[aQ (xq c b r)];exact r) (λc xs r=>by rw[aQ (aBc c xs r)];exact r) λc ob y r=>by rw[aQ (λz=>by subst z;rw[r]at mu;exact mu)];exact r
   rcases hc with rfl | hc
   ·exact hbe
   ·rintro rfl
    rcases he with z | z
    ·exact xq c b hc z
    ·rw[hc]at z;cases z;exact hb rfl
end
structure Un(fs ex:List Addr)(H H':Hp)(h h':Heap):Prop where
 keep:∀b o,h.get? b=some o→H b=none→b∉fs→b∉ex→h'.get? b=some o
 slot:∀b o,h.get? b=some o→H b=none→b∈fs→b∉ex→∃sl,h'.get? b=some {o with slots:=sl}
 free:∀b o,h.get? b=some o→H b=none→b∉ex→H' b=none
 there:∀b o,h.get? b=some o→b∉ex→∃o',h'.get? b=some o'
 tups:∀b xs,H b=some (.tup xs)→H' b=some (.tup xs)
 Ff:∀b o u,H b=some (.qG o u)→H' b=some (.qG o u)
 Cg:∀b ps,H b=some (.tbl ps)→∃more,H' b=some (.tbl (ps++more))
section
variable{fs fs' ex ex':List Addr}{H H1 H2:Hp}{h h1 h2 h':Heap}{a x e:Addr}{o:HO}
theorem Un.any(u:Un fs ex H H1 h h1){b:Addr}{ob:Obj}(q:h.get? b=some ob)(n:H b=none)(hx:b∉ex):∃sl,h1.get? b=some {ob with slots:=sl}:=by
 by_cases hb:b∈fs
 ·exact u.slot b ob q n hb hx
 ·exact⟨ob.slots,u.keep b ob q n hb hx⟩
theorem Un.kept(k:∀b u,h.get? b=some u→h'.get? b=some u):Un fs ex H H h h':=
 ⟨λb ob q _ _ _=>k b ob q,λb ob q _ _ _=>⟨ob.slots,k b ob q⟩,λ_ _ _ n _=>n,λb ob q _=>⟨ob,k b ob q⟩,λ_ _ q=>q,λ_ _ _ q=>q,λ_ ps q=>⟨#[],by rw[q];simp⟩⟩
theorem Un.refl:Un fs ex H H h h:=Un.kept λ_ _ q=>q
theorem Un.laid(k:∀b u,h.get? b=some u→h'.get? b=some u)(hp:h.objs.size≤a)(hn:H a=none):Un fs ex H (upd H a o) h h' where
 keep:=λb u q _ _ _=>k b u q
 slot:=λb u q _ _ _=>⟨u.slots,k b u q⟩
 free:=λb u q n _=>by rw[aQ (C9 (D1 (Heap.lt_size q) hp))];exact n
 there:=λb u q _=>⟨u,k b u q⟩
 tups:=λb xs q=>by rw[aQ (bH q hn)];exact q
 Ff:=λb u xs q=>by rw[aQ (bH q hn)];exact q
 Cg:=λb ps q=>⟨#[],by rw[aQ (bH q hn),q];simp⟩
theorem Un.write(mu:KQ (H x))(he:e=x∨H e=some (.own x))(k:∀b u,b≠e→h.get? b=some u→h'.get? b=some u)(heo:∃u,h'.get? e=some u):Un fs ex H (upd H x o) h h':=by
 have hx:∀b,H b=none→b≠x:=λb n z=>by subst z;rw[n]at mu;exact mu
 have hb:∀b,H b=none→b≠e:=λb n z=>by
  subst z
  rcases he with r | r
  ·exact hx b n r
  ·rw[n]at r;cases r
 have hm:∀b u,H b=some u→¬KQ (some u)→b≠x:=λb u q nm z=>by subst z;rw[q]at mu;exact nm mu
 refine⟨λb u q n _ _=>k b u (hb b n) q,λb u q n _ _=>⟨u.slots,k b u (hb b n) q⟩,λb u q n _=>by rw[aQ (hx b n)];exact n,λb u q _=>?_,
  λb xs q=>by rw[aQ (hm b _ q λz=>z)];exact q,λb u xs q=>by rw[aQ (hm b _ q λz=>z)];exact q,λb ps q=>⟨#[],by rw[aQ (hm b _ q λz=>z),q];simp⟩⟩
 by_cases hbe:b=e
 ·subst hbe;exact heo
 ·exact⟨u,k b u hbe q⟩
end
def trk(h:Heap)(H:Hp):List Addr:=(D6 h.objs.size).filter λa=>(H a).isSome
def Fg(h:Heap)(H:Hp):Heap:=Z8 h (trk h H)
theorem Ut(h:Heap)(H:Hp):(Fg h H).objs.size=h.objs.size:=PySem.W.hideAll_size _ _
theorem Xn{h:Heap}{H:Hp}{b:Addr}{o:Obj}(e:h.get? b=some o)(n:H b=none):(Fg h H).get? b=some o:=
 PySem.W.hideAll_get _ e λhm=>by
  have q:(H b).isSome=true:=(F6.mp hm).2
  rw[n]at q;simp at q
theorem KR{h:Heap}{H:Hp}{b:Addr}{o:Obj}(e:(Fg h H).get? b=some o):h.get? b=some o∧H b=none:=by
 have e':h.get? b=some o:=PySem.W.of_hideAll (trk h H) e
 refine⟨e',?_⟩
 cases q:H b with
 | none=>rfl
 | some x=>
  have hm:b∈trk h H:=F6.mpr ⟨J8.mpr (Heap.lt_size e'),by simp[q]⟩
  have z:(Fg h H).get? b=none:=PySem.W.hideAll_none (trk h H) hm
  rw[z]at e;cases e
def KY(g h:Heap)(L:Addr):List (Addr×Obj):=(D6 h.objs.size).filterMap λa=>if a=L∨(g.get? a).isSome=true then none else(h.get? a).map λo=>(a,o)
def rest(g h:Heap)(L d:Addr):List (Addr×Obj):=(KY g h L).filter λp=>decide (p.1≠d)
end L2
namespace L2
open PySem PySem.Spec PyProof.Rows
def xr(mg:Str→Option Value)(h:Heap):Prop:=∃bm ob,mg "__builtins__" = some (.ref bm)∧bm≠builtinsNs∧h.get? bm=some ob∧ob.cls=.type "module" ∧ ob.dict=some builtinsNs∧ob.data=.plain
structure Mod(K:aA)(mg:Str→Option Value)(base:Heap):Prop where
 kin:K.In base
 glob:base.Ns mainGlobals mg
 blt:∃mb,base.Ns builtinsNs mb∧∀x:Str,x ≠ "__name__" → mb x=bootBuiltins x
 nolimit:base.NoLimit
 bm:xr mg base
structure Cx where
 prog:Program
 w:World
 K:aA
 mg:Str→Option Value
 base:Heap
 A:Around
 N:List Str
 s₀:Shared
 H₀:Hp
 env:Env
 outer:List Env
 stack:List Env
 ex:List Addr
 fn:Str→Bool
 calm:Bool
 pn:List (Addr×Obj)
 xe:Value→Shared→Prop
def frs(l:List Env):List Addr:=l.filterMap (·.frame)
abbrev Cx.fs(X:Cx):List Addr:=frs X.outer
def xu(sc:Scope)(x:Str):Prop:=sc.names.lookup x=some .local∨sc.names.lookup x=some .cell∨sc.names.lookup x=some .free
def Loc(sc:Scope)(x:Str):Prop:=sc.names.lookup x=some .local∨sc.names.lookup x=some .cell
def Look(env:Env)(h:Heap)(m:Str→Option Value)(x:Str)(u:Value):Prop:=
 (env.kindOf x=some .local∧m x=some u)∨((env.kindOf x=some .cell∨env.kindOf x=some .free)∧∃c,env.cells.lookup x=some c∧h.IsCell c (some u))
def az(K:aA)(H:Hp):Prop:=∀c,F7 K (.ref c) "wanted_by_turn" = true→∃P qs t,Q6 K c P=true∧H P=some (.tbl qs)∧qs[0]?=some (.str "wanted_by_turn.<locals>.<lambda>" t)
structure Cx.Ok(X:Cx):Prop where
 mod:Mod X.K X.mg X.base
 kind:X.env.scope.kind=.function
 glob:X.env.globals=mainGlobals
 blt:X.env.builtins=builtinsNs
 above:X.s₀.heap.objs.size≤X.env.locals
 inj:∀x y c,X.env.cells.lookup x=some c→X.env.cells.lookup y=some c→x=y
 has:∀x,(X.env.kindOf x=some .cell∨X.env.kindOf x=some .free)→∃c,X.env.cells.lookup x=some c
 cab:∀x c,X.fn x=true→X.env.cells.lookup x=some c→X.s₀.heap.objs.size≤c
 hd:X.calm=true→X.A.handled=none
 frames:X.A.frames=some X.stack
 stk:X.stack=X.outer∨(X.stack=X.env::X.outer∧X.env.frame=some X.env.locals)
 exf:∀b∈X.ex,b≠X.env.locals∧∀x c,X.env.cells.lookup x=some c→c≠b
 bs:∀b o,X.base.get? b=some o→X.s₀.heap.get? b=some o∧X.H₀ b=none
 KZ:X.base.objs.size≤X.s₀.heap.objs.size
 Xo:∀b o,X.base.get? b=some o→b∉X.ex
 LC:∀b∈X.ex,b∉X.fs
 yS:X.s₀.heap.FunFrames X.base X.outer
 vp:∀b∈X.fs,X.H₀ b=none
 tab:az X.K X.H₀
structure Inv(X:Cx)(pins:List (Addr×Obj))(σ:List (Option V))(H:Hp)(s:Shared):Prop where
 ok:X.Ok
 os:s.os=X.s₀.os
 bare:AllBare s.gens
 base:Un X.fs X.ex X.H₀ H X.s₀.heap s.heap
 loc:∃m,s.heap.Ns X.env.locals m∧∀(i:Nat)(x:Str)(v:V),X.N[i]?=some x→σ[i]?=some (some v)→xu X.env.scope x→∃u,RelV v u∧Look X.env s.heap m x u
 cell:∀x c,X.env.cells.lookup x=some c→∃v,s.heap.IsCell c v
 free:H X.env.locals=none
 nY:∀x c,X.env.cells.lookup x=some c→H c=none
 pin:∀p∈X.pn++pins,s.heap.get? p.1=some p.2∧H p.1=none∧p.1≠X.env.locals∧p.1∉X.fs∧∀v,p.2.data≠.cell v
 hok:tD X.prog X.w H s.heap
 len:σ.length=X.N.length
section
variable{X:Cx}{pins:List (Addr×Obj)}{σ:List (Option V)}{H H':Hp}{s:Shared}{h':Heap}
theorem Cx.Ok.aBe(ok:X.Ok){b:Addr}{o:Obj}(e:X.base.get? b=some o):b∉X.fs:=λhb=>by
 have:=(ok.yS.mem hb).1
 rw[e]at this;cases this
theorem Inv.bs(I:Inv X pins σ H s):∀b o,X.base.get? b=some o→s.heap.get? b=some o∧H b=none:=λb o e=>
 ⟨I.base.keep b o (I.ok.bs b o e).1 (I.ok.bs b o e).2 (I.ok.aBe e) (I.ok.Xo b o e),I.base.free b o (I.ok.bs b o e).1 (I.ok.bs b o e).2 (I.ok.Xo b o e)⟩
theorem Inv.bk(I:Inv X pins σ H s):∀b o,X.base.get? b=some o→s.heap.get? b=some o:=λb o e=>(I.bs b o e).1
theorem Inv.mod(I:Inv X pins σ H s):Mod X.K X.mg X.base:=I.ok.mod
theorem Inv.tab(I:Inv X pins σ H s):az X.K H:=λc hc=>by
 obtain⟨P,qs,t,h1,h2,h3⟩:=I.ok.tab c hc
 obtain⟨more,h4⟩:=I.base.Cg P qs h2
 refine⟨P,qs++more,t,h1,h4,?_⟩
 have:=(Array.getElem?_eq_some_iff.mp h3).1
 rw[Array.getElem?_append_left this]
 exact h3
theorem Inv.Di(I:Inv X pins σ H s):X.K.In s.heap:=I.ok.mod.kin.keeps I.bk
theorem Inv.nolimit(I:Inv X pins σ H s):s.heap.NoLimit:=I.ok.mod.nolimit.keeps I.bk
theorem Inv.lt(I:Inv X pins σ H s):X.env.locals<s.heap.objs.size:=let ⟨_,hn,_⟩:=I.loc;hn.lt
theorem Inv.sz(I:Inv X pins σ H s):X.s₀.heap.objs.size≤s.heap.objs.size:=E5 I.ok.above (L9 I.lt)
theorem Inv.aBf(I:Inv X pins σ H s){a:Addr}(h:s.heap.objs.size≤a):a∉X.fs:=λhb=>by
 obtain⟨_,o,ho,_⟩:=I.ok.yS.mem hb
 exact absurd (D1 (Heap.lt_size ho) (E5 I.sz h)) (J4 _)
theorem Inv.JX(I:Inv X pins σ H s):∀x c,X.env.cells.lookup x=some c→c≠X.env.locals:=λx c e z=>by
 obtain⟨v,o,ho,hd⟩:=I.cell x c e
 obtain⟨m,⟨o',es,ep,ho',hd',_⟩,_⟩:=I.loc
 rw[z,ho']at ho;cases ho;rw[hd']at hd;cases hd
theorem Inv.yS(I:Inv X pins σ H s):s.heap.FunFrames X.base X.outer:=by
 have all:∀(l:List Env),(∀b∈frs l,b∈X.fs)→X.s₀.heap.FunFrames X.base l→s.heap.FunFrames X.base l:=by
  intro l
  induction l with
  | nil=>intro _ _;trivial
  | cons env r ih=>
   intro hs hl
   obtain⟨hk,⟨L,o,hf,hn,ho,hd⟩,hr⟩:=hl
   have hL:L∈X.fs:=hs L (by unfold frs;rw[P2,hf];exact B9)
   obtain⟨sl,e⟩:=I.base.slot L o ho (I.ok.vp L hL) hL λz=>I.ok.LC L z hL
   exact⟨hk,⟨L,_,hf,hn,e,hd⟩,ih (λb hb=>hs b (by unfold frs;rw[P2,hf];exact B7 _ hb)) hr⟩
 exact all X.outer (λ_ hb=>hb) I.ok.yS
theorem Inv.stack(I:Inv X pins σ H s):s.heap.FunFrames X.base X.stack:=by
 rcases I.ok.stk with e | ⟨e,hf⟩
 ·rw[e];exact I.yS
 ·rw[e]
  obtain⟨m,hn,_⟩:=I.loc
  refine .cons (by rw[I.ok.kind];decide) hf hn ?_ I.yS
  exact Heap.get?_none_of_le (E5 I.ok.KZ I.ok.above)
theorem Inv.Fi(I:Inv X pins σ H s):∀b∈frs X.stack,b∈X.env.locals::X.fs:=λb hb=>by
 rcases I.ok.stk with e | ⟨e,hf⟩
 ·rw[e]at hb;exact B7 _ hb
 ·rw[e]at hb
  unfold frs at hb
  rw[P2,hf]at hb
  exact hb
theorem Inv.Fj(I:Inv X pins σ H s):∀b∈frs X.stack,H b=none:=λb hb=>by
 rcases C4.mp (I.Fi b hb)with e | hb
 ·rw[e];exact I.free
 ·obtain⟨_,o,ho,_⟩:=I.ok.yS.mem hb
  exact I.base.free b o ho (I.ok.vp b hb) λz=>I.ok.LC b z hb
theorem Inv.step{g':Array GenState}{t':Nat}{d':Drawn}{ch:List Addr}(I:Inv X pins σ H s)
  (hch:∀b∈ch,(b∈X.ex∨X.s₀.heap.objs.size≤b)∧b≠X.env.locals∧(∀x c,X.env.cells.lookup x=some c→c≠b)∧∀p∈X.pn++pins,p.1≠b)
  (keep:∀b o,b≠X.env.locals→b∉X.fs→b∉ch→s.heap.get? b=some o→H b=none→h'.get? b=some o)
  (slot:∀b o,b≠X.env.locals→b∈X.fs→b∉ch→s.heap.get? b=some o→H b=none→∃sl,h'.get? b=some {o with slots:=sl}) (free:∀b o,b∉ch→s.heap.get? b=some o→H b=none→H' b=none)
  (there:∀b o,b∉ch→s.heap.get? b=some o→∃o',h'.get? b=some o')
  (tups:∀b xs,H b=some (.tup xs)→H' b=some (.tup xs)) (Ff:∀b o u,H b=some (.qG o u)→H' b=some (.qG o u)) (Cg:∀b ps,H b=some (.tbl ps)→∃more,H' b=some (.tbl (ps++more)))
  (ns:∀m,s.heap.Ns X.env.locals m→h'.Ns X.env.locals m) (hok:tD X.prog X.w H' h') (hg:AllBare g') :
  Inv X pins σ H' {s with heap:=h',gens:=g',drawn:=d',toks:=t'}:=by
 have neL:∀b o,X.s₀.heap.get? b=some o→b≠X.env.locals:=λb o e=>C9 (D1 (Heap.lt_size e) I.ok.above)
 have vq:∀b o,X.s₀.heap.get? b=some o→b∉X.ex→b∉ch:=λb o e hx hb=>by
  rcases(hch b hb).1 with z | z
  ·exact hx z
  ·exact absurd (D1 (Heap.lt_size e) z) (J4 _)
 have cellK:∀x c,X.env.cells.lookup x=some c→∀v,s.heap.IsCell c v→h'.IsCell c v:=λx c e v ⟨o,ho,hd⟩=>by
  have xx:c∉ch:=λz=>(hch c z).2.2.1 x c e rfl
  by_cases hc:c∈X.fs
  ·obtain⟨sl,q⟩:=slot c o (I.JX x c e) hc xx ho (I.nY x c e)
   exact⟨_,q,hd⟩
  ·exact⟨o,keep c o (I.JX x c e) hc xx ho (I.nY x c e),hd⟩
 refine⟨I.ok,I.os,hg,⟨λb o e n hb hx=>?_,λb o e n hb hx=>?_,λb o e n hx=>?_,λb o e hx=>?_,λb xs e=>tups b xs (I.base.tups b xs e),λb o xs e=>Ff b o xs (I.base.Ff b o xs e),λb ps e=>?_⟩,?_,λx c e=>?_,?_,λx c e=>?_,λp hp=>?_,hok,I.len⟩
 ·exact keep b o (neL b o e) hb (vq b o e hx) (I.base.keep b o e n hb hx) (I.base.free b o e n hx)
 ·obtain⟨sl,e1⟩:=I.base.slot b o e n hb hx
  obtain⟨sl',e2⟩:=slot b _ (neL b o e) hb (vq b o e hx) e1 (I.base.free b o e n hx)
  exact⟨sl',e2⟩
 ·obtain⟨o',e1⟩:=I.base.there b o e hx
  exact free b o' (vq b o e hx) e1 (I.base.free b o e n hx)
 ·obtain⟨o',e1⟩:=I.base.there b o e hx
  exact there b o' (vq b o e hx) e1
 ·obtain⟨m1,e1⟩:=I.base.Cg b ps e
  obtain⟨m2,e2⟩:=Cg b _ e1
  exact⟨m1++m2,by rw[e2,Array.append_assoc]⟩
 ·obtain⟨m,hn,hl⟩:=I.loc
  refine⟨m,ns m hn,λi x v e1 e2 e3=>?_⟩
  obtain⟨u,r,l⟩:=hl i x v e1 e2 e3
  refine⟨u,r,?_⟩
  rcases l with l | ⟨k,c,e,z⟩
  ·exact .inl l
  ·exact .inr ⟨k,c,e,cellK x c e _ z⟩
 ·obtain⟨v,z⟩:=I.cell x c e
  exact⟨v,cellK x c e v z⟩
 ·obtain⟨m,⟨o,_,_,ho,_⟩,_⟩:=I.loc
  exact free _ o (λz=>(hch _ z).2.1 rfl) ho I.free
 ·obtain⟨v,o,ho,hd⟩:=I.cell x c e
  exact free c o (λz=>(hch c z).2.2.1 x c e rfl) ho (I.nY x c e)
 ·obtain⟨e,n,ne,nf,d⟩:=I.pin p hp
  have xx:p.1∉ch:=λz=>(hch p.1 z).2.2.2 p hp rfl
  exact⟨keep p.1 p.2 ne nf xx e n,free p.1 p.2 xx e n,ne,nf,d⟩
theorem Inv.un{t':Nat}(I:Inv X pins σ H s)(u:Un X.fs [] H H' s.heap h')(hok:tD X.prog X.w H' h'):Inv X pins σ H' {s with heap:=h',toks:=t'}:=by
 obtain⟨m,⟨o,es,ep,ho,r⟩,_⟩:=id I.loc
 obtain⟨sl,hL⟩:=u.any ho I.free (by simp)
 exact I.step (g':=s.gens) (d':=s.drawn) (ch:=[]) (λ_ z=>nomatch z) (λb o _ hb _ e n=>u.keep b o e n hb (by simp)) (λb o _ hb _ e n=>u.slot b o e n hb (by simp)) (λb o _ e n=>u.free b o e n (by simp)) (λb o _ e=>u.there b o e (by simp)) u.tups u.Ff u.Cg (λm' hm=>by
  obtain⟨o',es',ep',ho',r'⟩:=hm
  rw[ho]at ho';cases ho'
  exact⟨_,es',ep',hL,r'⟩) hok I.bare
theorem Inv.call{g':Array GenState}{t':Nat}{d':Drawn}{ch:List Addr}(I:Inv X pins σ H s)(u:Un (frs X.stack) ch H H' s.heap h')(hok:tD X.prog X.w H' h')(hg:AllBare g')
  (hch:∀b∈ch,(b∈X.ex∨X.s₀.heap.objs.size≤b)∧b≠X.env.locals∧(∀x c,X.env.cells.lookup x=some c→c≠b)∧∀p∈X.pn++pins,p.1≠b) :
  Inv X pins σ H' {s with heap:=h',gens:=g',drawn:=d',toks:=t'}:=by
 obtain⟨m,⟨o,es,ep,ho,r⟩,_⟩:=id I.loc
 obtain⟨sl,hL⟩:=u.any ho I.free λz=>(hch _ z).2.1 rfl
 exact I.step (ch:=ch) hch (λb o hL hb hc e n=>u.keep b o e n (λz=>(C4.mp (I.Fi b z)).elim hL hb) hc) (λb o _ _ hc e n=>u.any e n hc) (λb o hc e n=>u.free b o e n hc) (λb o hc e=>u.there b o e hc) u.tups u.Ff u.Cg (λm' hm=>by
  obtain⟨o',es',ep',ho',r'⟩:=hm
  rw[ho]at ho';cases ho'
  exact⟨_,es',ep',hL,r'⟩) hok hg
theorem Inv.turned{t':Nat}{it:Addr}(I:Inv X pins σ H s)(k:∀b o,b≠it→s.heap.get? b=some o→h'.get? b=some o)(hn:H it=none)(hL:it≠X.env.locals)
  (h1:it∈X.ex∨X.s₀.heap.objs.size≤it) (h2:∀x c,X.env.cells.lookup x=some c→c≠it) (h3:∀p∈X.pn++pins,p.1≠it):Inv X pins σ H {s with heap:=h',toks:=t'}:=by
 have nit:∀b u,H b=some u→b≠it:=λb u e z=>by rw[z,hn]at e;cases e
 refine I.step (g':=s.gens) (d':=s.drawn) (ch:=[it]) (λb hb=>?_) (λb o _ _ hc e _=>k b o (λz=>hc (by simp[z])) e) (λb o _ _ hc e _=>⟨o.slots,k b o (λz=>hc (by simp[z])) e⟩) (λ_ _ _ _ n=>n)
  (λb o hc e=>⟨o,k b o (λz=>hc (by simp[z])) e⟩) (λ_ _ e=>e) (λ_ _ _ e=>e) (λb ps e=>⟨#[],by rw[e];simp⟩) (λm hm=>?_) (λb u e=>?_) I.bare
 ·have e:b=it:=by simpa using hb
  subst e
  exact⟨h1,hL,h2,h3⟩
 ·obtain⟨o,es,ep,ho,r⟩:=hm
  exact⟨o,es,ep,k _ o (Ne.symm hL) ho,r⟩
 ·refine(I.hok b u e).stay (λc v hc q=>k c v ?_ q) (λ_ q=>q) (λ_ _ q=>q) λ_ _ _ q=>q
  rcases hc with z | z
  ·rw[z];exact nit b u e
  ·exact nit c _ z
theorem Inv.tok(I:Inv X pins σ H s)(t:Nat):Inv X pins σ H {s with toks:=t}:=I.un (h':=s.heap) (t':=t) Un.refl I.hok
theorem Inv.kept{t':Nat}(I:Inv X pins σ H s)(k:∀b u,s.heap.get? b=some u→h'.get? b=some u):Inv X pins σ H {s with heap:=h',toks:=t'}:=I.un (Un.kept k) (I.hok.kept k)
theorem Inv.laid{a:Addr}{o:HO}{t':Nat}(I:Inv X pins σ H s)(k:∀b u,s.heap.get? b=some u→h'.get? b=some u)(hp:s.heap.objs.size≤a)(new:cI X.prog X.w (upd H a o) h' a o) :
  Inv X pins σ (upd H a o) {s with heap:=h',toks:=t'}:=I.un (Un.laid k hp (I.hok.fresh hp)) (I.hok.laid k hp new)
theorem Inv.write{x e:Addr}{o:HO}{t':Nat}(I:Inv X pins σ H s)(mu:KQ (H x))(he:e=x∨H e=some (.own x))(k:∀b u,b≠e→s.heap.get? b=some u→h'.get? b=some u)(heo:∃u,h'.get? e=some u)
  (new:cI X.prog X.w (upd H x o) h' x o):Inv X pins σ (upd H x o) {s with heap:=h',toks:=t'}:=I.un (Un.write mu he k heo) (I.hok.write mu he k heo new)
theorem Inv.weak{σ':List (Option V)}(I:Inv X pins σ H s)(hl:σ'.length=σ.length)(w:∀(i:Nat) v,σ'[i]?=some (some v)→σ[i]?=some (some v)):Inv X pins σ' H s:=
 ⟨I.ok,I.os,I.bare,I.base,let ⟨m,hn,hl'⟩:=I.loc;⟨m,hn,λi x v e1 e2 e3=>hl' i x v e1 (w i v e2) e3⟩,I.cell,I.free,I.nY,I.pin,I.hok,hl.trans I.len⟩
theorem Inv.Rf{Xp:List (Addr×Obj)}(I:Inv X pins σ H s)(h:∀p∈Xp,s.heap.get? p.1=some p.2∧H p.1=none∧p.1≠X.env.locals∧p.1∉X.fs∧∀v,p.2.data≠.cell v):Inv X Xp σ H s:=
 ⟨I.ok,I.os,I.bare,I.base,I.loc,I.cell,I.free,I.nY,λp hp=>(D9.mp hp).elim (λz=>I.pin p (F2 _ z)) (h p),I.hok,I.len⟩
theorem Jd{N:List Str}(hN:N.Nodup){i j:Nat}{x:Str}(a:N[i]?=some x)(b:N[j]?=some x):i=j:=by
 obtain⟨h1,e1⟩:=B8.mp a
 obtain⟨h2,e2⟩:=B8.mp b
 exact(List.getElem_inj hN).mp (e1.trans e2.symm)
theorem Dj{M:Model}{A:Around}{E:Value→Shared→Prop}{i:Nat}{x:Str}{v:V}{u:Value}{Q:Unit→Shared→Prop}(I:Inv X pins σ H s)(hN:X.N.Nodup)(hi:X.N[i]?=some x)(hx:Loc X.env.scope x)(r:RelV v u)
  (h:∀s',Inv X pins (σ.set i (some v)) H s'→(∃a,Heap.SameBut a s.heap s'.heap∧(a=X.env.locals∨X.env.cells.lookup x=some a))→Q () s') (hf:X.fn x=true∨X.env.scope.names.lookup x=some .local:=by first | exact .inl rfl | exact .inr rfl | assumption):wpAny M A (storeName X.env x u) Q E s:=by
 obtain⟨m,hn,hl⟩:=id I.loc
 have hcls:(X.env.scope.kind==.class||(X.env.scope.kind==.module&&X.env.locals != X.env.globals))=false:=by rw[I.ok.kind];rfl
 have hiσ:i<σ.length:=by rw[I.len];exact(B8.mp hi).1
 have JX:=I.JX
 have tracked:∀{a:Addr} {h':Heap},(∃o,s.heap.get? a=some o∧H a=none)→Heap.SameBut a s.heap h'→tD X.prog X.w H h':=λ{a h'} ha hs b ob e=>by
  obtain⟨_,_,hfree⟩:=ha
  refine(I.hok b ob e).stay (λc w' hc q=>(hs.2 c ?_).trans q) (λ_ q=>q) (λ_ _ q=>q) λ_ _ _ q=>q
  rintro rfl
  rcases hc with rfl | hc
  ·rw[hfree]at e;cases e
  ·rw[hfree]at hc;cases hc
 rcases hx with hk | hk
 ·refine wpAny_storeName_local hk hn (λh' hn' hs=>?_) hcls
  obtain⟨oL,_,_,hoL,_⟩:=id hn
  refine h _ ⟨I.ok,I.os,I.bare,⟨λb o e n hb hx=>?_,λb o e n hb hx=>?_,I.base.free,λb o e hx=>?_,I.base.tups,I.base.Ff,I.base.Cg⟩,⟨_,hn',λj y v' e1 e2 e3=>?_⟩,λy c e=>?_,I.free,I.nY,λp hp=>?_,tracked ⟨oL,hoL,I.free⟩ hs,by simpa using I.len⟩ ⟨_,hs,.inl rfl⟩
  ·exact(hs.2 b (C9 (D1 (Heap.lt_size e) I.ok.above))).trans (I.base.keep b o e n hb hx)
  ·obtain⟨sl,e1⟩:=I.base.slot b o e n hb hx
   exact⟨sl,(hs.2 b (C9 (D1 (Heap.lt_size e) I.ok.above))).trans e1⟩
  ·obtain⟨o',e1⟩:=I.base.there b o e hx
   exact⟨o',(hs.2 b (C9 (D1 (Heap.lt_size e) I.ok.above))).trans e1⟩
  ·by_cases hj:j=i
   ·subst hj
    rw[hi]at e1;cases e1
    rw[U8 hiσ]at e2
    cases e2
    exact⟨u,r,.inl ⟨hk,by simp⟩⟩
   ·rw[V8 (Ne.symm hj)]at e2
    obtain⟨u',r',q⟩:=hl j y v' e1 e2 e3
    refine⟨u',r',?_⟩
    rcases q with ⟨k,e⟩ | ⟨k,c,e,z⟩
    ·refine .inl ⟨k,?_⟩
     have:y≠x:=λe=>hj (Jd hN e1 (e▸hi))
     simp[this,e]
    ·exact .inr ⟨k,c,e,z.sameBut hs (JX y c e)⟩
  ·obtain⟨w',z⟩:=I.cell y c e
   exact⟨w',z.sameBut hs (JX y c e)⟩
  ·obtain⟨e,n,ne,nf,d⟩:=I.pin p hp
   exact⟨(hs.2 p.1 ne).trans e,n,ne,nf,d⟩
 ·have hfn:X.fn x=true:=by
   rcases hf with z | z
   ·exact z
   ·rw[z]at hk;cases hk
  obtain⟨c,hc⟩:=I.ok.has x (.inl hk)
  obtain⟨w',z⟩:=I.cell x c hc
  refine wpAny_storeName_cell I.ok.kind hk hc z (λh' hc' hs=>?_)
  obtain⟨oc,hoc,aBg⟩:=id z
  refine h {s with heap:=h'} ⟨I.ok,I.os,I.bare,⟨λb o e n hb hx=>?_,λb o e n hb hx=>?_,I.base.free,λb o e hx=>?_,I.base.tups,I.base.Ff,I.base.Cg⟩,⟨m,hn.sameBut hs (Ne.symm (JX x c hc)),λj y v' e1 e2 e3=>?_⟩,λy c' e=>?_,I.free,I.nY,λp hp=>?_,tracked ⟨oc,hoc,I.nY x c hc⟩ hs,by simpa using I.len⟩ ⟨c,hs,.inr hc⟩
  ·exact(hs.2 b (C9 (D1 (Heap.lt_size e) (I.ok.cab x c hfn hc)))).trans (I.base.keep b o e n hb hx)
  ·obtain⟨sl,e1⟩:=I.base.slot b o e n hb hx
   exact⟨sl,(hs.2 b (C9 (D1 (Heap.lt_size e) (I.ok.cab x c hfn hc)))).trans e1⟩
  ·obtain⟨o',e1⟩:=I.base.there b o e hx
   exact⟨o',(hs.2 b (C9 (D1 (Heap.lt_size e) (I.ok.cab x c hfn hc)))).trans e1⟩
  ·by_cases hj:j=i
   ·subst hj
    rw[hi]at e1;cases e1
    rw[U8 hiσ]at e2
    cases e2
    exact⟨u,r,.inr ⟨.inl hk,c,hc,hc'⟩⟩
   ·rw[V8 (Ne.symm hj)]at e2
    obtain⟨u',r',q⟩:=hl j y v' e1 e2 e3
    refine⟨u',r',?_⟩
    rcases q with q | ⟨k,c',e,z'⟩
    ·exact .inl q
    ·refine .inr ⟨k,c',e,z'.sameBut hs ?_⟩
     rintro rfl
     exact hj (Jd hN e1 (I.ok.inj _ _ _ e hc▸hi))
  ·by_cases hcc:c'=c
   ·subst hcc;exact⟨_,hc'⟩
   ·obtain⟨w2,z2⟩:=I.cell y c' e
    exact⟨w2,z2.sameBut hs hcc⟩
  ·obtain⟨e,n,ne,nf,d⟩:=I.pin p hp
   refine⟨(hs.2 p.1 ?_).trans e,n,ne,nf,d⟩
   intro q
   rw[q,hoc]at e
   have q':oc=p.2:=F5 e
   exact d w' (by rw[←q'];exact aBg)
theorem Je{M:Model}{A:Around}{E:Value→Shared→Prop}{i:Nat}{x:Str}{v:V}{u:Value}{Q:Unit→Shared→Prop}(I:Inv X pins σ H s)(hN:X.N.Nodup)(hi:X.N[i]?=some x)(hx:Loc X.env.scope x)(r:RelV v u)
  (h:∀s',Inv X pins (σ.set i (some v)) H s'→Q () s') (hf:X.fn x=true∨X.env.scope.names.lookup x=some .local:=by first | exact .inl rfl | exact .inr rfl | assumption):wpAny M A (storeName X.env x u) Q E s:=
 Dj I hN hi hx r (λs' I' _=>h s' I') hf
theorem Inv.call'{s':Shared}{ch:List Addr}(I:Inv X pins σ H s)(ho:s'.os=s.os)(u:Un (frs X.stack) ch H H' s.heap s'.heap)(hok:tD X.prog X.w H' s'.heap)(hg:AllBare s'.gens)
  (hch:∀b∈ch,(b∈X.ex∨X.s₀.heap.objs.size≤b)∧b≠X.env.locals∧(∀x c,X.env.cells.lookup x=some c→c≠b)∧∀p∈X.pn++pins,p.1≠b):Inv X pins σ H' s':=by
 obtain⟨h',g',d',t',o'⟩:=s'
 have e:o'=s.os:=ho
 subst e
 exact I.call (g':=g') (t':=t') (d':=d') u hok hg hch
end
abbrev XK:=Value→Option Addr→Hp→Prop
abbrev St:=List (Option V)
abbrev VK:=V→Hp→Prop
abbrev TE:=St→Hp→VK→Prop
abbrev TT:=St→Hp→(Bool→Hp→Prop)→Prop
abbrev TA:=St→Hp→(List V→Hp→Prop)→Prop
structure Ends where
 nx:St→Hp→Prop
 rt:VK
 bk:St→Hp→Prop:=λ_ _=>False
 ct:St→Hp→Prop:=λ_ _=>False
abbrev TS:=Ends→St→Hp→Prop
def EP(X:Cx)(pins:List (Addr×Obj))(σ:St)(Q:VK)(u:Value)(s':Shared):Prop:=∃v H',Inv X pins σ H' s'∧RelV v u∧Q v H'
def TP(X:Cx)(pins:List (Addr×Obj))(σ:St)(Q:Bool→Hp→Prop)(b:Bool)(s':Shared):Prop:=∃H',Inv X pins σ H' s'∧Q b H'
def AP(X:Cx)(pins:List (Addr×Obj))(σ:St)(Q:List V→Hp→Prop)(us:List Value)(s':Shared):Prop:=∃vs H',Inv X pins σ H' s'∧Vals vs us∧Q vs H'
def SP(X:Cx)(pins:List (Addr×Obj))(D:Ends)(f:Flow)(s':Shared):Prop:=
 match f with
 | .next=>∃σ' H',Inv X pins σ' H' s'∧D.nx σ' H'
 | .brk=>∃σ' H',Inv X pins σ' H' s'∧D.bk σ' H'
 | .cont=>∃σ' H',Inv X pins σ' H' s'∧D.ct σ' H'
 | .ret u=>∃v σ' H',Inv X pins σ' H' s'∧RelV v u∧D.rt v H'
def PE(X:Cx)(e:Expr)(t:TE):Prop:=
 ∀(pins:List (Addr×Obj))(s:Shared)(σ:St)(H:Hp)(Q:VK),Inv X pins σ H s→t σ H Q→wpAny (model X.prog X.w) X.A (eval e X.env) (EP X pins σ Q) X.xe s
def PT(X:Cx)(e:Expr)(t:TT):Prop:=
 ∀(pins:List (Addr×Obj))(s:Shared)(σ:St)(H:Hp)(Q:Bool→Hp→Prop),Inv X pins σ H s→t σ H Q→wpAny (model X.prog X.w) X.A (isTrue e X.env (eval e X.env)) (TP X pins σ Q) X.xe s
def PW(X:Cx)(e:Expr)(t:TT):Prop:=
 ∀(whole:Sem Value)(pins:List (Addr×Obj))(s:Shared)(σ:St)(H:Hp)(Q:Bool→Hp→Prop),Inv X pins σ H s→t σ H Q→wpAny (model X.prog X.w) X.A (isTrue e X.env whole) (TP X pins σ Q) X.xe s
theorem PW.pt{X:Cx}{e:Expr}{t:TT}(h:PW X e t):PT X e t:=h _
def PA(X:Cx)(es:List Expr)(t:TA):Prop:=
 ∀(pos:Pos)(pins:List (Addr×Obj))(s:Shared)(σ:St)(H:Hp)(Q:List V→Hp→Prop),Inv X pins σ H s→t σ H Q→wpAny (model X.prog X.w) X.A (spliced (backTo pos (starEach es X.env))) (AP X pins σ Q) X.xe s
def PS(X:Cx)(st:Stmt)(t:TS):Prop:=
 ∀(pins:List (Addr×Obj))(s:Shared)(σ:St)(H:Hp)(D:Ends),Inv X pins σ H s→t D σ H→wpAny (model X.prog X.w) X.A (exec st X.env) (SP X pins D) X.xe s
def Iw(X:Cx)(st:List Stmt)(t:TS):Prop:=
 ∀(pins:List (Addr×Obj))(s:Shared)(σ:St)(H:Hp)(D:Ends),Inv X pins σ H s→t D σ H→wpAny (model X.prog X.w) X.A (execs st X.env) (SP X pins D) X.xe s
theorem eE{α:Type}{t:Sem α}{Q Q':α→Shared→Prop}{M:Model}{A:Around}{E:Value→Shared→Prop}{s:Shared}(h:wpAny M A t Q E s)(hQ:∀a s,Q a s→Q' a s):wpAny M A t Q' E s:=wpAny_mono h hQ λ_ _ x=>x
end L2
namespace L2
open PySem PySem.Spec PyProof.Rows
section
variable{X:Cx}
def sS(i:Nat):TE:=λσ H Q=>∃v,σ[i]?=some (some v)∧Q v H
def tC(v:V):TE:=λ_ H Q=>Q v H
theorem bc{i:Nat}{x:Str}{pos:Pos}(hN:X.N[i]?=some x)(hv:xu X.env.scope x)(hd:(x==("__debug__" : Str))=false:=by decide) (hcd:(x==("__classdict__" : Str))=false:=by decide):PE X (.Name x pos) (sS i):=by
  intro pins s σ H Q I h
  obtain⟨v,e,h⟩:=h
  obtain⟨m,hn,hl⟩:=I.loc
  obtain⟨u,r,l⟩:=hl i x v hN e hv
  have fin:EP X pins σ Q u s:=⟨v,H,I,r,h⟩
  rcases l with ⟨hk,hm⟩ | ⟨hk,c,hc,hcell⟩
  · exact wpAny_Name (wpAny_loadName_local I.ok.kind hk hn hm fin) hd
  · rcases hk with hk | hk
    · exact wpAny_Name (wpAny_loadName_cell I.ok.kind hk hc hcell fin) hd
    · exact wpAny_Name (wpAny_loadName_free I.ok.kind hk hc hcell fin hcd) hd
theorem bf{i j pos}:PE X (.Constant (.int i) j pos) (tC (.int i)):=λ_ _ _ H _ I h=>wpAny_Constant_int ⟨.int i,H,I.tok _,⟨_,rfl⟩,h⟩
theorem yc{b j pos}:PE X (.Constant (.bool b) j pos) (tC (.bl b)):=λ_ _ _ H _ I h=>Constant_bool ⟨.bl b,H,I,rfl,h⟩
def Gl(X:Cx)(x:Str):Prop:=X.env.kindOf x=some .globalImplicit
theorem Rg{E:Value→Shared→Prop}{pins:List (Addr×Obj)}{s:Shared}{σ:St}{H:Hp}{x:Str}{u:Value}{pos:Pos}{Q:Value→Shared→Prop}(I:Inv X pins σ H s)(hg:Gl X x)(hm:X.mg x=some u)(h:Q u s)
  (hd:(x==("__debug__" : Str))=false:=by decide):wpAny (model X.prog X.w) X.A (eval (.Name x pos) X.env) Q E s:=
 Calls.Name_function_global I.ok.kind hg (Calls.loadGlobal_global (by rw[I.ok.glob];exact I.mod.glob.keeps I.bk) hm h) hd
theorem jT{E:Value→Shared→Prop}{pins:List (Addr×Obj)}{s:Shared}{σ:St}{H:Hp}{x:Str}{u:Value}{pos:Pos}{Q:Value→Shared→Prop}(I:Inv X pins σ H s)(hg:Gl X x)(hm:X.mg x=none)(hv:bootBuiltins x=some u)(h:Q u s)
  (hn:x ≠ "__name__" := by decide) (hd:(x==("__debug__" : Str))=false:=by decide):wpAny (model X.prog X.w) X.A (eval (.Name x pos) X.env) Q E s:=by
 obtain⟨mb,h1,h2⟩:=I.mod.blt
 exact Calls.Name_function_global I.ok.kind hg (Calls.loadGlobal_builtin (by rw[I.ok.glob];exact I.mod.glob.keeps I.bk) hm (by rw[I.ok.blt];exact h1.keeps I.bk) ((h2 x hn).trans hv) h) hd
theorem LK{x:Str}{v:V}{u:Value}{pos:Pos}(hg:Gl X x)(hm:X.mg x=some u)(r:RelV v u)(hd:(x==("__debug__" : Str))=false:=by decide):PE X (.Name x pos) (tC v):=
 λ_ _ _ H _ I h=>Rg I hg hm ⟨v,H,I,r,h⟩ hd
theorem Fo{x:Str}{v:V}{u:Value}{pos:Pos}(hg:Gl X x)(hm:X.mg x=none)(hv:bootBuiltins x=some u)(r:RelV v u)(hn:x ≠ "__name__" := by decide) (hd:(x==("__debug__" : Str))=false:=by decide):PE X (.Name x pos) (tC v):=
 λ_ _ _ H _ I h=>jT I hg hm hv ⟨v,H,I,r,h⟩ hn hd
variable{a b:Expr}{ta tb:TE}{pos:Pos}
def PC(X:Cx)(op:CmpOp)(a b:Expr)(t:TE):Prop:=
 ∀(pins:List (Addr×Obj))(s:Shared)(σ:St)(H:Hp)(Q:VK),Inv X pins σ H s→t σ H Q →
  wpAny (model X.prog X.w) X.A (eval a X.env) (λv s₁=>wpAny (model X.prog X.w) X.A (eval b X.env) (λu s₂=>wpAny (model X.prog X.w) X.A (compareOp op v u) (EP X pins σ Q) X.xe s₂) X.xe s₁) X.xe s
def tB(t:TE):TT:=λσ H Q=>t σ H λx H1=>∃c,x=.bl c∧Q c H1
theorem Xq{op:CmpOp}{t:TE}(h:PC X op a b t)(h1:behindInMarks op b=false:=by first | exact nobehind _ (by decide) (by decide) | rfl):PE X (.Compare a [op] [b] pos) t:=λpins s σ H Q I hw=>wpAny_Compare1 (h pins s σ H Q I hw) h1
theorem bh{op:CmpOp}{t:TE}(h:PC X op a b t)(h1:behindInMarks op b=false:=by first | exact nobehind _ (by decide) (by decide) | rfl):PT X (.Compare a [op] [b] pos) (tB t):=by
 intro pins s σ H Q I hw
 refine wpAny_isTrue_Compare1 (eE (h pins s σ H _ I hw) λv s1 h1=>eE h1 λu s2 h2=>eE h2 λc s3 ⟨x,H1,I1,r1,q1⟩=>?_) h1
 obtain⟨d,rfl,q⟩:=q1
 cases r1
 exact wpAny_truthy_bool ⟨H1,I1,q⟩
theorem bj{e:Expr}{t:TE}(h:PE X e t)(he:∀whole,isTrue e X.env whole=(do let v ←whole;standAt e.pos;holding [v] (truthy v)):=by intro _;rfl):PT X e (tB t):=by
 intro pins s σ H Q I hw
 refine isTrue_plain (eE (h pins s σ H _ I hw) λv s1 ⟨x,H1,I1,r1,q1⟩=>?_) (he _)
 obtain⟨d,rfl,q⟩:=q1
 cases r1
 exact wpAny_truthy_bool ⟨H1,I1,q⟩
variable{tA tB':TT}{rest:List Expr}
def bu(t u:TT):TT:=λσ H Q=>t σ H λc H1=>if c=true then u σ H1 Q else Q false H1
def tOr(t u:TT):TT:=λσ H Q=>t σ H λc H1=>if c=true then Q true H1 else u σ H1 Q
def bw(t:TT):TT:=λσ H Q=>t σ H λc H1=>Q (!c) H1
theorem LQ(ha:PT X a tA):PW X (.BoolOp .And [a] pos) tA:=by
 intro wh pins s σ H Q I h
 refine isTrue_and (eE (ha pins s σ H Q I h) λc s1 e=>?_)
 cases c with
 | true=>exact isTrue_and_nil e
 | false=>exact e
theorem cg(ha:PT X a tA):PW X (.BoolOp .Or [a] pos) tA:=by
 intro wh pins s σ H Q I h
 refine isTrue_or (eE (ha pins s σ H Q I h) λc s1 e=>?_)
 cases c with
 | false=>exact isTrue_or_nil e
 | true=>exact e
theorem cj(ha:PT X a tA)(hb:PW X (.BoolOp .And (b::rest) pos) tB'):PW X (.BoolOp .And (a::b::rest) pos) (bu tA tB'):=by
 intro wh pins s σ H Q I h
 refine isTrue_and (eE (ha pins s σ H _ I h) λc s1 ⟨H1,I1,q1⟩=>?_)
 cases c with
 | true=>exact hb wh pins s1 σ H1 Q I1 q1
 | false=>exact⟨H1,I1,q1⟩
theorem ye(ha:PT X a tA)(hb:PW X (.BoolOp .Or (b::rest) pos) tB'):PW X (.BoolOp .Or (a::b::rest) pos) (tOr tA tB'):=by
 intro wh pins s σ H Q I h
 refine isTrue_or (eE (ha pins s σ H _ I h) λc s1 ⟨H1,I1,q1⟩=>?_)
 cases c with
 | true=>exact⟨H1,I1,q1⟩
 | false=>exact hb wh pins s1 σ H1 Q I1 q1
theorem cu(ha:PT X a tA):PT X (.UnaryOp .Not a pos) (bw tA):=by
 intro pins s σ H Q I h
 exact isTrue_not (ha pins s σ H (λc H1=>Q (!c) H1) I h)
def WX(ta tb:TE):TE:=λσ H Q=>ta σ H λx H1=>∃c,x=.bl c∧if c=true then tb σ H1 Q else Q (.bl false) H1
def WY(ta:TE):TE:=λσ H Q=>ta σ H λx H1=>∃c,x=.bl c∧Q (.bl (!c)) H1
theorem cz{op}{t:TE}(h:PE X a t):PE X (.BoolOp op [a] pos) t:=λpins s σ H Q I hw=>BoolOp_one (h pins s σ H Q I hw)
theorem dg(ha:PE X a ta)(hb:PE X (.BoolOp .And (b::rest) pos) tb):PE X (.BoolOp .And (a::b::rest) pos) (WX ta tb):=by
 intro pins s σ H Q I h
 refine BoolOp_and (eE (ha pins s σ H _ I h) λv s1 ⟨x,H1,I1,r1,q1⟩=>?_)
 obtain⟨c,rfl,q1⟩:=q1
 cases r1
 refine wpAny_truthy_bool ?_
 cases c with
 | true=>exact hb pins s1 σ H1 Q I1 q1
 | false=>exact⟨.bl false,H1,I1,rfl,q1⟩
theorem dh(ha:PE X a ta):PE X (.UnaryOp .Not a pos) (WY ta):=by
 intro pins s σ H Q I h
 refine UnaryOp_ (eE (ha pins s σ H _ I h) λv s1 ⟨x,H1,I1,r1,q1⟩=>?_)
 obtain⟨c,rfl,q1⟩:=q1
 cases r1
 exact not_of (wpAny_truthy_bool ⟨.bl (!c),H1,I1,rfl,q1⟩)
end
end L2
namespace L2
open PySem PySem.Spec PyProof.Rows
def lH(K:aA)(H:Hp)(a:Addr)(xs:List V):Prop:=
 Rd H a (.lst xs) ∨
  ∃(o:Obj)(its:Array Value)(n:Nat),K.lookup a=some o∧o.cls=.type "list" ∧ o.dict=none∧o.data=.seq its n∧its.size≤sizeLine∧Vals xs its.toList
def mO(K:aA)(H:Hp)(a:Addr)(xs:List V):Prop:=
 Rd H a (.tup xs) ∨
  ∃(o:Obj)(its:Array Value)(n:Nat),K.lookup a=some o∧o.cls=.type "tuple" ∧ o.data=.seq its n∧its.size≤sizeLine∧Vals xs its.toList
def aBi:Value→Option V
 | .none=>some .non
 | .bool b=>some (.bl b)
 | .int i _=>some (.int i)
 | .str x _=>some (.str x)
 | .bytes b _=>some (.byt b)
 | .float b _=>some (.flt b)
 | .ref a=>some (.ref a)
 | .type n=>some (.ty n)
 | _=>none
theorem RelV.abs{x:V}{u:Value}(r:RelV x u):aBi u=some x:=by
 cases x with
 | non=>cases r;rfl
 | bl _=>cases r;rfl
 | int _=>obtain⟨t,rfl⟩:=r;rfl
 | str _=>obtain⟨t,rfl⟩:=r;rfl
 | byt _=>obtain⟨t,rfl⟩:=r;rfl
 | flt _=>obtain⟨t,rfl⟩:=r;rfl
 | ref _=>cases r;rfl
 | ty _=>cases r;rfl
theorem RelV.inj{x y:V}{u:Value}(r:RelV x u)(q:RelV y u):x=y:=F5 (r.abs.symm.trans q.abs)
theorem Vals.inj:∀{xs ys:List V} {us:List Value},Vals xs us→Vals ys us→xs=ys
 | _,_,_,.nil,.nil=>rfl
 | _,_,_,.cons r t,.cons r' t'=>by rw[r.inj r',Vals.inj t t']
section
variable{X:Cx}{pins:List (Addr×Obj)}{σ:St}{H:Hp}{s:Shared}{a:Addr}{xs ys:List V}
theorem lH.of{K:aA}(h:H a=some (.lst xs)):lH K H a xs:=.inl (.inl h)
theorem mO.of{K:aA}(h:H a=some (.tup xs)):mO K H a xs:=.inl (.inl h)
theorem Inv.list(I:Inv X pins σ H s)(h:lH X.K H a xs):∃its:List Value,Vals xs its∧PlainL s.heap a its.toArray∧xs.length≤sizeLine:=by
 rcases h with h | ⟨o,its,n,hk,hc,hd,hs,hz,r⟩
 ·obtain⟨z,its,n,r,e⟩:=h.ok I.hok
  exact⟨its,r,⟨_,n,e,rfl,rfl,rfl⟩,z⟩
 ·refine⟨its.toList,r,⟨o,n,I.Di a o hk,hc,hd,by simpa using hs⟩,?_⟩
  have e:=r.length
  simp only[F1]at e
  omega
theorem Inv.tuple(I:Inv X pins σ H s)(h:mO X.K H a xs):∃its:List Value,Vals xs its∧IsTup s.heap a its.toArray∧xs.length≤sizeLine:=by
 rcases h with h | ⟨o,its,n,hk,hc,hs,hz,r⟩
 ·obtain⟨z,its,r,p⟩:=h.ok I.hok
  exact⟨its,r,p,z⟩
 ·refine⟨its.toList,r,⟨o,I.Di a o hk,hc,n,by simpa using hs⟩,?_⟩
  have e:=r.length
  simp only[F1]at e
  omega
theorem Inv.Jf(I:Inv X pins σ H s)(h:lH X.K H a xs)(h':lH X.K H a ys):xs=ys:=by
 obtain⟨its,r,⟨o,n,e,_,_,d⟩,_⟩:=I.list h
 obtain⟨its',r',⟨o',n',e',_,_,d'⟩,_⟩:=I.list h'
 rw[e]at e';cases e'
 rw[d]at d'
 injection d' with d1 _
 have:its=its':=by simpa using congrArg e8 d1
 subst this
 exact r.inj r'
theorem Inv.Dk(I:Inv X pins σ H s)(h:mO X.K H a xs)(h':mO X.K H a ys):xs=ys:=by
 obtain⟨its,r,⟨o,e,_,n,d⟩,_⟩:=I.tuple h
 obtain⟨its',r',⟨o',e',_,n',d'⟩,_⟩:=I.tuple h'
 rw[e]at e';cases e'
 rw[d]at d'
 injection d' with d1 _
 have:its=its':=by simpa using congrArg e8 d1
 subst this
 exact r.inj r'
end
abbrev Cx.wish(X:Cx)(E:Value→Shared→Prop):Cx:={X with xe:=E}
abbrev Cx.JZ(X:Cx):Cx:=X.wish λ_ _=>False
theorem Cx.Ok.wish{X:Cx}(ok:X.Ok)(E:Value→Shared→Prop):(X.wish E).Ok:=
 ⟨ok.mod,ok.kind,ok.glob,ok.blt,ok.above,ok.inj,ok.has,ok.cab,ok.hd,ok.frames,ok.stk,ok.exf,ok.bs,ok.KZ,ok.Xo,ok.LC,ok.yS,ok.vp,ok.tab⟩
theorem Cx.Ok.qH{X:Cx}{E:Value→Shared→Prop}(ok:(X.wish E).Ok):X.Ok:=
 ⟨ok.mod,ok.kind,ok.glob,ok.blt,ok.above,ok.inj,ok.has,ok.cab,ok.hd,ok.frames,ok.stk,ok.exf,ok.bs,ok.KZ,ok.Xo,ok.LC,ok.yS,ok.vp,ok.tab⟩
section
variable{X:Cx}{pins:List (Addr×Obj)}{σ:St}{H:Hp}{s:Shared}{E:Value→Shared→Prop}
theorem Inv.wish(I:Inv X pins σ H s)(E:Value→Shared→Prop):Inv (X.wish E) pins σ H s:=⟨I.ok.wish E,I.os,I.bare,I.base,I.loc,I.cell,I.free,I.nY,I.pin,I.hok,I.len⟩
theorem Inv.qH(I:Inv (X.wish E) pins σ H s):Inv X pins σ H s:=⟨I.ok.qH,I.os,I.bare,I.base,I.loc,I.cell,I.free,I.nY,I.pin,I.hok,I.len⟩
theorem SP.qH{D:Ends}{f:Flow}{s':Shared}(h:SP (X.wish E) pins D f s'):SP X pins D f s':=by
 cases f with
 | next=>obtain⟨σ',H',I,q⟩:=h;exact⟨σ',H',I.qH,q⟩
 | brk=>obtain⟨σ',H',I,q⟩:=h;exact⟨σ',H',I.qH,q⟩
 | cont=>obtain⟨σ',H',I,q⟩:=h;exact⟨σ',H',I.qH,q⟩
 | ret u=>obtain⟨v,σ',H',I,r,q⟩:=h;exact⟨v,σ',H',I.qH,r,q⟩
theorem Iw.JZ{st:List Stmt}{t:TS}(h:Iw X.JZ st t):Iw X st t:=λpins s σ H D I hw=>
 wpAny_mono (h pins s σ H D (I.wish _) hw) (λ_ _ q=>q.qH) λ_ _ z=>False.elim z
end
section
variable{X:Cx}{st:Stmt}{rest:List Stmt}{t u:TS}{e:Expr}{te:TE}{pos:Pos}
def XC:TS:=λD σ H=>D.nx σ H
def di(t u:TS):TS:=λD σ H=>t {D with nx:=u D} σ H
theorem LR:Iw X [] XC:=λ_ _ σ H _ I h=>wpAny_execs_nil ⟨σ,H,I,h⟩
theorem Xr(h1:PS X st t)(h2:Iw X rest u):Iw X (st::rest) (di t u):=by
 intro pins s σ H D I h
 refine wpAny_execs_cons (eE (h1 pins s σ H {D with nx:=u D} I h) λf s1 q=>?_)
 cases f with
 | next=>
  obtain⟨σ',H',I',q⟩:=q
  exact h2 pins s1 σ' H' D I' q
 | ret v=>exact q
 | brk=>exact q
 | cont=>exact q
theorem MF(h1:PS X st t):Iw X [st] t:=by
 intro pins s σ H D I h
 refine wpAny_execs_cons (eE (h1 pins s σ H D I h) λf s1 q=>?_)
 cases f with
 | next=>exact wpAny_execs_nil q
 | ret v=>exact q
 | brk=>exact q
 | cont=>exact q
theorem Inv.quiet{pins:List (Addr×Obj)}{σ:St}{H:Hp}{s:Shared}(I:Inv X pins σ H s):interactive X.env=false:=by simp[interactive,I.ok.kind]
def Rh(te:TE):TS:=λD σ H=>te σ H λ_ H1=>D.nx σ H1
theorem mQ(he:PE X e te)(hs:swapsWith e none pos.line X.env=pure false:=by rfl):PS X (.Expr e pos) (Rh te):=by
 intro pins s σ H D I h
 exact wpAny_Expr_any (eE (he pins s σ H _ I h) λv s1 ⟨x,H1,I1,r1,q1⟩=>⟨σ,H1,I1,q1⟩) I.quiet hs
def dm(te:TE):TS:=λD σ H=>te σ H D.rt
theorem Xu(he:PE X e te):PS X (.Return (some e) pos) (dm te):=by
 intro pins s σ H D I h
 exact wpAny_Return_some (eE (he pins s σ H _ I h) λv s1 ⟨x,H1,I1,r1,q1⟩=>⟨x,σ,H1,I1,r1,q1⟩)
def yf(c:TT)(t u:TS):TS:=λD σ H=>c σ H λb H1=>if b=true then t D σ H1 else u D σ H1
theorem yg{c:Expr}{a b:List Stmt}{tc:TT}(hc:PT X c tc)(ha:Iw X a t)(hb:Iw X b u):PS X (.If c a b pos) (yf tc t u):=by
 intro pins s σ H D I h
 refine wpAny_If (eE (hc pins s σ H _ I h) λd s1 ⟨H1,I1,q1⟩=>?_)
 cases d with
 | true=>exact ha pins s1 σ H1 D I1 q1
 | false=>exact hb pins s1 σ H1 D I1 q1
end
abbrev TG:=V→St→Hp→(St→Hp→Prop)→Prop
def PG(X:Cx)(target:Expr)(t:TG):Prop:=
 ∀(pins:List (Addr×Obj))(s:Shared)(σ:St)(H:Hp)(v:V)(u:Value)(Q:St→Hp→Prop),Inv X pins σ H s→RelV v u→t v σ H Q →
  wpAny (model X.prog X.w) X.A (assign target X.env u) (λ_ s'=>∃σ' H',Inv X pins σ' H' s'∧Q σ' H') X.xe s
section
variable{X:Cx}{pos:Pos}
def dI(i:Nat):TG:=λv σ H Q=>Q (σ.set i (some v)) H
theorem cG{i:Nat}{x:Str}(hN:X.N.Nodup)(hi:X.N[i]?=some x)(hx:Loc X.env.scope x)(hf:X.fn x=true∨X.env.scope.names.lookup x=some .local:=by first | exact .inl rfl | exact .inr rfl | assumption):PG X (.Name x pos) (dI i):=by
 intro pins s σ H v u Q I r h
 exact wpAny_assign_Name (Je I hN hi hx r (λs' I'=>⟨_,H,I',h⟩) hf)
def Fq(te:TE)(g:TG):TS:=λD σ H=>te σ H λx H1=>g x σ H1 D.nx
theorem aW{i:Nat}{x:Str}{e:Expr}{te:TE}{pos':Pos}(hN:X.N.Nodup)(hi:X.N[i]?=some x)(hx:Loc X.env.scope x)(he:PE X e te)(hs:swapsWith e (some (.Name x pos')) pos.line X.env=pure false:=by rfl)(hf:X.fn x=true∨X.env.scope.names.lookup x=some .local:=by first | exact .inl rfl | exact .inr rfl | assumption) :
  PS X (.Assign [.Name x pos'] e pos) (Fq te (dI i)):=by
 intro pins s σ H D I h
 refine wpAny_Assign_Name (eE (he pins s σ H _ I h) λv s1 ⟨y,H1,I1,r1,q1⟩=>?_) hs
 exact Je I1 hN hi hx r1 (λs2 I2=>⟨_,H1,I2,q1⟩) hf
end
section
variable{X:Cx}{pos:Pos}
def Ng(c:TT)(tb:TS):TS:=λD σ H=>∃W:Nat→St→Hp→Prop,(∃m,W m σ H)∧∀m σ H,W m σ H →
 c σ H λb H1=>if b=true then ∃N:St→Hp→Prop,(∀σ' H',N σ' H'→∃m',m'<m∧W m' σ' H')∧tb {D with nx:=N,ct:=N,bk:=D.nx} σ H1 else D.nx σ H1
theorem Xv{c:Expr}{body:List Stmt}{tc:TT}{tb:TS}(hp:PassesOwn (model X.prog X.w) X.A X.env X.xe)(hc:PT X c tc)(hb:Iw X body tb):PS X (.While c body [] pos) (Ng tc tb):=by
 intro pins s σ H D I h
 obtain⟨W,⟨m0,w0⟩,turn⟩:=h
 refine wpAny_While (codeAny_whileLoop (λn s'=>∃σ' H',Inv X pins σ' H' s'∧W n σ' H') ?_ m0 ⟨σ,H,I,w0⟩)
 rintro n s1 ⟨σ1,H1,I1,w1⟩
 refine wpAny_passesOwn hp (eE (hc pins s1 σ1 H1 _ I1 (turn n σ1 H1 w1)) λb s2 ⟨H2,I2,q2⟩=>?_)
 cases b with
 | true=>
  obtain⟨N,hN,q2⟩:=q2
  rw[if_pos rfl]
  refine wpAny_passesOwn hp (eE (hb pins s2 σ1 H2 _ I2 q2) λf s3 q3=>?_)
  cases f with
  | next=>
   obtain⟨σ3,H3,I3,n3⟩:=q3
   obtain⟨m',hm,w3⟩:=hN σ3 H3 n3
   exact⟨m',hm,σ3,H3,I3,w3⟩
  | cont=>
   obtain⟨σ3,H3,I3,n3⟩:=q3
   obtain⟨m',hm,w3⟩:=hN σ3 H3 n3
   exact⟨m',hm,σ3,H3,I3,w3⟩
  | brk=>exact q3
  | ret v=>exact q3
 | false=>
  rw[if_neg D5]
  exact wpAny_execs_nil ⟨σ1,H2,I2,q2⟩
end
structure It where
 go:Nat→Hp→Prop
 yh:Nat→Hp→V→Hp→Prop
 stop:Nat→Hp→Prop
def Ft(X:Cx)(pins:List (Addr×Obj))(H:Hp)(b:Addr):Prop:=
 H b=none∧b≠X.env.locals∧b∉X.fs∧(b∈X.ex∨X.s₀.heap.objs.size≤b)∧(∀x c,X.env.cells.lookup x=some c→c≠b)∧∀p∈X.pn++pins,p.1≠b
theorem Inv.MJ{X:Cx}{pins:List (Addr×Obj)}{σ:St}{H H':Hp}{s:Shared}{b:Addr}(I:Inv X pins σ H s)(hb:s.heap.objs.size≤b)(hn:H' b=none):Ft X pins H' b:=by
 refine⟨hn,L5 (D1 I.lt hb),I.aBf hb,.inr (E5 I.sz hb),λx c e z=>?_,λp hp z=>?_⟩
 ·obtain⟨v,q⟩:=I.cell x c e
  exact absurd (D1 q.lt (by rw[z];exact hb)) (J4 _)
 ·exact absurd (D1 (Heap.lt_size (I.pin p hp).1) (by rw[z];exact hb)) (J4 _)
structure Turn(P:Program)(w:World)(K:aA)(tg:Expr)(J:It)(fp:List Addr)(it:Addr)(tn:Nat→Heap→Prop):Prop where
 mem:it∈fp
 obj:∀i h,tn i h→∀b∈fp,∃o,h.get? b=some o∧∀v,o.data≠.cell v
 keep:∀i h h',tn i h→(∀b∈fp,∀o,h.get? b=some o→h'.get? b=some o)→tn i h'
 item:∀(X:Cx),X.prog=P→X.w=w→X.K=K→X.calm=true→∀(i:Nat)(pins:List (Addr×Obj))(s:Shared)(σ:St)(H:Hp)(E:Value→Shared→Prop),Inv X pins σ H s→(∀b∈fp,Ft X pins H b)→tn i s.heap→J.go i H →
  wpAny (model P w) X.A (pyNext (.ref it)) (λr s1=>∃u,r=some u ∧
   wpAny (model P w) X.A (letOwnedTupleGo tg (.ref it) u) (λ_ s2=>∃x H',Inv X pins σ H' s2∧RelV x u∧J.yh i H x H'∧tn (i+1) s2.heap∧∀b∈fp,H' b=none) E s1) E s
 done:∀(X:Cx),X.prog=P→X.w=w→X.K=K→X.calm=true→∀(i:Nat)(pins:List (Addr×Obj))(s:Shared)(σ:St)(H:Hp)(E:Value→Shared→Prop),Inv X pins σ H s→(∀b∈fp,Ft X pins H b)→tn i s.heap→J.stop i H →
  wpAny (model P w) X.A (pyNext (.ref it)) (λr s1=>r=none∧Inv X pins σ H s1) E s
 self:∀(A:Around)(i:Nat)(s:Shared)(Q:Value→Shared→Prop)(E:Value→Shared→Prop),tn i s.heap→Q (.ref it) s→wpAny (model P w) A (pyIter (.ref it)) Q E s
abbrev TI:=St→Hp→(It→Hp→Prop)→Prop
def PIE(X:Cx)(pins:List (Addr×Obj))(σ:St)(tg:Expr)(R:It→Hp→Prop)(itv:Value)(s2:Shared):Prop:=
 ∃(it:Addr)(fp:List Addr)(tn:Nat→Heap→Prop)(J:It)(H':Hp),itv=.ref it∧Inv X pins σ H' s2∧Turn X.prog X.w X.K tg J fp it tn∧tn 0 s2.heap∧(∀b∈fp,Ft X pins H' b)∧R J H'
def PI(X:Cx)(tg iter:Expr)(wi:TI):Prop:=
 ∀(pins:List (Addr×Obj))(s:Shared)(σ:St)(H:Hp)(R:It→Hp→Prop),Inv X pins σ H s→wi σ H R →
  wpAny (model X.prog X.w) X.A (eval iter X.env) (λv s1=>wpAny (model X.prog X.w) X.A (pyIter v) (PIE X pins σ tg R) X.xe s1) X.xe s
theorem Ri{M:Model}{A:Around}{E:Value→Shared→Prop}{s:Shared}{tg:Expr}{it:Addr}{u:Value}{o:Obj}{n:String}{vs:Array Value}{Q:Unit→Shared→Prop}(ho:s.heap.get? it=some o)(hc:o.cls=.type n)(hd:o.data=.fields vs)
    (hn:["enumerate", "zip", "dict_itemiterator", "dict_reverseitemiterator", "odict_iterator", "itertools.zip_longest", "itertools.pairwise"].contains n=false) (hQ:Q () s):wpAny M A (letOwnedTupleGo tg (.ref it) u) Q E s:=by
  unfold letOwnedTupleGo
  cases tg<;>first
    | exact wpAny_pure hQ
    | (cases u<;>first
        | exact wpAny_pure hQ
        | (refine wpAny_bind (wpAny_load ho ?_)
           rw[hc,hd]
           show wpAny M A (if(["enumerate", "zip", "dict_itemiterator", "dict_reverseitemiterator", "odict_iterator", "itertools.zip_longest", "itertools.pairwise"].contains n&&vs[0]?==some (rawInt _))=true then _ else _) Q E s
           rw[if_neg (by intro h;rw[hn,Bool.false_and]at h;cases h)]
           exact wpAny_pure hQ))
def Itl(K:aA)(a:Addr):It:=
 ⟨λi H=>∃xs x,lH K H a xs∧xs[i]?=some x,λi H x H'=>H'=H∧∀xs,lH K H a xs→xs[i]?=some x,λi H=>∃xs,lH K H a xs∧xs.length≤i⟩
def Itt(K:aA)(a:Addr):It:=
 ⟨λi H=>∃xs x,mO K H a xs∧xs[i]?=some x,λi H x H'=>H'=H∧∀xs,mO K H a xs→xs[i]?=some x,λi H=>∃xs,mO K H a xs∧xs.length≤i⟩
def yj(lo:Int)(n:Nat):It:=⟨λi _=>i<n,λi H x H'=>H'=H∧x=.int (lo+i),λi _=>n≤i⟩
theorem Uu{P:Program}{w:World}{K:aA}{tg:Expr}(a it:Addr):Turn P w K tg (Itl K a) [it] it (λi h=>h.IsListIter it a i) where
 mem:=by simp
 obj:=λi h st b hb=>by
  have e:b=it:=by simpa using hb
  subst e
  obtain⟨o,e,c,d⟩:=st
  exact⟨o,e,λv z=>by rw[d]at z;cases z⟩
 keep:=λi h h' st k=>st.at λo e=>k it (by simp) o e
 item:=by
  intro X hP hw hK hc i pins s σ H E I hf st hg
  subst hP hw hK
  obtain⟨xs,x,hq,hx⟩:=hg
  obtain⟨its,rv,p,hz⟩:=I.list hq
  obtain⟨u,hu,ru⟩:=rv.get hx
  obtain⟨f0,f1,f2,f3,f4,f5⟩:=hf it (by simp)
  refine wpAny_pyNext_list_item st p.isList (x:=u) (by simpa using hu) λh' st' sb=>?_
  have I1:Inv X pins σ H {s with heap:=h'}:=I.turned (t':=s.toks) (λb o hb e=>(sb.2 b hb).trans e) f0 f1 f3 f4 f5
  obtain⟨o,e,c,d⟩:=id st'
  exact⟨u,rfl,Ri (s:={s with heap:=h'}) e c d (by decide) ⟨x,H,I1,ru,⟨rfl,λys hy=>by rw[I.Jf hy hq];exact hx⟩,st',λb hb=>(hf b hb).1⟩⟩
 done:=by
  intro X hP hw hK hc i pins s σ H E I hf st hg
  subst hP hw hK
  obtain⟨xs,hq,hx⟩:=hg
  obtain⟨its,rv,p,hz⟩:=I.list hq
  obtain⟨f0,f1,f2,f3,f4,f5⟩:=hf it (by simp)
  have hl:=rv.length
  exact wpAny_pyNext_list_end (I.ok.hd hc) st p.isList (by simp;omega) λh' eb=>⟨rfl,I.turned (t':=s.toks) (λb o hb e=>eb b o hb e) f0 f1 f3 f4 f5⟩
 self:=λ_ _ _ _ _ st h=>wpAny_pyIter_listiter st h
theorem Nh{P:Program}{w:World}{K:aA}{tg:Expr}(a it:Addr):Turn P w K tg (Itt K a) [it] it (λi h=>h.IsTupleIter it a i) where
 mem:=by simp
 obj:=λi h st b hb=>by
  have e:b=it:=by simpa using hb
  subst e
  obtain⟨o,e,c,d⟩:=st
  exact⟨o,e,λv z=>by rw[d]at z;cases z⟩
 keep:=λi h h' st k=>st.at λo e=>k it (by simp) o e
 item:=by
  intro X hP hw hK hc i pins s σ H E I hf st hg
  subst hP hw hK
  obtain⟨xs,x,hq,hx⟩:=hg
  obtain⟨its,rv,p,hz⟩:=I.tuple hq
  obtain⟨u,hu,ru⟩:=rv.get hx
  obtain⟨f0,f1,f2,f3,f4,f5⟩:=hf it (by simp)
  refine wpAny_pyNext_tuple_item st (show s.heap.IsTuple a its.toArray from p) (x:=u) (by simpa using hu) λh' st' sb=>?_
  have I1:Inv X pins σ H {s with heap:=h'}:=I.turned (t':=s.toks) (λb o hb e=>(sb.2 b hb).trans e) f0 f1 f3 f4 f5
  obtain⟨o,e,c,d⟩:=id st'
  exact⟨u,rfl,Ri (s:={s with heap:=h'}) e c d (by decide) ⟨x,H,I1,ru,⟨rfl,λys hy=>by rw[I.Dk hy hq];exact hx⟩,st',λb hb=>(hf b hb).1⟩⟩
 done:=by
  intro X hP hw hK hc i pins s σ H E I hf st hg
  subst hP hw hK
  obtain⟨xs,hq,hx⟩:=hg
  obtain⟨its,rv,p,hz⟩:=I.tuple hq
  obtain⟨f0,f1,f2,f3,f4,f5⟩:=hf it (by simp)
  have hl:=rv.length
  exact wpAny_pyNext_tuple_end (I.ok.hd hc) st (show s.heap.IsTuple a its.toArray from p) (by simp;omega) λh' eb=>⟨rfl,I.turned (t':=s.toks) (λb o hb e=>eb b o hb e) f0 f1 f3 f4 f5⟩
 self:=λ_ _ _ _ _ st h=>wpAny_pyIter_tupleiter st h
theorem Ni{P:Program}{w:World}{K:aA}{tg:Expr}(it:Addr)(lo:Int)(n:Nat):Turn P w K tg (yj lo n) [it] it (λi h=>IsRangeIter h it (lo+(i:Nat)*1) ((n:Int)-(i:Nat)) 1) where
 mem:=by simp
 obj:=λi h st b hb=>by
  have e:b=it:=by simpa using hb
  subst e
  exact⟨_,st,λv z=>by
   have z':Data.fields _=Data.cell v:=z
   cases z'⟩
 keep:=λi h h' st k=>k it (by simp) _ st
 item:=by
  intro X hP hw hK hc i pins s σ H E I hf st hg
  subst hP hw hK
  obtain⟨f0,f1,f2,f3,f4,f5⟩:=hf it (by simp)
  have W:=Walks.range (prog:=X.prog) (w:=X.w) (I.ok.hd hc) it lo 1 n
  refine W.item i s _ _ hg st λv h' tk hv st' kk=>?_
  obtain⟨t,rfl⟩:=hv
  have I1:Inv X pins σ H {s with heap:=h',toks:=tk}:=I.turned (λb o hb e=>kk b o (by simpa using hb) e) f0 f1 f3 f4 f5
  refine⟨_,rfl,Ri (s:={s with heap:=h',toks:=tk}) (n := "range_iterator") st' rfl rfl (by decide) ⟨.int (lo+i),H,I1,⟨t,?_⟩,⟨rfl,rfl⟩,st',λb hb=>(hf b hb).1⟩⟩
  rw[Int.mul_one]
 done:=by
  intro X hP hw hK hc i pins s σ H E I hf st hg
  subst hP hw hK
  obtain⟨f0,f1,f2,f3,f4,f5⟩:=hf it (by simp)
  exact wpAny_pyNext_range_end (I.ok.hd hc) st (by have:n≤i:=hg;omega) λh' eb=>⟨rfl,I.turned (t':=s.toks) (λb o hb e=>eb b o hb e) f0 f1 f3 f4 f5⟩
 self:=λ_ _ _ _ _ st h=>wpAny_pyIter_rangeiter st h
end L2
namespace L2
open PySem PySem.Spec PyProof.Rows
section
variable{X:Cx}{tg:Expr}
def XD(K:aA)(tl:TE):TI:=λσ H R=>tl σ H λx H1=>∃a,x=.ref a∧(∃xs,lH K H1 a xs)∧R (Itl K a) H1
def yl(K:aA)(tl:TE):TI:=λσ H R=>tl σ H λx H1=>∃a,x=.ref a∧(∃xs,mO K H1 a xs)∧R (Itt K a) H1
theorem MK{l:Expr}{tl:TE}(hl:PE X l tl):PI X tg l (XD X.K tl):=by
 intro pins s σ H R I h
 refine eE (hl pins s σ H _ I h) λv s1 ⟨x,H1,I1,r1,q1⟩=>?_
 obtain⟨a,e,⟨xs,hq⟩,q⟩:=q1
 subst e
 cases r1
 obtain⟨its,rv,p,hz⟩:=I1.list hq
 refine wpAny_pyIter_list p.isList ?_
 refine⟨s1.heap.objs.size,[s1.heap.objs.size],_,_,H1,rfl,I1.kept (t':=s1.toks) λb o e=>Heap.get?_push_of_some _ e,Uu a _,⟨_,Heap.get?_push_size _ rfl,rfl,rfl⟩,λb hb=>?_,q⟩
 have e:b=s1.heap.objs.size:=by simpa using hb
 subst e
 exact I1.MJ (B4 _) (I1.hok.fresh (B4 _))
theorem dq{l:Expr}{tl:TE}(hl:PE X l tl):PI X tg l (yl X.K tl):=by
 intro pins s σ H R I h
 refine eE (hl pins s σ H _ I h) λv s1 ⟨x,H1,I1,r1,q1⟩=>?_
 obtain⟨a,e,⟨xs,hq⟩,q⟩:=q1
 subst e
 cases r1
 obtain⟨its,rv,p,hz⟩:=I1.tuple hq
 refine wpAny_pyIter_tuple (show s1.heap.IsTuple a its.toArray from p) ?_
 refine⟨s1.heap.objs.size,[s1.heap.objs.size],_,_,H1,rfl,I1.kept (t':=s1.toks) λb o e=>Heap.get?_push_of_some _ e,Nh a _,⟨_,Heap.get?_push_size _ rfl,rfl,rfl⟩,λb hb=>?_,q⟩
 have e:b=s1.heap.objs.size:=by simpa using hb
 subst e
 exact I1.MJ (B4 _) (I1.hok.fresh (B4 _))
theorem Jg{pins:List (Addr×Obj)}{σ:St}{H:Hp}{s:Shared}{R:It→Hp→Prop}{E:Value→Shared→Prop}{lo hi:Int}{t u v:Tok}{tk:Nat}(I:Inv X pins σ H s)(h1:-(2 ^ 62)≤lo)(h2:lo<2 ^ 62)(h3:-(2 ^ 62)≤hi)(h4:hi<2 ^ 62)
  (q:R (yj lo (hi-lo).toNat) H):wpAny (model X.prog X.w) X.A (pyIter (.ref s.heap.objs.size)) (PIE X pins σ tg R) E {s with heap:=s.heap.push {cls:=.type "range", data:=.fields #[.int lo t,.int hi u,.int 1 v]},toks:=tk}:=by
 refine wpAny_pyIter_range (IsRange.new ..) (small_one h1 h2 h3 h4) ?_
 have I1:Inv X pins σ H {s with heap:=s.heap.push {cls:=.type "range", data:=.fields #[.int lo t,.int hi u,.int 1 v]},toks:=tk}:=I.kept λb o e=>Heap.get?_push_of_some _ e
 refine⟨(s.heap.push {cls:=.type "range", data:=.fields #[.int lo t,.int hi u,.int 1 v]}).objs.size,[(s.heap.push {cls:=.type "range", data:=.fields #[.int lo t,.int hi u,.int 1 v]}).objs.size],_,_,H,rfl,
  I1.kept (t':=tk) λb o e=>Heap.get?_push_of_some _ e,Ni _ lo (hi-lo).toNat,?_,λb hb=>?_,q⟩
 ·have e1:lo+((0:Nat):Int)*1=lo:=by simp
  have e2:(((hi-lo).toNat:Nat):Int)-((0:Nat):Int)=Builtin.Range.rangeSize lo hi 1:=by rw[rangeSize_one];split<;>omega
  show IsRangeIter _ _ (lo+((0:Nat):Int)*1) ((((hi-lo).toNat:Nat):Int)-((0:Nat):Int)) 1
  rw[e1,e2]
  exact Heap.get?_push_size _ rfl
 ·have e:b=(s.heap.push {cls:=.type "range", data:=.fields #[.int lo t,.int hi u,.int 1 v]}).objs.size:=by simpa using hb
  subst e
  exact I1.MJ (B4 _) (I1.hok.fresh (B4 _))
def Xw(ta:TA):TI:=λσ H R=>ta σ H λvs H1=>∃j:Int,vs=[.int j]∧-(2 ^ 62)≤j∧j<2 ^ 62∧R (yj 0 j.toNat) H1
def Xx(ta:TA):TI:=λσ H R=>ta σ H λvs H1=>∃i j:Int,vs=[.int i,.int j]∧(-(2 ^ 62)≤i∧i<2 ^ 62∧-(2 ^ 62)≤j∧j<2 ^ 62)∧R (yj i (j-i).toNat) H1
theorem Dl{a:Expr}{ta:TA}{p pos:Pos}(hg:Gl X "range") (hm:X.mg "range" = none) (ha:PA X [a] ta) (hs:starEach [a] X.env=[(false,eval a X.env)]:=by rfl):PI X tg (.Call (.Name "range" p) [a] [] pos) (Xw ta):=by
 intro pins s σ H R I h
 refine Call_ (jT I hg hm boot_range (G8 (eE (ha pos pins s σ H _ I h) λus s1 ⟨vs,H1,I1,r1,q1⟩=>?_) hs rfl))
 obtain⟨j,e,q1,q2,q⟩:=q1
 subst e
 cases r1 with
 | cons r rr=>
  cases rr
  obtain⟨t,rfl⟩:=r
  exact call_range_1 (Jg I1 (by omega) (by omega) q1 q2 (by simpa using q))
theorem Uv{a b:Expr}{ta:TA}{p pos:Pos}(hg:Gl X "range") (hm:X.mg "range" = none) (ha:PA X [a,b] ta) (hs:starEach [a,b] X.env=[(false,eval a X.env),(false,eval b X.env)]:=by rfl) (hs2:starEach [b] X.env=[(false,eval b X.env)]:=by rfl) :
  PI X tg (.Call (.Name "range" p) [a,b] [] pos) (Xx ta):=by
 intro pins s σ H R I h
 refine Call_ (jT I hg hm boot_range (G8 (eE (ha pos pins s σ H _ I h) λus s1 ⟨vs,H1,I1,r1,q1⟩=>?_) (by rw[hs,hs2]) (by rw[hs2];rfl)))
 obtain⟨i,j,e,⟨q1,q2,q3,q4⟩,q⟩:=q1
 subst e
 cases r1 with
 | cons r rr=>
  cases rr with
  | cons r' rr=>
   cases rr
   obtain⟨t,rfl⟩:=r
   obtain⟨t',rfl⟩:=r'
   exact call_range_2 (Jg I1 q1 q2 q3 q4 q)
def Nj(wi:TI)(g:TG)(tb:TS):TS:=λD σ H=>wi σ H λJ H1=>∃W:Nat→Nat→St→Hp→Prop,(∃m,W 0 m σ H1)∧∀i m σ H,W i m σ H →
 (J.stop i H∧D.nx σ H)∨(J.go i H∧∃N:St→Hp→Prop,(∀σ' H',N σ' H'→∃m',m'<m∧W (i+1) m' σ' H')∧∀x H',J.yh i H x H'→g x σ H' λσ2 H2=>tb {D with nx:=N,ct:=N,bk:=D.nx} σ2 H2)
def yU(fp:List Addr)(h:Heap):List (Addr×Obj):=fp.filterMap λb=>(h.get? b).map λo=>(b,o)
theorem pF{fp:List Addr}{h:Heap}{b:Addr}{o:Obj}(hb:b∈fp)(e:h.get? b=some o):(b,o)∈yU fp h:=X1.mpr ⟨b,hb,by rw[e];rfl⟩
theorem Uw{fp:List Addr}{h:Heap}{p:Addr×Obj}(hp:p∈yU fp h):p.1∈fp∧h.get? p.1=some p.2:=by
 obtain⟨b,hb,e⟩:=X1.mp hp
 cases q:h.get? b with
 | none=>rw[q]at e;cases e
 | some o=>
  rw[q]at e
  have e':(b,o)=p:=F5 e
  subst e'
  exact⟨hb,q⟩
theorem Inv.pinned{pins:List (Addr×Obj)}{σ:St}{H:Hp}{s:Shared}{fp:List Addr}(I:Inv X pins σ H s)(hf:∀b∈fp,Ft X pins H b)(ho:∀b∈fp,∃o,s.heap.get? b=some o∧∀v,o.data≠.cell v):Inv X (pins++yU fp s.heap) σ H s:=
 I.Rf λp hp=>(D9.mp hp).elim (λz=>I.pin p (E4 _ z)) λz=>by
  obtain⟨hb,e⟩:=Uw z
  obtain⟨f0,f1,f2,_⟩:=hf p.1 hb
  obtain⟨o,e',d⟩:=ho p.1 hb
  rw[e]at e';cases e'
  exact⟨e,f0,f1,f2,d⟩
theorem Inv.uG{pins pl:List (Addr×Obj)}{σ:St}{H:Hp}{s:Shared}(I:Inv X (pins++pl) σ H s):Inv X pins σ H s:=I.Rf λp hp=>I.pin p (E4 _ (F2 _ hp))
theorem Nk{iter:Expr}{body:List Stmt}{wi:TI}{g:TG}{tb:TS}{pos:Pos}(hp:PassesOwn (model X.prog X.w) X.A X.env X.xe)(hc:X.calm=true)(hi:PI X tg iter wi)(hg:PG X tg g)(hb:Iw X body tb)
  (hs:∀x,foldedSetIterable iter X.env x=pure x:=by intro _;rfl):PS X (.For tg iter body [] pos) (Nj wi g tb):=by
 intro pins s σ H D I h
 refine wpAny_For (eE (hi pins s σ H _ I h) λv s1 h1=>eE h1 λitv s2 h2=>?_) hs
 obtain⟨it,fp,tn,J,H2,e,I2,T,st2,f2,W,⟨m0,w0⟩,turn⟩:=h2
 subst e
 have stat:∀{H':Hp},(∀b∈fp,H' b=none)→∀b∈fp,Ft X pins H' b:=λhn b hb=>⟨hn b hb,(f2 b hb).2⟩
 refine codeAny_forLoop_any (λn s'=>∃i σ' H',Inv X pins σ' H' s'∧tn i s'.heap∧(∀b∈fp,H' b=none)∧W i n σ' H') ?_ m0 ⟨0,σ,H2,I2,st2,λb hb=>(f2 b hb).1,w0⟩
 rintro n s3 ⟨i,σ3,H3,I3,st3,fr3,w3⟩
 rcases turn i n σ3 H3 w3 with ⟨stop,qn⟩ | ⟨go,N,hN,step⟩
 ·refine wpAny_passesOwn hp (eE (T.done X rfl rfl rfl hc i pins s3 σ3 H3 X.xe I3 (stat fr3) st3 stop) λr s4 ⟨hr,I4⟩=>?_)
  subst hr
  exact wpAny_execs_nil ⟨σ3,H3,I4,qn⟩
 ·refine wpAny_passesOwn hp (eE (T.item X rfl rfl rfl hc i pins s3 σ3 H3 X.xe I3 (stat fr3) st3 go) λr s4 ⟨u,hr,h4⟩=>?_)
  subst hr
  refine wpAny_passesOwn hp (eE h4 λ_ s5 ⟨x,H5,I5,r5,y5,st5,fr5⟩=>?_)
  have I5':=I5.pinned (stat fr5) (T.obj _ _ st5)
  refine wpAny_passesOwn hp (eE (hg _ s5 σ3 H5 x u _ I5' r5 (step x H5 y5)) λ_ s6 ⟨σ6,H6,I6,q6⟩=>?_)
  refine wpAny_passesOwn hp (eE (hb _ s6 σ6 H6 _ I6 q6) λf s7 q7=>?_)
  have again:∀{σ7:St} {H7:Hp},Inv X (pins++yU fp s5.heap) σ7 H7 s7→N σ7 H7→∃m,m<n∧∃i σ' H',Inv X pins σ' H' s7∧tn i s7.heap∧(∀b∈fp,H' b=none)∧W i m σ' H':=λ{σ7 H7} I7 n7=>by
   obtain⟨m',hm,w7⟩:=hN σ7 H7 n7
   refine⟨m',hm,i+1,σ7,H7,I7.uG,T.keep _ _ _ st5 λb hb o e=>(I7.pin (b,o) (E4 _ (E4 _ (pF hb e)))).1,λb hb=>?_,w7⟩
   obtain⟨o,e,d⟩:=T.obj _ _ st5 b hb
   exact(I7.pin (b,o) (E4 _ (E4 _ (pF hb e)))).2.1
  cases f with
  | next=>obtain⟨σ7,H7,I7,n7⟩:=q7;exact again I7 n7
  | cont=>obtain⟨σ7,H7,I7,n7⟩:=q7;exact again I7 n7
  | brk=>obtain⟨σ7,H7,I7,q7⟩:=q7;exact⟨σ7,H7,I7.uG,q7⟩
  | ret v=>obtain⟨x7,σ7,H7,I7,r7,q7⟩:=q7;exact⟨x7,σ7,H7,I7.uG,r7,q7⟩
end
end L2
namespace L2
open PySem PySem.Spec PyProof.Rows
abbrev R2:=V→V→Hp→VK→Prop
def sU(X:Cx)(f:Value→Value→Sem Value)(r:R2):Prop:=
 ∀(pins:List (Addr×Obj))(s:Shared)(σ:St)(H:Hp)(x y:V)(v u:Value)(Q:VK),Inv X pins σ H s→RelV x v→RelV y u→r x y H Q →
  wpAny (model X.prog X.w) X.A (f v u) (EP X pins σ Q) X.xe s
def UnR(X:Cx)(f:Value→Sem Value)(r:V→Hp→VK→Prop):Prop:=
 ∀(pins:List (Addr×Obj))(s:Shared)(σ:St)(H:Hp)(x:V)(v:Value)(Q:VK),Inv X pins σ H s→RelV x v→r x H Q →
  wpAny (model X.prog X.w) X.A (f v) (EP X pins σ Q) X.xe s
def gW(X:Cx)(f:Value)(r:List V→Hp→VK→Prop):Prop:=
 ∀(pins:List (Addr×Obj))(s:Shared)(σ:St)(H:Hp)(xs:List V)(us:List Value)(Q:VK),Inv X pins σ H s→Vals xs us→r xs H Q →
  wpAny (model X.prog X.w) X.A (call f us) (EP X pins σ Q) X.xe s
def Fv(r:R2)(ta tb:TE):TE:=λσ H Q=>ta σ H λx H1=>tb σ H1 λy H2=>r x y H2 Q
def du(r:V→Hp→VK→Prop)(ta:TE):TE:=λσ H Q=>ta σ H λx H1=>r x H1 Q
def rI(C:Int→Int→Prop)(g:Int→Int→V):R2:=λx y H Q=>∃i j,x=.int i∧y=.int j∧C i j∧Q (g i j) H
def Xl(g:Int→Int→V):R2:=λx y H Q=>∃i j,x=.int i∧y=.int j∧Q (g i j) H
def rU(g:Int→V):V→Hp→VK→Prop:=λx H Q=>∃i,x=.int i∧Q (g i) H
section
variable{X:Cx}{a b c:Expr}{ta tb tc:TE}{pos:Pos}
theorem dw(ha:PE X a ta)(hb:PE X b tb){pins:List (Addr×Obj)}{s:Shared}{σ:St}{H:Hp}{R:V→V→Hp→Prop}(I:Inv X pins σ H s)
  (h:ta σ H λx H1=>tb σ H1 λy H2=>R x y H2) {Q:Value→Shared→Prop} {f:Value→Value→Sem Value}
  (hf:∀v u s2 x y H2,Inv X pins σ H2 s2→RelV x v→RelV y u→R x y H2→wpAny (model X.prog X.w) X.A (f v u) Q X.xe s2) :
  wpAny (model X.prog X.w) X.A (eval a X.env) (λv s₁=>wpAny (model X.prog X.w) X.A (eval b X.env) (λu s₂=>wpAny (model X.prog X.w) X.A (f v u) Q X.xe s₂) X.xe s₁) X.xe s:=by
 refine eE (ha pins s σ H _ I h) λv s1 ⟨x,H1,I1,r1,q1⟩=>?_
 refine eE (hb pins s1 σ H1 _ I1 q1) λu s2 ⟨y,H2,I2,r2,q2⟩=>?_
 exact hf v u s2 x y H2 I2 r1 r2 q2
theorem ym{op:Operator}{r:R2}(ho:sU X (binaryOp op) r)(ha:PE X a ta)(hb:PE X b tb):PE X (.BinOp a op b pos) (Fv r ta tb):=by
 intro pins s σ H Q I h
 exact wpAny_BinOp (dw ha hb I h λv u s2 x y H2 I2 rx ry q=>ho pins s2 σ H2 x y v u Q I2 rx ry q)
theorem yo{op:UnaryOp}{r:V→Hp→VK→Prop}(ho:UnR X (unaryOp op) r)(ha:PE X a ta):PE X (.UnaryOp op a pos) (du r ta):=by
 intro pins s σ H Q I h
 exact UnaryOp_ (eE (ha pins s σ H _ I h) λv s1 ⟨x,H1,I1,r1,q1⟩=>ho pins s1 σ H1 x v Q I1 r1 q1)
theorem yp{f:Value→Value→Sem Value}{C:Int→Int→Prop}{g:Int→Int→Int}
  (rule:∀(i j:Int)(t u:Tok)(s:Shared)(Q:Value→Shared→Prop)(E:Value→Shared→Prop),C i j→Q (.int (g i j) s.toks) {s with toks:=s.toks+1}→wpAny (model X.prog X.w) X.A (f (.int i t) (.int j u)) Q E s) :
  sU X f (rI C λi j=>.int (g i j)):=by
 intro pins s σ H x y v u Q I rx ry h
 obtain⟨i,j,rfl,rfl,hc,q⟩:=h
 obtain⟨t,rfl⟩:=rx
 obtain⟨t',rfl⟩:=ry
 exact rule i j t t' s _ _ hc ⟨.int (g i j),H,I.tok _,⟨_,rfl⟩,q⟩
theorem yq{f:Value→Value→Sem Value}{g:Int→Int→Int}
  (rule:∀(i j:Int)(t u:Tok)(s:Shared)(Q:Value→Shared→Prop)(E:Value→Shared→Prop),Q (.int (g i j) s.toks) {s with toks:=s.toks+1}→wpAny (model X.prog X.w) X.A (f (.int i t) (.int j u)) Q E s) :
  sU X f (Xl λi j=>.int (g i j)):=by
 intro pins s σ H x y v u Q I rx ry h
 obtain⟨i,j,rfl,rfl,q⟩:=h
 obtain⟨t,rfl⟩:=rx
 obtain⟨t',rfl⟩:=ry
 exact rule i j t t' s _ _ ⟨.int (g i j),H,I.tok _,⟨_,rfl⟩,q⟩
theorem dz{f:Value→Value→Sem Value}{g:Int→Int→Bool}
  (rule:∀(i j:Int)(t u:Tok)(s:Shared)(Q:Value→Shared→Prop)(E:Value→Shared→Prop),Q (.bool (g i j)) s→wpAny (model X.prog X.w) X.A (f (.int i t) (.int j u)) Q E s) :
  sU X f (Xl λi j=>.bl (g i j)):=by
 intro pins s σ H x y v u Q I rx ry h
 obtain⟨i,j,rfl,rfl,q⟩:=h
 obtain⟨t,rfl⟩:=rx
 obtain⟨t',rfl⟩:=ry
 exact rule i j t t' s _ _ ⟨.bl (g i j),H,I,rfl,q⟩
def Ux(i j:Int):Prop:=0<j∧j<1073741824
def Uy(i j:Int):Prop:=0≤j∧j≤1000000∧i.natAbs<2 ^ 64
def Ci(i j:Int):Prop:=(-(2 ^ 64)<i∧i<2 ^ 64)∨(-(2 ^ 64)<j∧j<2 ^ 64)
theorem Ci.ok{i j:Int}(h:Ci i j):IntMulOk i j:=by
 rcases h with ⟨h1,h2⟩ | ⟨h1,h2⟩
 ·exact .of_left (intBits_le_64 h1 h2)
 ·exact .of_right (intBits_le_64 h1 h2)
theorem fj:sU X (binaryOp .Add) (Xl λi j=>.int (i+j)):=yq λ_ _ _ _ _ _ _ q=>add_int q
theorem fu:sU X (binaryOp .Sub) (Xl λi j=>.int (i-j)):=yq λ_ _ _ _ _ _ _ q=>sub_int q
theorem gj:sU X (binaryOp .Mult) (rI Ci λi j=>.int (i*j)):=yp λ_ _ _ _ _ _ _ hc q=>mul_int q hc.ok
theorem MN:sU X (binaryOp .FloorDiv) (rI Ux λi j=>.int (i/j)):=yp λi j _ _ _ _ _ hc q=>by
 have h1:(0:Int)<j:=hc.1
 have h2:j<1073741824:=hc.2
 exact floordiv_int (by omega) (by rw[Int.fdiv_eq_ediv_of_nonneg i (by omega)];exact q) (.inl (U9 (by omega)))
theorem gn:sU X (binaryOp .Mod) (rI (λ_ j=>0<j) λi j=>.int (i%j)):=yp λi j _ _ _ _ _ hc q=>by
 have h1:(0:Int)<j:=hc
 exact mod_int' (by omega) (by rw[Int.fmod_eq_emod_of_nonneg i (by omega)];exact q)
theorem gq:sU X (binaryOp .Pow) (rI Uy λi j=>.int (i ^ j.toNat)):=yp λ_ _ _ _ _ _ _ hc q=>pow_int_small hc.1 hc.2.1 hc.2.2 q
theorem unI{f:Value→Sem Value}{g:Int→Int}
  (rule:∀(i:Int)(t:Tok)(s:Shared)(Q:Value→Shared→Prop)(E:Value→Shared→Prop),Q (.int (g i) s.toks) {s with toks:=s.toks+1}→wpAny (model X.prog X.w) X.A (f (.int i t)) Q E s) :
  UnR X f (rU λi=>.int (g i)):=by
 intro pins s σ H x v Q I rx h
 obtain⟨i,rfl,q⟩:=h
 obtain⟨t,rfl⟩:=rx
 exact rule i t s _ _ ⟨.int (g i),H,I.tok _,⟨_,rfl⟩,q⟩
theorem gr:UnR X (unaryOp .USub) (rU λi=>.int (-i)):=unI λ_ _ _ _ _ q=>neg_int q
end
def MP:V→V→Bool
  | .non,.non=>true | .non,.int _=>true | .int _,.non=>true | .non,.bl _=>true | .bl _,.non=>true | .non,.str _=>true | .str _,.non=>true
  | .int _,.int _=>true | .bl _,.bl _=>true | .str _,.str _=>true | .byt _,.byt _=>true
  | .int _,.str _=>true | .str _,.int _=>true | .bl _,.str _=>true | .str _,.bl _=>true
  | _,_=>false
def rEq:R2:=λx y H Q=>MP x y=true∧Q (.bl (decide (x=y))) H
def rNe:R2:=λx y H Q=>MP x y=true∧Q (.bl (!decide (x=y))) H
theorem Rj{i j:Int}:decide (V.int i=V.int j)=(i==j):=by
 rw[M3]
 simp
theorem Xy{i j:Bool}:decide (V.bl i=V.bl j)=(i==j):=by
 rw[M3]
 simp
theorem Rk{i j:Str}:decide (V.str i=V.str j)=(i==j):=by
 rw[M3]
 simp
theorem Rm{i j:Array UInt8}:decide (V.byt i=V.byt j)=(i.toList==j.toList):=by
 rw[M3]
 cases i
 cases j
 simp
section
variable{X:Cx}{a b c:Expr}{ta tb tc:TE}{pos:Pos}
theorem bN{pins:List (Addr×Obj)}{σ:St}{H:Hp}{s:Shared}{Q:VK}{k k':Bool}(I:Inv X pins σ H s)(q:Q (.bl k) H)(e:k=k'):EP X pins σ Q (.bool k') s:=by
 subst e
 exact⟨.bl k,H,I,rfl,q⟩
theorem yr:sU X (compareOp .Eq) rEq:=by
 intro pins s σ H x y v u Q I rx ry h
 obtain⟨hs,q⟩:=h
 cases x with
 | non=>
  cases rx
  cases y with
  | non=>cases ry;exact PySem.EqNone.eq_none_none (bN I q (by simp))
  | bl j=>cases ry;exact PySem.EqNone.eq_none_bool (bN I q (by simp))
  | int j=>obtain⟨t',rfl⟩:=ry;exact PySem.EqNone.eq_none_int (bN I q (by simp))
  | str j=>obtain⟨t',rfl⟩:=ry;exact PySem.EqNone.eq_none_str (bN I q (by simp))
  | _=>exact absurd (show false=true from hs) D5
 | bl i=>
  cases rx
  cases y with
  | non=>cases ry;exact PySem.EqNone.eq_bool_none (bN I q (by simp))
  | bl j=>cases ry;exact eq_bool (bN I q Xy)
  | str j=>obtain⟨t',rfl⟩:=ry;exact PySem.EqMixed.eq_bool_str (bN I q (by simp))
  | _=>exact absurd (show false=true from hs) D5
 | int i=>
  obtain⟨t,rfl⟩:=rx
  cases y with
  | non=>cases ry;exact PySem.EqNone.eq_int_none (bN I q (by simp))
  | int j=>obtain⟨t',rfl⟩:=ry;exact eq_int (bN I q Rj)
  | str j=>obtain⟨t',rfl⟩:=ry;exact PySem.EqMixed.eq_int_str (bN I q (by simp))
  | _=>exact absurd (show false=true from hs) D5
 | str i=>
  obtain⟨t,rfl⟩:=rx
  cases y with
  | non=>cases ry;exact PySem.EqNone.eq_str_none (bN I q (by simp))
  | bl j=>cases ry;exact PySem.EqMixed.eq_str_bool (bN I q (by simp))
  | int j=>obtain⟨t',rfl⟩:=ry;exact PySem.EqMixed.eq_str_int (bN I q (by simp))
  | str j=>obtain⟨t',rfl⟩:=ry;exact eq_str (bN I q Rk)
  | _=>exact absurd (show false=true from hs) D5
 | byt i=>
  obtain⟨t,rfl⟩:=rx
  cases y with
  | byt j=>obtain⟨t',rfl⟩:=ry;exact PySem.W.eq_bytes (bN I q Rm)
  | _=>exact absurd (show false=true from hs) D5
 | _=>cases y<;>exact absurd (show false=true from hs) D5
theorem yu:sU X (compareOp .NotEq) rNe:=by
 intro pins s σ H x y v u Q I rx ry h
 obtain⟨hs,q⟩:=h
 cases x with
 | non=>
  cases rx
  cases y with
  | non=>cases ry;exact PySem.EqNone.ne_none_none (bN I q (by simp))
  | bl j=>cases ry;exact PySem.EqNone.ne_none_bool (bN I q (by simp))
  | int j=>obtain⟨t',rfl⟩:=ry;exact PySem.EqNone.ne_none_int (bN I q (by simp))
  | str j=>obtain⟨t',rfl⟩:=ry;exact PySem.EqNone.ne_none_str (bN I q (by simp))
  | _=>exact absurd (show false=true from hs) D5
 | bl i=>
  cases rx
  cases y with
  | non=>cases ry;exact PySem.EqNone.ne_bool_none (bN I q (by simp))
  | bl j=>cases ry;exact ne_bool (bN I q (congrArg not Xy))
  | str j=>obtain⟨t',rfl⟩:=ry;exact PySem.EqMixed.ne_bool_str (bN I q (by simp))
  | _=>exact absurd (show false=true from hs) D5
 | int i=>
  obtain⟨t,rfl⟩:=rx
  cases y with
  | non=>cases ry;exact PySem.EqNone.ne_int_none (bN I q (by simp))
  | int j=>obtain⟨t',rfl⟩:=ry;exact ne_int (bN I q (congrArg not Rj))
  | str j=>obtain⟨t',rfl⟩:=ry;exact PySem.EqMixed.ne_int_str (bN I q (by simp))
  | _=>exact absurd (show false=true from hs) D5
 | str i=>
  obtain⟨t,rfl⟩:=rx
  cases y with
  | non=>cases ry;exact PySem.EqNone.ne_str_none (bN I q (by simp))
  | bl j=>cases ry;exact PySem.EqMixed.ne_str_bool (bN I q (by simp))
  | int j=>obtain⟨t',rfl⟩:=ry;exact PySem.EqMixed.ne_str_int (bN I q (by simp))
  | str j=>obtain⟨t',rfl⟩:=ry;exact ne_str (bN I q (congrArg not Rk))
  | _=>exact absurd (show false=true from hs) D5
 | byt i=>
  obtain⟨t,rfl⟩:=rx
  cases y with
  | byt j=>obtain⟨t',rfl⟩:=ry;exact PySem.W.ne_bytes (bN I q (congrArg not Rm))
  | _=>exact absurd (show false=true from hs) D5
 | _=>cases y<;>exact absurd (show false=true from hs) D5
theorem Jh:sU X (compareOp .Lt) (Xl λi j=>.bl (decide (i<j))):=dz λ_ _ _ _ _ _ _ q=>lt_int q
theorem Ji:sU X (compareOp .Gt) (Xl λi j=>.bl (decide (j<i))):=dz λ_ _ _ _ _ _ _ q=>gt_int q
theorem yw:sU X (compareOp .GtE) (Xl λi j=>.bl (decide (j≤i))):=dz λ_ _ _ _ _ _ _ q=>ge_int q
theorem sU.or{f:Value→Value→Sem Value}{r r':R2}(h:sU X f r)(h':sU X f r'):sU X f (λx y H Q=>r x y H Q∨r' x y H Q):=by
 intro pins s σ H x y v u Q I rx ry q
 rcases q with q | q
 ·exact h pins s σ H x y v u Q I rx ry q
 ·exact h' pins s σ H x y v u Q I rx ry q
theorem bQ(b:Expr){op:CmpOp}(h:op≠.In:=by decide)(h2:op≠.NotIn:=by decide):behindInMarks op b=false:=by
 have e1:(op==CmpOp.In)=false:=by cases op<;>first | rfl | exact absurd rfl h
 have e2:(op==CmpOp.NotIn)=false:=by cases op<;>first | rfl | exact absurd rfl h2
 cases b<;>simp[behindInMarks,e1,e2]
theorem MT{op:CmpOp}{r:R2}(ho:sU X (compareOp op) r)(ha:PE X a ta)(hb:PE X b tb)(hm:behindInMarks op b=false):PE X (.Compare a [op] [b] pos) (Fv r ta tb):=by
 intro pins s σ H Q I h
 exact wpAny_Compare1 (dw ha hb I h λv u s2 x y H2 I2 rx ry q=>ho pins s2 σ H2 x y v u Q I2 rx ry q) hm
def Xz(t:TE):TT:=λσ H Q=>t σ H λx H'=>∃k,x=.bl k∧Q k H'
theorem NB{op:CmpOp}{r:R2}(ho:sU X (compareOp op) r)(ha:PE X a ta)(hb:PE X b tb)(hm:behindInMarks op b=false):PT X (.Compare a [op] [b] pos) (Xz (Fv r ta tb)):=by
 intro pins s σ H Q I h
 refine wpAny_isTrue_Compare1 (eE (ha pins s σ H _ I h) λv s1 ⟨x,H1,I1,r1,q1⟩=>eE (hb pins s1 σ H1 _ I1 q1) λu s2 ⟨y,H2,I2,r2,q2⟩=>
  eE (ho pins s2 σ H2 x y v u _ I2 r1 r2 q2) λc s3 ⟨z,H3,I3,r3,k,e,q3⟩=>?_) hm
 subst e
 cases r3
 exact wpAny_truthy_bool ⟨H3,I3,q3⟩
theorem Fw:(sizeLine:Nat)<2 ^ 63:=by rw[sizeLine_eq];decide
theorem vals1{x:V}{us:List Value}(r:Vals [x] us):∃u,us=[u]∧RelV x u:=by
 cases r with
 | cons r1 r2=>cases r2;exact⟨_,rfl,r1⟩
theorem vals2{x y:V}{us:List Value}(r:Vals [x,y] us):∃u w',us=[u,w']∧RelV x u∧RelV y w':=by
 cases r with
 | cons r1 r2=>
  cases r2 with
  | cons r3 r4=>cases r4;exact⟨_,_,rfl,r1,r3⟩
theorem Uz(hc:X.calm=true):gW X (.builtin "min") (λxs H Q=>∃i j,xs=[.int i,.int j]∧Q (.int (if j<i then j else i)) H):=by
 intro pins s σ H xs us Q I r h
 obtain⟨i,j,rfl,q⟩:=h
 obtain⟨u,w',rfl,⟨t,rfl⟩,⟨t',rfl⟩⟩:=vals2 r
 refine min_two_ints (I.ok.hd hc) λh' tk k=>⟨_,H,I.kept k,?_,q⟩
 by_cases hj:j<i
 ·rw[if_pos hj,if_pos hj];exact⟨_,rfl⟩
 ·rw[if_neg hj,if_neg hj];exact⟨_,rfl⟩
end
end L2
namespace L2
open PySem PySem.Spec PyProof.Rows
structure gw(h:Heap)(x dx C:Addr)(mA:Str→Option Value):Prop where
 obj:h.get? x=some (U3 C dx)
 ns:h.Ns1 dx mA
 ne:dx≠x
theorem Va{h:Heap}{dx:Addr}{mA:Str→Option Value}(n:h.Ns1 dx mA):∃od,h.get? dx=some od∧∀name,V2 name od=some (mA name):=by
 obtain⟨o,es,ep,ho,hd,hk,_,hm⟩:=n
 refine⟨o,ho,λname=>?_⟩
 have e:=hm name
 unfold nsFind findBy at e
 rw[←Array.find?_toList]at e
 unfold V2
 rw[hd]
 dsimp only
 split
 ·rename_i y q
  rw[q]at e
  exact congrArg some e
 ·rename_i q
  rw[q]at e
  have a:es.toList.any (·.refKey)=false:=by
   rw[List.any_eq_false]
   intro y hy
   obtain⟨z,t,hkey⟩:=hk y (Array.mem_toList_iff.mp hy)
   simp[DictEntry.refKey,hkey]
  have a':¬es.toList.any (·.refKey)=true:=by rw[a];exact D5
  rw[if_neg a']
  exact congrArg some e
theorem gw.look{h:Heap}{x dx C:Addr}{mA:Str→Option Value}(I:gw h x dx C mA):∃od,PySem.W.InstAt h x (U3 C dx) C (some od)∧∀name,V2 name od=some (mA name):=
 let ⟨od,ho,hl⟩:=Va I.ns
 ⟨od,⟨I.obj,rfl,rfl,ho⟩,hl⟩
section
variable{prog:Program}{w:World}{A:Around}{E:Value→Shared→Prop}{s:Shared}{K:aA}{x dx C f:Addr}{mA:Str→Option Value}{name:Str}{v:Value}
end
theorem yR.some_of{v:V}{o:Option Value}(r:yR (some v) o):∃u,o=some u∧RelV v u:=by
 cases o with
 | none=>exact(show False from r).elim
 | some u=>exact⟨u,rfl,r⟩
section
variable{P:Program}{w:World}{H H':Hp}{h h':Heap}{a C dx:Addr}{fs fs':List (Str×V)}
theorem NK(hok:tD P w H h)(e:H a=some (.ins C dx fs)):∃mA,gw h a dx C mA∧(∀f,yR (fs.lookup f) (mA f))∧d9 mA (fs.map (·.1))∧fs.length≤1000∧H dx=some (.own a):=by
 obtain⟨d,z,ne,ob,mA,n,r,q⟩:=(show cI P w H h a (.ins C dx fs)from hok a _ e)
 exact⟨mA,⟨ob,n,ne⟩,r,q,z,d⟩
end
structure Cls(K:aA)(C:Addr):Prop where
 pg:Y7 K C Str.empty=true
 hd:PySem.W.hasDictIn K C=true
 po:PySem.W.plainOver K C=true
 sa:L8 K (.ref C) "__setattr__" = some (some (.builtin "object.__setattr__"))
theorem Cls.get{K:aA}{C:Addr}(c:Cls K C)(f:Str):Y7 K C f=true:=c.pg
def ie(K:aA)(C:Addr)(f:Str):Prop:=L8 K (.ref C) f=some none
structure Con(K:aA)(C:Addr)(f:Str)(v:V)(u:Value):Prop where
 at_:L8 K (.ref C) f=some (some u)
 rel:RelV v u
 get:S5 K u "__get__" = some none
 cp:PySem.W.copiedNames.contains f=false
structure Meth(K:aA)(C:Addr)(m:Str)(f:Addr):Prop where
 at_:L8 K (.ref C) m=some (some (.ref f))
 fn:e9 K (.ref f)=true
 kp:L0 K (.ref f)=true
section
variable{X:Cx}{pins:List (Addr×Obj)}{σ:St}{H:Hp}{s:Shared}{a C dx:Addr}{fs:List (Str×V)}{f:Str}{v:V}{A:Around}{E:Value→Shared→Prop}
end
section
variable{X:Cx}{o e value:Expr}{f:Str}{pos pos' tpos:Pos}{ta tv:TE}
end
section
variable{X:Cx}{pins:List (Addr×Obj)}{σ:St}{H:Hp}{s:Shared}{A:Around}{E:Value→Shared→Prop}{Q:Value→Shared→Prop}{c:Value}{b:Bool}
inductive xU(K:aA)(H:Hp):V→Value→Prop where
 | non:xU K H .non (.type "NoneType")
 | bl (x:Bool):xU K H (.bl x) (.type "bool")
 | int (i:Int):xU K H (.int i) (.type "int")
 | str (x:Str):xU K H (.str x) (.type "str")
 | flt (x:UInt64):xU K H (.flt x) (.type "float")
 | lst {a:Addr} {xs:List V} (e:H a=some (.lst xs)):xU K H (.ref a) (.type "list")
 | qG {a:Addr} {o:Obj} {xs:List V} (e:H a=some (.qG o (.lst xs))):xU K H (.ref a) (.type "list")
 | tup {a:Addr} {xs:List V} (e:H a=some (.tup xs)):xU K H (.ref a) (.type "tuple")
 | dK {a:Addr} {kvs:List (Key×V)} (e:H a=some (.dK kvs)):xU K H (.ref a) (.type "dict")
 | dT {a:Addr} {kvs:List (List Key×V)} (e:H a=some (.dT kvs)):xU K H (.ref a) (.type "dict")
 | ins {a C dx:Addr} {fs:List (Str×V)} (e:H a=some (.ins C dx fs)) (cl:Cls K C) (ha:L8 K (.ref C) "__class__" = some (some (.builtin "object.__class__")))
   (hn:S5 K (.builtin "object.__class__") "__get__" = some (some (.builtin "getset_descriptor.__get__"))) (htk:Z9 K (.builtin "object.__class__")=some true)
   (hm:d5 K C (.type "object")=some true):xU K H (.ref a) (.ref C)
theorem Dm{x:V}{u t:Value}(I:Inv X pins σ H s)(rx:RelV x u)(ty:xU X.K H x t)(e:F9 X.K t c=some b)(h:∀tk,Q (.bool b) {s with toks:=tk}) :
  wpAny (model X.prog X.w) A (call (.builtin "isinstance") [u,c]) Q E s:=by
 cases ty with
 | non=>cases(show u=Value.none from rx);exact G3 PySem.W.kitx_none I.Di True.intro e (λz=>nomatch z) h
 | bl y=>cases(show u=Value.bool y from rx);exact G3 PySem.W.kitx_bool I.Di True.intro e (λz=>nomatch z) h
 | int i=>obtain⟨t,q⟩:=(show ∃t,u=Value.int i t from rx);cases q;exact G3 PySem.W.kitx_int I.Di True.intro e (λz=>nomatch z) h
 | str y=>obtain⟨t,q⟩:=(show ∃t,u=Value.str y t from rx);cases q;exact G3 PySem.W.kitx_str I.Di True.intro e (λz=>nomatch z) h
 | flt y=>obtain⟨t,q⟩:=(show ∃t,u=Value.float y t from rx);cases q;exact G3 PySem.W.kitx_float I.Di True.intro e (λz=>nomatch z) h
 | @lst a xs ea=>
  cases(show u=Value.ref a from rx)
  obtain⟨_,_,n,_,h1⟩:=(show cI X.prog X.w H s.heap a (.lst xs)from I.hok a _ ea)
  exact G3 S6 I.Di ⟨_,h1,rfl⟩ e (λz=>nomatch z) h
 | @qG a ob xs ea=>
  cases(show u=Value.ref a from rx)
  obtain⟨_,_,_,n,_,h1⟩:=(show cI X.prog X.w H s.heap a (.qG ob (.lst xs))from I.hok a _ ea)
  exact G3 S6 I.Di ⟨_,h1,rfl⟩ e (λz=>nomatch z) h
 | @tup a xs ea=>
  cases(show u=Value.ref a from rx)
  obtain⟨_,_,_,p⟩:=(show cI X.prog X.w H s.heap a (.tup xs)from I.hok a _ ea)
  obtain⟨o,h1,h2,_⟩:=p
  exact G3 X2 I.Di ⟨o,h1,h2⟩ e (λz=>nomatch z) h
 | @dK a kvs ea=>
  cases(show u=Value.ref a from rx)
  obtain⟨_,_,vs,_,p⟩:=(show cI X.prog X.w H s.heap a (.dK kvs)from I.hok a _ ea)
  obtain⟨o,es,ep,h1,h2,_⟩:=p
  exact G3 Y2 I.Di ⟨o,h1,h2.1⟩ e (λz=>nomatch z) h
 | @dT a kvs ea=>
  cases(show u=Value.ref a from rx)
  obtain⟨_,_,xs,_,o,es,ep,h1,h2,_⟩:=(show cI X.prog X.w H s.heap a (.dT kvs)from I.hok a _ ea)
  exact G3 Y2 I.Di ⟨o,h1,h2.1⟩ e (λz=>nomatch z) h
 | @ins a C dx fs ea cl ha hn htk hm=>
  cases(show u=Value.ref a from rx)
  obtain⟨mA,O,_⟩:=NK I.hok ea
  obtain⟨od,J,_⟩:=O.look
  exact G3 (PySem.W.kitx_own (cl.get _) cl.hd ha hn htk hm) I.Di J e (λz=>nomatch z) h
end
end L2
namespace L2
open PySem PySem.Spec PyProof.Rows
structure jU(k:Nat)(A:Around):Prop where
 hd:A.handled=none
 dp:A.depth+3*k+5<recursionLimit
 un:A.units+16*k+200<cLine
theorem jU.mono{j k:Nat}{A:Around}(r:jU k A)(h:j≤k):jU j A:=⟨r.hd,by have:=r.dp;omega,by have:=r.un;omega⟩
theorem jU.deeper{k:Nat}{A:Around}(r:jU (k+1) A)(env:Env):jU k (A.deeper env):=
 ⟨r.hd,by have:=r.dp;show A.depth+1+3*k+5<_;omega,by have:=r.un;show A.units+3+16*k+200<_;omega⟩
theorem jU.depth{k:Nat}{A:Around}(r:jU k A):A.depth<recursionLimit:=by have:=r.dp;omega
theorem jU.units{k:Nat}{A:Around}(r:jU k A):A.units+64<cLine:=by have:=r.un;omega
def vO:TA:=λ_ H Q=>Q [] H
def mR(ta:TE)(tr:TA):TA:=λσ H Q=>ta σ H λx H1=>tr σ H1 λxs H2=>Q (x::xs) H2
section
variable{X:Cx}{e:Expr}{es:List Expr}{te:TE}{t:TA}{pos:Pos}
theorem iZ:PA X [] vO:=λ_ _ _ _ H Q I h=>Calls.spliced_nil ⟨[],H,I,.nil,h⟩
theorem eQ(ha:PE X e te)(hr:PA X es t)(hs:starEach (e::es) X.env=(false,eval e X.env)::starEach es X.env:=by rfl):PA X (e::es) (mR te t):=by
 intro pos pins s σ H Q I h
 rw[hs]
 show wpAny _ _ (spliced ((false,eval e X.env)::backTo pos (starEach es X.env))) _ _ s
 refine Calls.spliced_cons (eE (ha pins s σ H _ I h) λu s1 ⟨x,H1,I1,r1,q1⟩=>?_)
 exact eE (hr pos pins s1 σ H1 _ I1 q1) λus s2 ⟨xs,H2,I2,r2,q2⟩=>⟨x::xs,H2,I2,.cons r1 r2,q2⟩
def ig(t:TA):TE:=λσ H Q=>t σ H λxs H1=>xs.length≤sizeLine∧∀p,H1 p=none→Q (.ref p) (upd H1 p (.tup xs))
def Yb(t:TA):TE:=λσ H Q=>t σ H λxs H1=>xs.length≤sizeLine∧∀p,H1 p=none→Q (.ref p) (upd H1 p (.lst xs))
theorem il{x1}(h:PA X es t):PE X (.Tuple es x1 pos) (ig t):=by
 intro pins s σ H Q I hq
 refine wpAny_Tuple_spliced (eE (h pos pins s σ H _ I hq) λus s1 ⟨xs,H1,I1,r,z,q⟩=>⟨by rw[←r.length];exact z,?_⟩)
 have hf:H1 s1.heap.objs.size=none:=I1.hok.fresh (B4 _)
 refine⟨.ref s1.heap.objs.size,upd H1 s1.heap.objs.size (.tup xs),I1.laid (t':=s1.toks) (λb u e=>Heap.get?_push_of_some _ e) (B4 _) ?_,rfl,q _ hf⟩
 exact⟨z,us,r,⟨_,Heap.get?_push_size _ rfl,rfl,_,rfl⟩⟩
theorem Yc(h:PA X es t):PE X (.List es pos) (Yb t):=by
 intro pins s σ H Q I hq
 refine wpAny_List_spliced (eE (h pos pins s σ H _ I hq) λus s1 ⟨xs,H1,I1,r,z,q⟩=>⟨by rw[←r.length];exact z,?_⟩)
 have hf:H1 s1.heap.objs.size=none:=I1.hok.fresh (B4 _)
 refine⟨.ref s1.heap.objs.size,upd H1 s1.heap.objs.size (.lst xs),I1.laid (t':=s1.toks) (λb u e=>Heap.get?_push_of_some _ e) (B4 _) ?_,rfl,q _ hf⟩
 exact⟨z,us,0,r,Heap.get?_push_size _ rfl⟩
end
abbrev Sp:=List V→Hp→VK→XK→Prop
abbrev Vb:=List Env→Hp→Shared→XK→Value→Shared→Prop
structure NP(P:Program)(w:World)(K:aA)(mg:Str→Option Value)(base:Heap)(A:Around)(outer:List Env)(s:Shared)(H:Hp):Prop where
 frames:A.frames=some outer
 mod:Mod K mg base
 bs:∀b o,base.get? b=some o→s.heap.get? b=some o∧H b=none
 KZ:base.objs.size≤s.heap.objs.size
 yS:s.heap.FunFrames base outer
 vp:∀b∈frs outer,H b=none
 hok:tD P w H s.heap
 bare:AllBare s.gens
 tab:az K H
def CE(outer:List Env)(P:Program)(w:World)(H:Hp)(s:Shared)(Q:VK)(u:Value)(s':Shared):Prop:=
 ∃v H',s'.os=s.os∧AllBare s'.gens∧Un (frs outer) [] H H' s.heap s'.heap∧tD P w H' s'.heap∧RelV v u∧Q v H'
def CR(CX:Vb)(outer:List Env)(P:Program)(w:World)(H:Hp)(s:Shared)(Q:VK)(E:XK)(r:Result)(s':Shared):Prop:=
 match r with
 | .ok (.ret u)=>CE outer P w H s Q u s'
 | .ok _=>False
 | .error e=>CX outer H s E e s'
structure uH(P:Program)(w:World)(K:aA)(mg:Str→Option Value)(base:Heap)(CX:Vb)(k:Nat)(f:Addr)(fd:FuncData)(ps:List Str)(sp:Sp):Prop where
 len:∀vs H Q E,sp vs H Q E→vs.length=ps.length
 run:∀(A:Around)(outer:List Env)(s:Shared)(H:Hp)(args:Args)(us:List Value)(vs:List V)(Q:VK)(E:XK),jU k A→NP P w K mg base A outer s H→BindsTo s fd args (ps.zip us)→Vals vs us→sp vs H Q E →
  codeAny (model P w) A (.call (.ref f) args) (CR CX outer P w H s Q E) s
section
variable{X:Cx}{pins:List (Addr×Obj)}{σ:St}{H:Hp}{s s':Shared}
theorem Inv.env0(I:Inv X pins σ H s):NP X.prog X.w X.K X.mg X.base X.A X.stack s H:=
 ⟨I.ok.frames,I.ok.mod,I.bs,E5 I.ok.KZ I.sz,I.stack,I.Fj,I.hok,I.bare,I.tab⟩
theorem Inv.after{Q:VK}{u:Value}(I:Inv X pins σ H s)(h:CE X.stack X.prog X.w H s Q u s'):EP X pins σ Q u s':=by
 obtain⟨v,H',os,bare,un,hok,r,q⟩:=h
 obtain⟨hh,g,d,t,os'⟩:=s'
 obtain rfl:os'=s.os:=os
 exact⟨v,H',I.call (h':=hh) (g':=g) (d':=d) (t':=t) (ch:=[]) un hok bare (λb z=>absurd z (by simp)),r,q⟩
end
def Jj(sp:Sp)(XF:List V)(E:XK)(t:TA):TE:=λσ H Q=>t σ H λvs H1=>sp (vs++XF) H1 Q E
def Binds(K:aA)(fd:FuncData)(ps:List Str)(ds:List Value):Prop:=
 ∀(s:Shared)(us:List Value),K.In s.heap→(us++ds).length=ps.length→BindsTo s fd ⟨us,[]⟩ (ps.zip (us++ds))
theorem Binds.all{K:aA}{fd:FuncData}{ps:List Str}(h:∀us:List Value,us.length=ps.length→bindArgs fd ⟨us,[]⟩=pure (ps.zip us)):Binds K fd ps []:=λs us _ hl=>by
 rw[U4]at hl ⊢
 exact .of_eq (h us hl)
def Passes(CX:Vb)(X:Cx)(E:XK):Prop:=∀(pins:List (Addr×Obj))(σ:St)(H:Hp)(s:Shared)(e:Value)(s':Shared),Inv X pins σ H s→CX X.stack H s E e s'→X.xe e s'
section
variable{X:Cx}{CX:Vb}{k:Nat}{f C:Addr}{fd:FuncData}{ps:List Str}{sp:Sp}{XF:List V}{ds:List Value}{E:XK}{x m:Str}{p pos apos:Pos}{e o:Expr}{es:List Expr}{ta:TE}{t:TA}
theorem ir{pins:List (Addr×Obj)}{σ:St}{H:Hp}{s:Shared}{Q:VK}{us:List Value}{vs:List V}(F:uH X.prog X.w X.K X.mg X.base CX k f fd ps sp)(hr:jU k X.A)(hb:Binds X.K fd ps ds)(hd:Vals XF ds)(hx:Passes CX X E)
  (I:Inv X pins σ H s) (r:Vals vs us) (h:sp (vs++XF) H Q E):wpAny (model X.prog X.w) X.A (call (.ref f) us) (EP X pins σ Q) X.xe s:=by
 have r2:Vals (vs++XF) (us++ds):=r.append hd
 have hl:(us++ds).length=ps.length:=by rw[←r2.length];exact F.len _ _ _ _ h
 refine wpAny_call (codeAny_mono (F.run X.A X.stack s H ⟨us,[]⟩ (us++ds) (vs++XF) Q E hr I.env0 (hb s us I.Di hl) r2 h) λr s' hq=>?_)
 cases r with
 | error e=>exact hx pins σ H s e s' I hq
 | ok fl=>
  cases fl with
  | ret u=>exact I.after hq
  | next=>exact False.elim hq
  | brk=>exact False.elim hq
  | cont=>exact False.elim hq
theorem NQ(F:uH X.prog X.w X.K X.mg X.base CX k f fd ps sp)(hr:jU k X.A)(hg:Gl X x)(hm:X.mg x=some (.ref f))(hk:L0 X.K (.ref f)=true)(hb:Binds X.K fd ps ds)(hd:Vals XF ds)(hx:Passes CX X E)
  (ha:PA X (e::es) t) (hdb:(x==("__debug__" : Str))=false:=by decide) (he:starEach (e::es) X.env=(false,eval e X.env)::starEach es X.env:=by rfl) (hpl:(backTo pos (starEach es X.env)).any (·.1)=false:=by rfl) :
  PE X (.Call (.Name x p) (e::es) [] pos) (Jj sp XF E t):=by
 intro pins s σ H Q I h
 refine wpAny_Call_Name_kw (Rg I hg hm ?_ hdb)
 refine PySem.W.callWith_K (h₀:=X.base) I.ok.mod.kin hk (eE (ha pos pins s σ H _ I h) λus s1 ⟨vs,H1,I1,r,q⟩=>⟨I1.Di,?_⟩) he hpl
 exact ir F hr hb hd hx I1 r q
structure Mk(K:aA)(C f:Addr):Prop where
 makes:PySem.W.makesIn K C=true
 init:L8 K (.ref C) "__init__" = some (some (.ref f))
 fn:e9 K (.ref f)=true
 kp:L0 K (.ref C)=true
end
def PK(X:Cx)(kws:List Keyword)(t:TA):Prop:=
 ∀(pos:Pos)(pins:List (Addr×Obj))(s:Shared)(σ:St)(H:Hp)(Q:List V→Hp→Prop),Inv X pins σ H s→t σ H Q→wpAny (model X.prog X.w) X.A (evalAll ((backToKw pos (keywordEach kws X.env)).map (·.2))) (AP X pins σ Q) X.xe s
section
variable{X:Cx}{CX:Vb}{k:Nat}{f C:Addr}{fd:FuncData}{ps ks:List Str}{sp:Sp}{E:XK}{x m:Str}{p pos apos kpos:Pos}{e o:Expr}{es:List Expr}{kws:List Keyword}{te ta:TE}{t tk:TA}{nm:Option Str}
theorem iu:PK X [] vO:=λ_ _ _ _ H Q I h=>wpAny_evalAll_nil ⟨[],H,I,.nil,h⟩
theorem NT(ha:PE X e te)(hr:PK X kws t):PK X (⟨nm,e,kpos⟩::kws) (mR te t):=by
 intro pos pins s σ H Q I h
 show wpAny _ _ (evalAll ((do let v ←eval e X.env;standAt pos;pure v)::(backToKw pos (keywordEach kws X.env)).map (·.2))) _ _ s
 refine wpAny_evalAll_cons (wpAny_bind (eE (ha pins s σ H _ I h) λu s1 ⟨x,H1,I1,r1,q1⟩=>wpAny_bind (wpAny_standAt (wpAny_pure ?_))))
 exact eE (hr pos pins s1 σ H1 _ I1 q1) λus s2 ⟨xs,H2,I2,r2,q2⟩=>⟨x::xs,H2,I2,.cons r1 r2,q2⟩
structure aBn(K:aA)(fd:FuncData)(ps ks:List Str)(g:List Value→List Value→List Value)(gV:List V→List V→List V):Prop where
 to:∀(s:Shared)(us ws:List Value),K.In s.heap→(g us ws).length=ps.length→BindsTo s fd ⟨us,ks.zip ws⟩ (ps.zip (g us ws))
 rel:∀{vs:List V} {us:List Value} {zs:List V} {ws:List Value},Vals vs us→Vals zs ws→Vals (gV vs zs) (g us ws)
variable{g:List Value→List Value→List Value}{gV:List V→List V→List V}
end
structure aZ(N P:List Str)(sc:Scope):Prop where
 kind:sc.kind=.function
 co:sc.isCoroutine=false
 gen:sc.isGenerator=false
 nd:N.Nodup
 pre:N.take P.length=P
 par:∀x∈P,sc.names.lookup x=some .local∨sc.names.lookup x=some .cell
 iw:∀y∈sc.names,y.2≠.free
theorem Dp{kindOf:Str→Option NameKind}{x:Str}:∀{binds:List (Str×Value)} {m:Str→Option Value},(∀v,(x,v)∉binds)→bindL kindOf binds m x=m x
 | [],_,_=>rfl
 | (n,v)::r,m,h=>by
  unfold bindL
  rw[Dp λw hw=>h w (B7 _ hw)]
  split
  ·have:x≠n:=by rintro rfl;exact h v B9
   simp[this]
  ·rfl
theorem Dq{kindOf:Str→Option NameKind}{x:Str}:∀{binds:List (Str×Value)} {m:Str→Option Value},(∀v,(x,v)∉binds)→bindC kindOf binds m x=m x
 | [],_,_=>rfl
 | (n,v)::r,m,h=>by
  unfold bindC
  rw[Dq λw hw=>h w (B7 _ hw)]
  split
  ·rfl
  ·have:x≠n:=by rintro rfl;exact h v B9
   simp[this]
theorem Dr{kindOf:Str→Option NameKind}{x:Str}{v:Value}:∀{P:List Str} {vs:List Value} {i:Nat} {m:Str→Option Value},P.Nodup→P[i]?=some x→vs[i]?=some v→kindOf x=some .local →
  bindL kindOf (P.zip vs) m x=some v
 | [],_,_,_,_,h,_,_=>by simp at h
 | _::_,[],_,_,_,_,h,_=>by simp at h
 | p::P,w::vs,0,m,nd,h1,h2,hk=>by
  simp at h1 h2;subst h1;subst h2
  show bindL kindOf ((p,w)::P.zip vs) m p=_
  unfold bindL
  rw[Dp λv hv=>(K0.mp nd).1 (U5 hv).1,if_pos hk]
  simp
 | p::P,w::vs,i+1,m,nd,h1,h2,hk=>by
  show bindL kindOf ((p,w)::P.zip vs) m x=_
  unfold bindL
  exact Dr (i:=i) (K0.mp nd).2 (by simpa using h1) (by simpa using h2) hk
theorem Ds{kindOf:Str→Option NameKind}{x:Str}{v:Value}:∀{P:List Str} {vs:List Value} {i:Nat} {m:Str→Option Value},P.Nodup→P[i]?=some x→vs[i]?=some v→kindOf x≠some .local →
  bindC kindOf (P.zip vs) m x=some v
 | [],_,_,_,_,h,_,_=>by simp at h
 | _::_,[],_,_,_,_,h,_=>by simp at h
 | p::P,w::vs,0,m,nd,h1,h2,hk=>by
  simp at h1 h2;subst h1;subst h2
  show bindC kindOf ((p,w)::P.zip vs) m p=_
  unfold bindC
  rw[Dq λv hv=>(K0.mp nd).1 (U5 hv).1,if_neg hk]
  simp
 | p::P,w::vs,i+1,m,nd,h1,h2,hk=>by
  show bindC kindOf ((p,w)::P.zip vs) m x=_
  unfold bindC
  exact Ds (i:=i) (K0.mp nd).2 (by simpa using h1) (by simpa using h2) hk
def start(N:List Str)(vs:List V):St:=vs.map some++E8 (N.length-vs.length) none
def yV(CX:Vb)(P:Program)(w:World)(K:aA)(mg:Str→Option Value)(base:Heap)(N:List Str)(qual:Str)(scope:Scope)(f:Addr)(cd:Value)(A:Around)(outer:List Env)(s:Shared)(H:Hp)(E:XK):Cx where
 prog:=P
 w:=w
 K:=K
 mg:=mg
 base:=base
 A:=A.deeper (envOfC qual scope s.heap.objs.size f cd)
 N:=N
 s₀:=s
 H₀:=H
 env:=envOfC qual scope s.heap.objs.size f cd
 outer:=outer
 stack:=envOfC qual scope s.heap.objs.size f cd::outer
 ex:=[]
 calm:=true
 fn:=λ_=>true
 pn:=[]
 xe:=λe s'=>wpAny (model P w) (A.deeper (envOfC qual scope s.heap.objs.size f cd)) (leaving (envOfC qual scope s.heap.objs.size f cd) e) (λ_ s''=>CX outer H s E e s'') (λe' s''=>CX outer H s E e' s'') s'
theorem Jk{sc:Scope}{n:Nat}{x:Str}(h:sc.names.lookup x=some .cell):∃c,(cellsFrom n sc.names []).lookup x=some c:=by
 have q:=V0 sc.names n [] (.inl h)
 exact Option.isSome_iff_exists.mp q
theorem Vc{CX:Vb}{P:Program}{w:World}{K:aA}{mg:Str→Option Value}{base:Heap}{N ps:List Str}{qual:Str}{scope:Scope}{f:Addr}{cd:Value}{A:Around}{outer:List Env}{s s1:Shared}{H:Hp}{E:XK}{us:List Value}{vs:List V}
  (S:aZ N ps scope) (hd:A.handled=none) (e0:NP P w K mg base A outer s H) (hl:vs.length=ps.length) (r:Vals vs us)
  (x:InCallC s s.heap.objs.size (bindL (envOfC qual scope s.heap.objs.size f cd).kindOf (ps.zip us) λ_=>none) (cellsFrom (s.heap.objs.size+1) scope.names []) (bindC (envOfC qual scope s.heap.objs.size f cd).kindOf (ps.zip us) λ_=>none) s1) :
  Inv (yV CX P w K mg base N qual scope f cd A outer s H E) [] (start N vs) H s1:=by
 have hpl:ps.length≤N.length:=by have:=congrArg List.length S.pre;rw[J1]at this;omega
 obtain⟨h1,tk,rfl,hk⟩:=x.done
 have NZ:∀b:Addr,b∉(yV CX P w K mg base N qual scope f cd A outer s H E).ex:=λb z=>absurd (show b∈([]:List Addr)from z) (by simp)
 refine⟨⟨e0.mod,S.kind,rfl,rfl,B4 _,λy z c h1 h2=>?_,λy hy=>?_,λy c _ h=>?_,λ_=>hd,Around.frames_deeper e0.frames,.inr ⟨rfl,rfl⟩,λb z=>absurd z (NZ b),e0.bs,e0.KZ,λb _ _=>NZ b,λb z=>absurd z (NZ b),e0.yS,e0.vp,e0.tab⟩,
  rfl,e0.bare,Un.kept hk,⟨_,x.toInCall.ns,λi y v h1 h2 h3=>?_⟩,λy c h=>⟨_,x.cell y c h⟩,e0.hok.fresh (B4 _),λy c h=>?_,λp hp=>absurd (show p∈([]:List (Addr×Obj))from hp) (by simp),e0.hok.kept hk,?_⟩
 ·exact name_of_addr x.apart (J3 h1) (J3 h2)
 ·have hy:scope.names.lookup y=some .cell∨scope.names.lookup y=some .free:=hy
  rcases hy with hy | hy
  ·exact Jk hy
  ·exact absurd rfl (S.iw _ (J3 hy))
 ·exact L9 (x.above y c (J3 h))
 ·have hi:i<vs.length:=by
   unfold start at h2
   by_cases hi:i<vs.length
   ·exact hi
   ·rw[L7 (by simpa using hi)]at h2
    rw[T8]at h2
    split at h2<;>cases h2
  have ha:vs[i]?=some v:=by
   unfold start at h2
   rw[N3 (by simpa using hi),C8]at h2
   cases e:vs[i]? with
   | none=>rw[e]at h2;cases h2
   | some a=>rw[e]at h2;cases h2;rfl
  obtain⟨u,hu,rv⟩:=r.get ha
  have hp:ps[i]?=some y:=by
   rw[←S.pre,List.getElem?_take_of_lt (by omega)];exact h1
  have ndP:ps.Nodup:=by rw[←S.pre];exact S.nd.sublist (Y3 _ _)
  refine⟨u,rv,?_⟩
  rcases S.par y (J6 hp)with k | k
  ·exact .inl ⟨k,Dr ndP hp hu k⟩
  ·obtain⟨c,e⟩:=Jk (n:=s.heap.objs.size+1) k
   refine .inr ⟨.inl k,c,e,?_⟩
   have q:=x.cell y c e
   rw[Ds ndP hp hu (by show scope.names.lookup y≠_;rw[k];decide)]at q
   exact q
 ·exact e0.hok.fresh (L9 (x.above y c (J3 h)))
 ·unfold start
  show _=N.length
  rw[C7,B5,V3]
  omega
theorem XH{CX:Vb}{P:Program}{w:World}{K:aA}{mg:Str→Option Value}{base:Heap}{k:Nat}{f:Addr}{name qual:Str}{params:Arguments}{body:List Stmt}{scope:Scope}{dV kV doc pm cdv ct oc:Value}{an od:Option Addr}
  {osl:Array (Option Value)} {N ps:List Str} {sp:Sp} (lk:K.lookup f=some ⟨oc,od,.func (G4 name qual params body scope dV kV doc pm an cdv ct),osl⟩) (hcd:F7 K cdv qual=true) (S:aZ N ps scope)
  (len:∀vs H Q E,sp vs H Q E→vs.length=ps.length)
  (hbody:∀(A:Around)(outer:List Env)(s:Shared)(H:Hp)(vs:List V)(Q:VK)(E:XK),jU k (A.deeper (envOfC qual scope s.heap.objs.size f cdv))→sp vs H Q E →
   ∃t,Iw (yV CX P w K mg base N qual scope f cdv A outer s H E) body t∧t {nx:=λ_ H'=>Q .non H',rt:=Q} (start N vs) H) :
  uH P w K mg base CX (k+1) f (G4 name qual params body scope dV kV doc pm an cdv ct) ps sp:=by
 refine⟨len,λA outer s H args us vs Q E hr e0 hb r hsp=>?_⟩
 have hl:=len _ _ _ _ hsp
 have KX:K.In s.heap:=e0.mod.kin.keeps λb o e=>(e0.bs b o e).1
 have lim:s.heap.NoLimit:=e0.mod.nolimit.keeps λb o e=>(e0.bs b o e).1
 have hkind:∀y∈ps.zip us,scope.names.lookup y.1=some .local∨(scope.names.lookup y.1=some .cell∧((cellsFrom (s.heap.objs.size+1) scope.names []).lookup y.1).isSome=true):=λ⟨n,v⟩ hy=>by
  rcases S.par n (U5 hy).1 with q | q
  ·exact .inl q
  ·exact .inr ⟨q,V0 _ _ _ (.inl q)⟩
 refine codeAny_call_function hr.depth (KX _ _ lk) rfl S.co S.gen rfl (PySem.W.codeRec_of KX hcd) (hb _ _ _ _ ?_)
 refine wpAny_newFunctionEnv_cells S.kind hkind λenv he s1 x=>?_
 subst he
 refine⟨lim.keeps x.toInCall.keep,codeAny_func ?_⟩
 obtain⟨t,ht,hq⟩:=hbody A outer s H vs Q E (hr.deeper _) hsp
 have I:Inv (yV CX P w K mg base N qual scope f cdv A outer s H E) [] (start N vs) H s1:=Vc S hr.hd e0 hl r x
 refine wpAny_mono (ht [] s1 (start N vs) H _ I hq) (λfl s' hs=>?_) λe s' hs=>hs
 have fin:∀{σ':St} {H':Hp} {v:V} {u:Value},Inv (yV CX P w K mg base N qual scope f cdv A outer s H E) [] σ' H' s'→RelV v u→Q v H'→CE outer P w H s Q u s':=
  λ{σ' H' v u} J rv q=>⟨v,H',J.os,J.bare,J.base,J.hok,rv,q⟩
 cases fl with
 | ret u=>
  obtain⟨v,σ',H',J,rv,q⟩:=hs
  exact fin J rv q
 | next=>
  obtain⟨σ',H',J,q⟩:=hs
  exact fin (v:=V.non) (u:=Value.none) J rfl q
 | brk=>
  obtain⟨_,_,_,q⟩:=hs
  exact False.elim q
 | cont=>
  obtain⟨_,_,_,q⟩:=hs
  exact False.elim q
end L2
namespace L2
open PySem PySem.Spec PyProof.Rows
section
variable{X:Cx}{x:Str}{p pos:Pos}{e:Expr}{es:List Expr}{t:TA}{id T:String}{r:List V→Hp→VK→Prop}
def vy(r:List V→Hp→VK→Prop)(t:TA):TE:=λσ H Q=>t σ H λvs H1=>r vs H1 Q
theorem Jl(hc:gW X (.builtin id) r)(hg:Gl X x)(hm:X.mg x=none)(hv:bootBuiltins x=some (.builtin id))(ha:PA X (e::es) t)(hn:x ≠ "__name__" := by decide) (hdb:(x==("__debug__" : Str))=false:=by decide)
  (he:starEach (e::es) X.env=(false,eval e X.env)::starEach es X.env:=by rfl) (hpl:(backTo pos (starEach es X.env)).any (·.1)=false:=by rfl):PE X (.Call (.Name x p) (e::es) [] pos) (vy r t):=by
 intro pins s σ H Q I h
 refine wpAny_Call_Name_kw (jT I hg hm hv ?_ hn hdb)
 exact Q9 (eE (ha pos pins s σ H _ I h) λus s1 ⟨vs,H1,I1,r1,q1⟩=>hc pins s1 σ H1 vs us Q I1 r1 q1) he hpl
theorem Vd(hc:gW X (.type T) r)(hg:Gl X x)(hm:X.mg x=none)(hv:bootBuiltins x=some (.type T))(ha:PA X (e::es) t)(hn:x ≠ "__name__" := by decide) (hdb:(x==("__debug__" : Str))=false:=by decide)
  (he:starEach (e::es) X.env=(false,eval e X.env)::starEach es X.env:=by rfl) (hpl:(backTo pos (starEach es X.env)).any (·.1)=false:=by rfl):PE X (.Call (.Name x p) (e::es) [] pos) (vy r t):=by
 intro pins s σ H Q I h
 refine wpAny_Call_Name_kw (jT I hg hm hv ?_ hn hdb)
 exact G8 (eE (ha pos pins s σ H _ I h) λus s1 ⟨vs,H1,I1,r1,q1⟩=>hc pins s1 σ H1 vs us Q I1 r1 q1) he hpl
end
end L2
namespace HT
open PySem PyProof.Rows
section
open PySem.SeqAt
open PySem.AutoSeq1 (wpAny_loadPart')
open PySem.MeetsSeq PySem.MeetsSeq2 PySem.MeetsSeq3
end
section
variable{prog:Program}{w:World}{A:Around}{E:Value→Shared→Prop}{s:Shared}
def fM(n d:Nat):Option Int→Nat
 | none=>d
 | some v=>if v<0 then(v+(n:Int)).toNat else min v.toNat n
theorem OD(n d k:Nat):fM n d (some (k:Int))=min k n:=by
 show (if(k:Int)<0 then((k:Int)+(n:Int)).toNat else min (k:Int).toNat n)=min k n
 rw[if_neg (by omega),C5]
theorem iy(n d:Nat)(hd:d≤n)(o:Option Int):fM n d o≤n:=by
 cases o with
 | none=>exact hd
 | some v=>
  show (if v<0 then(v+(n:Int)).toNat else min v.toNat n)≤n
  by_cases hv:v<0
  ·rw[if_pos hv];omega
  ·rw[if_neg hv];exact Nat.min_le_right _ _
theorem Rn(v:Int)(n d:Nat):(if v<0 then max (v+(n:Int)) 0 else min v (n:Int))=((fM n d (some v):Nat):Int):=by
 show (if v<0 then max (v+(n:Int)) 0 else min v (n:Int))=(((if v<0 then(v+(n:Int)).toNat else min v.toNat n):Nat):Int)
 by_cases hv:v<0
 ·simp only[if_pos hv];omega
 ·simp only[if_neg hv];omega
theorem Nm(lo hi:Option Int)(n:Nat):Builtin.Slice.sliceAdjust lo hi 1 (n:Int)=(((fM n 0 lo:Nat):Int),((fM n n hi:Nat):Int)):=by
 have h1:¬((1:Int)<0):=by omega
 unfold Builtin.Slice.sliceAdjust
 simp only[h1,if_false]
 refine Prod.ext ?_ ?_
 ·cases lo with
  | none=>rfl
  | some v=>exact Rn v n 0
 ·cases hi with
  | none=>rfl
  | some v=>exact Rn v n n
theorem Np(i j:Nat):Builtin.Slice.slicePlaces (i:Int) (j:Int) 1=j-i:=by
 unfold Builtin.Slice.slicePlaces
 have h1:(1:Int) > 0:=by omega
 simp only[h1,if_true,Int.ediv_one]
 split<;>omega
theorem yW{v:Value}{o:Option Int}{Q:Option Int→Shared→Prop}(p:IsPart v o)(h:Q o s):wpAny (model prog w) A (Builtin.Slice.slicePartIndex v) Q E s:=by
 cases p with
 | none=>exact slicePart_none h
 | int i t=>exact slicePart_int h
theorem nZ{sl:Addr}{vl vu:Value}{lo hi:Option Int}{n:Nat}{Q:Int×Int×Nat→Shared→Prop}(hs:s.heap.IsSliceOf sl vl vu .none)(pl:IsPart vl lo)(pu:IsPart vu hi)
  (h:Q (((fM n 0 lo:Nat):Int),1,fM n n hi-fM n 0 lo) s):wpAny (model prog w) A (Builtin.Slice.sliceApplied (.ref sl) (pure (n:Int))) Q E s:=by
 obtain⟨os,hos,hcs,hds⟩:=id hs
 unfold Builtin.Slice.sliceApplied Builtin.Slice.sliceFields
 refine wpAny_bind (wpAny_bind (wpAny_field hos hds (x:=vl) rfl (wpAny_bind (wpAny_field hos hds (x:=vu) rfl (wpAny_bind (wpAny_field hos hds (x:=.none) rfl (wpAny_pure ?_)))))))
 refine wpAny_bind (slicePart_none ?_)
 show wpAny _ _ (if((1:Int)==0)=true then _ else _) _ _ s
 rw[if_neg (by decide)]
 refine wpAny_bind (yW pl (wpAny_bind (yW pu (wpAny_bind (wpAny_pure ?_)))))
 show wpAny _ _ (match Builtin.Slice.sliceAdjust lo hi 1 (n:Int)with | (lo,hi)=>pure (lo,(1:Int),Builtin.Slice.slicePlaces lo hi 1)) _ _ s
 rw[Nm lo hi n]
 show wpAny _ _ (pure (((fM n 0 lo:Nat):Int),(1:Int),Builtin.Slice.slicePlaces ((fM n 0 lo:Nat):Int) ((fM n n hi:Nat):Int) 1)) _ _ s
 rw[Np]
 exact wpAny_pure h
theorem Yd(xs:Array Value)(i k:Nat):((D6 k).filterMap λ(m:Nat)=>xs[((i:Int)+(m:Int)*1).toNat]?).toArray=((xs.toList.drop i).take k).toArray:=by
 have e:(λ(m:Nat)=>xs[((i:Int)+(m:Int)*1).toNat]?)=λm=>xs[i+m]?:=by
  funext m
  have:((i:Int)+(m:Int)*1).toNat=i+m:=by omega
  rw[this]
 rw[e]
 have:=pick_run xs i k
 rw[List.filterMap_map]at this
 have e2:((λx=>xs[x]?)∘λx=>i+x)=λm=>xs[i+m]?:=rfl
 rw[e2]at this
 rw[this]
theorem uI{t sl:Addr}{items:Array Value}{vl vu:Value}{lo hi:Option Int}{Q:Value→Shared→Prop}(ht:IsTup s.heap t items)(hs:s.heap.IsSliceOf sl vl vu .none)(pl:IsPart vl lo)(pu:IsPart vu hi)
    (hw:¬(fM items.size 0 lo=0∧fM items.size items.size hi=items.size))
    (h:Q (.ref s.heap.objs.size) {s with heap:=s.heap.push {cls:=.type "tuple", data:=.seq ((items.toList.drop (fM items.size 0 lo)).take (fM items.size items.size hi-fM items.size 0 lo)).toArray}})
    (hsz:items.size≤sizeLine):wpAny (model prog w) A (getItem (.ref t) (.ref sl)) Q E s:=by
  have Ro:sizeOk (.seq ((items.toList.drop (fM items.size 0 lo)).take (fM items.size items.size hi-fM items.size 0 lo)).toArray):=by
    show ((items.toList.drop (fM items.size 0 lo)).take (fM items.size items.size hi-fM items.size 0 lo)).toArray.size≤sizeLine
    rw[B6,J1,N8,F1]
    omega
  have hj:fM items.size items.size hi≤items.size:=iy _ _ (B4 _) hi
  obtain⟨os,hos,hcs,hds⟩:=id hs
  have hTs:s.TypeIs (.ref sl) "slice" := ⟨os,hos,hcs⟩
  unfold getItem
  try with_reducible refine wpAny_holding ?_
  first | refine wpAny_bind (wpAny_pure ?_) | skip
  refine wpAny_bind (wpAny_sequenceKey ht.typeIs (by decide) ?_)
  refine wpAny_bind (wpAny_callSpecial?_slot (name:=Str.ofString "__getitem__") ht.typeIs I0
    (wpAny_call_entry I0 ht.typeIs entry_tuple_getitem ?_ (args_tuple_getitem _ _)))
  show wpAny _ _ (Builtin.Tuple.tupleItemsOf (.ref t) >>= _) _ _ s
  refine wpAny_bind (tupleItemsOf_ ht ?_)
  refine wpAny_bind (wpAny_typeOf hTs ?_)
  rw[if_pos (by decide)]
  refine wpAny_bind (nZ hs pl pu ?_)
  have hno:¬((((fM items.size 0 lo:Nat):Int)==0&&(1:Int)==1&&(fM items.size items.size hi-fM items.size 0 lo)==items.size)=true):=by
    intro q
    rw[D7,D7]at q
    have q1:((fM items.size 0 lo:Nat):Int)=0:=eq_of_beq q.1.1
    have q2:fM items.size items.size hi-fM items.size 0 lo=items.size:=eq_of_beq q.2
    exact hw ⟨by omega,by omega⟩
  show wpAny _ _ (if(((fM items.size 0 lo:Nat):Int)==0&&(1:Int)==1&&(fM items.size items.size hi-fM items.size 0 lo)==items.size)=true then _ else _) _ _ s
  rw[if_neg hno,Yd]
  first
    | exact wpAny_bind (m:=Builtin.Tuple.tupleExact _) (wpAny_newObj_type (wpAny_pure ⟨_,rfl,wpAny_pure h⟩) Ro)
    | exact wpAny_bind (m:=Builtin.Tuple.tupleExact _) (wpAny_newObj_type (wpAny_bind (wpAny_pure (wpAny_pure ⟨_,rfl,wpAny_pure h⟩))) Ro)
    | exact wpAny_bind (wpAny_bind (m:=Builtin.Tuple.tupleExact _) (wpAny_newObj_type (wpAny_pure (wpAny_pure ⟨_,rfl,wpAny_pure h⟩)) Ro))
    | exact wpAny_bind (wpAny_bind (m:=Builtin.Tuple.tupleExact _) (wpAny_newObj_type (wpAny_pure ⟨_,rfl,wpAny_pure h⟩) Ro))
end
end HT
namespace L2
open PySem PySem.Spec PyProof.Rows
abbrev TO:=St→Hp→(Option Int→Hp→Prop)→Prop
def PO(X:Cx)(e:Option Expr)(t:TO):Prop:=
 ∀(pins:List (Addr×Obj))(s:Shared)(σ:St)(H:Hp)(Q:Option Int→Hp→Prop),Inv X pins σ H s→t σ H Q →
  wpAny (model X.prog X.w) X.A (evalPart e X.env) (λu s'=>∃o H',Inv X pins σ H' s'∧IsPart u o∧Q o H') X.xe s
def Rp:TO:=λ_ H Q=>Q none H
def XQ(t:TE):TO:=λσ H Q=>t σ H λx H1=>∃i,x=.int i∧Q (some i) H1
theorem intsAre_of{ns:List Int}:∀{us:List Value},Vals (ns.map V.int) us→IntsAre us ns:=by
 induction ns with
 | nil=>intro us r;rw[G5]at r;cases r;exact .nil
 | cons n ns ih=>
  intro us r
  rw[D4]at r
  cases r with
  | cons r1 r2=>
   obtain⟨t,e⟩:=r1
   subst e
   exact .cons n t (ih r2)
section
variable{X:Cx}{e:Expr}{te:TE}{lo hi:Option Expr}{tl th:TO}{pos p2:Pos}
theorem OJ:PO X none Rp:=by
 intro pins s σ H Q I h
 rw[evalPart_none]
 exact wpAny_pure ⟨none,H,I,.none,h⟩
theorem PB(h:PE X e te):PO X (some e) (XQ te):=by
 intro pins s σ H Q I hw
 rw[evalPart_some]
 refine eE (h pins s σ H _ I hw) λu s1 ⟨x,H1,I1,r1,q1⟩=>?_
 obtain⟨i,rfl,q⟩:=q1
 obtain⟨t,rfl⟩:=r1
 exact⟨some i,H1,I1,.int i t,q⟩
def yx(X:Cx)(r:V→Option Int→Option Int→Hp→VK→Prop):Prop:=
 ∀(pins:List (Addr×Obj))(s:Shared)(σ:St)(H:Hp)(x:V)(v vl vu:Value)(lo hi:Option Int)(sl:Addr)(Q:VK),Inv X pins σ H s→RelV x v→s.heap.IsSliceOf sl vl vu .none→IsPart vl lo→IsPart vu hi→r x lo hi H Q →
  ∃T id,typeLookup (.type T) "__getitem__" = pure (some (.builtin id))∧s.TypeIs v T∧wpAny (model X.prog X.w) X.A (getItem v (.ref sl)) (EP X pins σ Q) X.xe s
def tSl(r:V→Option Int→Option Int→Hp→VK→Prop)(te:TE)(tl th:TO):TE:=λσ H Q=>te σ H λx H1=>tl σ H1 λl H2=>th σ H2 λu H3=>r x l u H3 Q
theorem yX{r:V→Option Int→Option Int→Hp→VK→Prop}(hr:yx X r)(he:PE X e te)(hl:PO X lo tl)(hu:PO X hi th):PE X (.Subscript e (.Slice lo hi none p2) pos) (tSl r te tl th):=by
 intro pins s σ H Q I h
 refine Subscript_ (eE (he pins s σ H _ I h) λv s1 ⟨x,H1,I1,r1,q1⟩=>?_)
 refine wpAny_Slice (eE (hl pins s1 σ H1 _ I1 q1) λvl s2 ⟨l,H2,I2,pl,q2⟩=>eE (hu pins s2 σ H2 _ I2 q2) λvu s3 ⟨u,H3,I3,pu,q3⟩=>?_)
 rw[evalPart_none]
 refine wpAny_pure ?_
 have I4:Inv X pins σ H3 {s3 with heap:=s3.heap.push {cls:=.type "slice", data:=.fields #[vl,vu,.none]}}:=I3.kept (t':=s3.toks) λb ob q=>Heap.get?_push_of_some _ q
 obtain⟨T,id,hT,ht,hg⟩:=hr pins {s3 with heap:=s3.heap.push {cls:=.type "slice", data:=.fields #[vl,vu,.none]}} σ H3 x v vl vu l u s3.heap.objs.size Q I4 r1 (Heap.IsSliceOf.new ..) pl pu q3
 show wpAny (model X.prog X.w) X.A (subscriptTail e (.Slice lo hi none p2) v (.ref s3.heap.objs.size)) (EP X pins σ Q) X.xe {s3 with heap:=s3.heap.push {cls:=.type "slice", data:=.fields #[vl,vu,.none]}}
 exact tail_any (ops:=[.ref s3.heap.objs.size,v]) ht hT hg (by with_unfolding_all rfl)
def yZ(xs:List V)(lo hi:Option Int):List V:=(xs.drop (HT.fM xs.length 0 lo)).take (HT.fM xs.length xs.length hi-HT.fM xs.length 0 lo)
theorem xF(xs:List V)(lo hi:Option Int):(yZ xs lo hi).length≤xs.length:=by
 unfold yZ
 rw[J1,N8]
 omega
def aBo(K:aA):V→Option Int→Option Int→Hp→VK→Prop:=λx lo hi H Q=>∃a xs,x=.ref a∧mO K H a xs ∧
 ¬(HT.fM xs.length 0 lo=0∧HT.fM xs.length xs.length hi=xs.length)∧∀p,H p=none→Q (.ref p) (upd H p (.tup (yZ xs lo hi)))
theorem iz:yx X (aBo X.K):=by
 intro pins s σ H x v vl vu lo hi sl Q I rx hs pl pu h
 obtain⟨a,xs,rfl,hx,hw,q⟩:=h
 cases rx
 obtain⟨its,r,ht,hz⟩:=I.tuple hx
 have hlen:its.toArray.size=xs.length:=by rw[B6];exact r.length.symm
 refine⟨"tuple", _,I0.lookup,ht.typeIs,?_⟩
 refine HT.uI ht hs pl pu (by rw[hlen];exact hw) ?_ (by rw[hlen];exact hz)
 rw[hlen]
 refine⟨.ref s.heap.objs.size,_,I.laid (t':=s.toks) (o:=.tup (yZ xs lo hi)) (λb ob q=>Heap.get?_push_of_some _ q) (B4 _) ?_,rfl,q _ (I.hok.fresh (B4 _))⟩
 exact⟨E5 (xF xs lo hi) hz,_,(r.drop (HT.fM xs.length 0 lo)).take (HT.fM xs.length xs.length hi-HT.fM xs.length 0 lo),IsTup.new _ _⟩
end
end L2
namespace L2
open PySem PySem.Spec PyProof.Rows
def yz(n:Nat)(i:Int):Option Nat:=if 0≤i then(if i<n then some i.toNat else none)else if -(n:Int)≤i then some (i+n).toNat else none
def Ye{α:Type}(xs:List α)(i:Int):Option α:=(yz xs.length i).bind λj=>xs[j]?
theorem PJ{n:Nat}{i:Int}{j:Nat}(h:yz n i=some j):seqIndex? i n=some j∧j<n∧-(n:Int)≤i∧i<n:=by
 unfold yz at h
 by_cases h0:0≤i
 ·rw[if_pos h0]at h
  by_cases h1:i<n
  ·rw[if_pos h1]at h
   have e:i.toNat=j:=F5 h
   exact⟨by rw[seqIndex_of h0 h1,e],by omega,by omega,h1⟩
  ·rw[if_neg h1]at h;cases h
 ·rw[if_neg h0]at h
  by_cases h1:-(n:Int)≤i
  ·rw[if_pos h1]at h
   have e:(i+n).toNat=j:=F5 h
   exact⟨by rw[seqIndex_neg (by omega) h1,e],by omega,h1,by omega⟩
  ·rw[if_neg h1]at h;cases h
theorem Fx{α:Type}{xs:List α}{i:Int}{v:α}(h:Ye xs i=some v):∃j,seqIndex? i xs.length=some j∧xs[j]?=some v∧j<xs.length∧-(xs.length:Int)≤i∧i<xs.length:=by
 unfold Ye at h
 cases e:yz xs.length i with
 | none=>rw[e]at h;cases h
 | some j=>
  rw[e]at h
  obtain⟨h1,h2,h3,h4⟩:=PJ e
  exact⟨j,h1,h,h2,h3,h4⟩
def Rq(b:Expr):Prop:=∀o i,subscripted b false o i=operate [o,i] (getItem o i)
def KC(X:Cx)(r:R2):Prop:=
 ∀(value slice:Expr)(pins:List (Addr×Obj))(s:Shared)(σ:St)(H:Hp)(x y:V)(v u:Value)(Q:VK),Inv X pins σ H s→RelV x v→RelV y u→r x y H Q →
  subscripted slice false v u=operate [v,u] (getItem v u)→wpAny (model X.prog X.w) X.A (subscriptTail value slice v u) (EP X pins σ Q) X.xe s
def MtR(X:Cx)(id:String)(r:V→List V→Hp→VK→Prop):Prop:=
 ∀(pins:List (Addr×Obj))(s:Shared)(σ:St)(H:Hp)(x:V)(xs:List V)(v:Value)(us:List Value)(Q:VK),Inv X pins σ H s→RelV x v→Vals xs us→r x xs H Q →
  wpAny (model X.prog X.w) X.A (call (.builtin id) (v::us)) (EP X pins σ Q) X.xe s
section
variable{X:Cx}{a b:Expr}{ta tb:TE}{pos:Pos}
theorem KC.or{r r':R2}(h:KC X r)(h':KC X r'):KC X (λx y H Q=>r x y H Q∨r' x y H Q):=by
 intro value slice pins s σ H x y v u Q I rx ry q hs
 rcases q with q | q
 ·exact h value slice pins s σ H x y v u Q I rx ry q hs
 ·exact h' value slice pins s σ H x y v u Q I rx ry q hs
theorem zb{r:R2}(hr:KC X r)(ha:PE X a ta)(hb:PE X b tb)(hs:Rq b):PE X (.Subscript a b pos) (Fv r ta tb):=by
 intro pins s σ H Q I h
 exact Subscript_ (dw ha hb I h λv u s2 x y H2 I2 rx ry q=>hr a b pins s2 σ H2 x y v u Q I2 rx ry q (hs _ _))
def zc(K:aA):R2:=λx y H Q=>∃p xs i v,x=.ref p∧y=.int i∧lH K H p xs∧Ye xs i=some v∧Q v H
def zf(K:aA):R2:=λx y H Q=>∃p xs i v,x=.ref p∧y=.int i∧mO K H p xs∧Ye xs i=some v∧Q v H
def zg:R2:=λx y H Q=>∃z i c,x=.str z∧y=.int i∧z.length≤sizeLine∧Ye z.cps.toList i=some c∧Q (.str ⟨#[c]⟩) H
theorem PL:KC X (zc X.K):=by
 intro value slice pins s σ H x y v u Q I rx ry h hs
 obtain⟨p,xs,i,z,rfl,rfl,hq,he,q⟩:=h
 cases rx
 obtain⟨t,rfl⟩:=ry
 obtain⟨its,r,pl,hz⟩:=I.list hq
 obtain⟨j,h1,h2,h3,h4,h5⟩:=Fx he
 obtain⟨w,ew,PN⟩:=r.get h2
 have hl:=r.length
 have hn:=Fw
 have fin:EP X pins σ Q w s:=⟨z,H,I,PN,q⟩
 by_cases h0:0≤i
 ·have hj:i.toNat=j:=by
   rw[seqIndex_of h0 h5]at h1
   exact F5 h1
  exact item_listR pl.isList h0 (by omega) (by rw[hj];simpa using ew) fin hs
 ·have hj:(i+(its.toArray.size:Int)).toNat=j:=by
   rw[seqIndex_neg (by omega) h4]at h1
   rw[B6,←hl]
   exact F5 h1
  exact subscriptTail_builtinR (x:=w) pl.isList.typeIs slot_list_getitem.lookup
   (wpAny_getItem_list_neg (Q:=λr s'=>r=w∧EP X pins σ Q r s') pl.isList (by omega) (by rw[B6]<;>omega) (by omega) (by rw[hj];simpa using ew) ⟨rfl,fin⟩) hs
theorem jb:KC X (zf X.K):=by
 intro value slice pins s σ H x y v u Q I rx ry h hs
 obtain⟨p,xs,i,z,rfl,rfl,hq,he,q⟩:=h
 cases rx
 obtain⟨t,rfl⟩:=ry
 obtain⟨its,r,pl,hz⟩:=I.tuple hq
 obtain⟨j,h1,h2,h3,h4,h5⟩:=Fx he
 obtain⟨w,ew,PN⟩:=r.get h2
 have hl:=r.length
 have hn:=Fw
 have fin:EP X pins σ Q w s:=⟨z,H,I,PN,q⟩
 exact subscriptTail_builtinR (x:=w) pl.typeIs slot_tuple_getitem.lookup
  (getItem_tuple (j:=j) (Q:=λr s'=>r=w∧EP X pins σ Q r s') pl (by omega) (by omega) (by rw[B6,←hl];exact h1) (by simpa using ew) ⟨rfl,fin⟩) hs
theorem jc:KC X zg:=by
 intro value slice pins s σ H x y v u Q I rx ry h hs
 obtain⟨z,i,c,rfl,rfl,hz,he,q⟩:=h
 obtain⟨t,rfl⟩:=rx
 obtain⟨t',rfl⟩:=ry
 obtain⟨j,h1,h2,h3,h4,h5⟩:=Fx he
 have hl:z.cps.toList.length=z.length:=by simp[Str.length]
 rw[hl]at h1 h4 h5
 have hn:=Fw
 exact tail_any (typeIs_str s z t) slot_str_getitem.lookup (getItem_str (c:=c) (by
  have e1:decide (i < -(2 ^ 63:Int))=false:=decide_eq_false (by omega)
  have e2:decide (i≥2 ^ 63)=false:=decide_eq_false (by omega)
  rw[e1,e2,V9]) (by rw[h1];simpa using h2) ⟨.str ⟨#[c]⟩,H,I.tok _,⟨_,rfl⟩,q⟩) hs
def rIx(K:aA):R2:=λx y H Q=>zc K x y H Q∨zf K x y H Q∨zg x y H Q
theorem jd:KC X (rIx X.K):=PL.or (jb.or jc)
theorem Fy(lo hi:Option Int)(n:Nat):(sliceBounds lo hi none n).1=((HT.fM n 0 lo:Nat):Int)∧(sliceBounds lo hi none n).2.1=((HT.fM n n hi:Nat):Int)∧(sliceBounds lo hi none n).2.2=1:=by
 refine⟨?_,?_,rfl⟩
 ·cases lo with
  | none=>simp[sliceBounds,HT.fM]
  | some i=>
   simp only[sliceBounds,HT.fM,Y8,show (1:Int) > 0 by decide,if_true]
   by_cases h:i<0
   ·simp only[h,if_true]<;>omega
   ·simp only[h,if_false]<;>omega
 ·cases hi with
  | none=>simp[sliceBounds,HT.fM]
  | some i=>
   simp only[sliceBounds,HT.fM,Y8,show (1:Int) > 0 by decide,if_true]
   by_cases h:i<0
   ·simp only[h,if_true]<;>omega
   ·simp only[h,if_false]<;>omega
theorem Cj(its:List Value)(lo hi:Option Int):slicePick its.toArray lo hi none=((its.drop (HT.fM its.length 0 lo)).take (HT.fM its.length its.length hi-HT.fM its.length 0 lo)).toArray:=by
 obtain⟨h1,h2,h3⟩:=Fy lo hi its.toArray.size
 unfold slicePick
 rw[h1,h2,h3]
 simp only[sliceRange_one,pick_run,B6]<;>rfl
def PQ(K:aA):V→Option Int→Option Int→Hp→VK→Prop:=λx lo hi H Q=>∃a xs,x=.ref a∧lH K H a xs∧∀p,H p=none→Q (.ref p) (upd H p (.lst (yZ xs lo hi)))
theorem PX:yx X (PQ X.K):=by
 intro pins s σ H x v vl vu lo hi sl Q I rx hs pl pu h
 obtain⟨a,xs,rfl,hx,q⟩:=h
 cases rx
 obtain⟨its,r,ht,hz⟩:=I.list hx
 have hlen:=r.length
 refine⟨"list", _,slot_list_getitem.lookup,ht.isList.typeIs,?_⟩
 refine wpAny_getItem_list_slice ht.isList hs pl pu .none (by simp) ?_ (by rw[B6]<;>omega)
 rw[Cj,←hlen]
 refine⟨.ref s.heap.objs.size,_,I.laid (t':=s.toks) (o:=.lst (yZ xs lo hi)) (λb ob q=>Heap.get?_push_of_some _ q) (B4 _) ?_,rfl,q _ (I.hok.fresh (B4 _))⟩
 exact⟨E5 (xF xs lo hi) hz,_,0,(r.drop (HT.fM xs.length 0 lo)).take (HT.fM xs.length xs.length hi-HT.fM xs.length 0 lo),Heap.get?_push_size _ rfl⟩
def qI:V→Bool
 | .non=>true
 | .bl _=>true
 | .int _=>true
 | .str _=>true
 | _=>false
def KD:V→V→Bool
 | .non,.non=>true
 | .bl a,.bl b=>a==b
 | .bl a,.int b=>(if a then 1 else 0)==b
 | .int a,.bl b=>a==(if b then 1 else 0)
 | .int a,.int b=>a==b
 | .str a,.str b=>a==b
 | _,_=>false
theorem je{A:Around}{s:Shared}{y x:V}{u v:Value}(ry:RelV y u)(rx:RelV x v)(fy:qI y=true)(fx:qI x=true):SeqAt.EqAt A s u v (KD y x):=by
 cases y with
 | non=>
  cases ry
  cases x with
  | non=>cases rx;exact SeqAt.EqAt.same _
  | bl b=>cases rx;exact SeqAt.EqAt.none_bool b
  | int b=>obtain⟨t,rfl⟩:=rx;exact SeqAt.EqAt.none_int b t
  | str b=>obtain⟨t,rfl⟩:=rx;exact SeqAt.EqAt.none_str b t
  | _=>exact absurd (show false=true from fx) D5
 | bl a=>
  cases ry
  cases x with
  | non=>cases rx;exact SeqAt.EqAt.bool_none a
  | bl b=>cases rx;exact SeqAt.EqAt.bool_bool a b
  | int b=>obtain⟨t,rfl⟩:=rx;exact SeqAt.EqAt.bool_int a b t
  | str b=>obtain⟨t,rfl⟩:=rx;exact SeqAt.EqAt.bool_str a b t
  | _=>exact absurd (show false=true from fx) D5
 | int a=>
  obtain⟨t',rfl⟩:=ry
  cases x with
  | non=>cases rx;exact SeqAt.EqAt.int_none a t'
  | bl b=>cases rx;exact SeqAt.EqAt.int_bool a t' b
  | int b=>obtain⟨t,rfl⟩:=rx;exact SeqAt.EqAt.int_int a t' b t
  | str b=>obtain⟨t,rfl⟩:=rx;exact SeqAt.EqAt.int_str a t' b t
  | _=>exact absurd (show false=true from fx) D5
 | str a=>
  obtain⟨t',rfl⟩:=ry
  cases x with
  | non=>cases rx;exact SeqAt.EqAt.str_none a t'
  | bl b=>cases rx;exact SeqAt.EqAt.str_bool a t' b
  | int b=>obtain⟨t,rfl⟩:=rx;exact SeqAt.EqAt.str_int a t' b t
  | str b=>obtain⟨t,rfl⟩:=rx;exact SeqAt.EqAt.str_str a t' b t
  | _=>exact absurd (show false=true from fx) D5
 | _=>exact absurd (show false=true from fy) D5
def QB(x:V)(u:Value):Bool:=match u with
 | .none=>KD .non x
 | .bool b=>KD (.bl b) x
 | .int i _=>KD (.int i) x
 | .str z _=>KD (.str z) x
 | _=>false
theorem Yg{x y:V}{u:Value}(r:RelV y u)(f:qI y=true):QB x u=KD y x:=by
 cases y with
 | non=>cases r;rfl
 | bl b=>cases r;rfl
 | int i=>obtain⟨t,rfl⟩:=r;rfl
 | str z=>obtain⟨t,rfl⟩:=r;rfl
 | _=>exact absurd (show false=true from f) D5
theorem Fz{x:V}:∀{xs:List V} {us:List Value},Vals xs us→xs.all qI=true→us.any (QB x)=xs.any λy=>KD y x
 | _,_,.nil,_=>rfl
 | y::xs,u::us,.cons r t,f=>by
  rw[d6,D7]at f
  rw[Q5,Q5,Yg r f.1,Fz t f.2]
theorem zA{A:Around}{s:Shared}{x:V}{v:Value}(rx:RelV x v)(fx:qI x=true):∀{xs:List V} {us:List Value},Vals xs us→xs.all qI=true→∀u∈us,SeqAt.EqAt A s u v (QB x u)
 | _,_,.nil,_=>λu hu=>by cases hu
 | y::xs,u::us,.cons r t,f=>λu' hu=>by
  rw[d6,D7]at f
  rcases C4.mp hu with rfl | hu
  ·rw[Yg r f.1];exact je r rx f.1 fx
  ·exact zA rx fx t f.2 u' hu
def inV(x:V)(xs:List V):Bool:=xs.any λy=>KD y x
def rIn(K:aA)(neg:Bool):R2:=λx y H Q=>∃p xs,y=.ref p∧(lH K H p xs∨mO K H p xs)∧qI x=true∧xs.all qI=true∧Q (.bl (if neg then !inV x xs else inV x xs)) H
theorem Ve:sU X (compareOp .In) (rIn X.K false):=by
 intro pins s σ H x y v u Q I rx ry h
 obtain⟨p,xs,rfl,hq,fx,fs,q⟩:=h
 cases ry
 rcases hq with hq | hq
 ·obtain⟨its,r,pl,hz⟩:=I.list hq
  refine SeqAt.in_listAt (QB x) pl.isList (λw hw=>zA rx fx r fs w (by simpa using hw)) ⟨.bl _,H,I,rfl,?_⟩
  rw[show its.toArray.any (QB x)=its.any (QB x) by simp,Fz r fs]
  exact q
 ·obtain⟨its,r,pl,hz⟩:=I.tuple hq
  refine SeqAt.in_tupleAt (QB x) pl (λw hw=>zA rx fx r fs w (by simpa using hw)) ⟨.bl _,H,I,rfl,?_⟩
  rw[show its.toArray.any (QB x)=its.any (QB x) by simp,Fz r fs]
  exact q
theorem Ga:gW X (.builtin "len") (λxs H Q=>∃p ys,xs=[.ref p]∧(lH X.K H p ys∨mO X.K H p ys)∧Q (.int ys.length) H):=by
 intro pins s σ H xs us Q I r h
 obtain⟨p,ys,rfl,hq,q⟩:=h
 obtain⟨u,rfl,rx⟩:=vals1 r
 cases rx
 have hn:=Fw
 rcases hq with hq | hq
 ·obtain⟨its,r',pl,hz⟩:=I.list hq
  have hlen:=r'.length
  exact Calls.call_len_list pl.isList (by simp only[B6]<;>omega) ⟨.int ys.length,H,I.tok _,⟨s.toks+1,by rw[B6,hlen]⟩,q⟩
 ·obtain⟨its,r',pl,hz⟩:=I.tuple hq
  have hlen:=r'.length
  exact len_tuple pl (by simp only[B6]<;>omega) ⟨.int ys.length,H,I.tok _,⟨s.toks+1,by rw[B6,hlen]⟩,q⟩
theorem Gb:gW X (.type "list") (λxs H Q=>∃p ys,xs=[.ref p]∧(lH X.K H p ys∨mO X.K H p ys)∧∀l,H l=none→Q (.ref l) (upd H l (.lst ys))):=by
 intro pins s σ H xs us Q I r h
 obtain⟨p,ys,rfl,hq,q⟩:=h
 obtain⟨u,rfl,rx⟩:=vals1 r
 cases rx
 have fin:∀(its:List Value),Vals ys its→ys.length≤sizeLine→∀(h':Heap)(c':Nat),(∀b o',s.heap.get? b=some o'→h'.get? b=some o') →
   h'.get? s.heap.objs.size=some {cls:=.type "list", dict:=none,data:=.seq its.toArray c',slots:=#[]}→EP X pins σ Q (.ref s.heap.objs.size) {s with heap:=h'}:=λits r' hz h' c' kp e=>
  ⟨.ref s.heap.objs.size,_,I.laid (t':=s.toks) kp (B4 _) (show cI X.prog X.w _ h' _ (.lst ys)from⟨hz,its,c',r',e⟩),rfl,q _ (I.hok.fresh (B4 _))⟩
 rcases hq with hq | hq
 ·obtain⟨its,r',pl,hz⟩:=I.list hq
  have hlen:=r'.length
  obtain⟨o,ho,hc,n,hd⟩:=pl.isList
  exact call_list_seq p (.inl rfl) ho hc hd (λh' c' kp e=>fin its r' hz h' c' kp e) (by simp only[B6]<;>omega)
 ·obtain⟨its,r',pl,hz⟩:=I.tuple hq
  have hlen:=r'.length
  obtain⟨o,ho,hc,n,hd⟩:=pl
  exact call_list_seq p (.inr rfl) ho hc hd (λh' c' kp e=>fin its r' hz h' c' kp e) (by simp only[B6]<;>omega)
theorem Ck:gW X (.type "tuple") (λxs H Q=>∃p ys,xs=[.ref p]∧((lH X.K H p ys∧∀l,H l=none→Q (.ref l) (upd H l (.tup ys)))∨(mO X.K H p ys∧Q (.ref p) H))):=by
 intro pins s σ H xs us Q I r h
 obtain⟨p,ys,rfl,h⟩:=h
 obtain⟨u,rfl,rx⟩:=vals1 r
 cases rx
 rcases h with ⟨hq,q⟩ | ⟨hq,q⟩
 ·obtain⟨its,r',pl,hz⟩:=I.list hq
  have hlen:=r'.length
  refine call_tuple_list pl.isList (λh' kp=>?_) (by simp only[B6]<;>omega)
  have I1:Inv X pins σ H {s with heap:=h'}:=I.kept (t':=s.toks) kp
  have I2:Inv X pins σ (upd H h'.objs.size (.tup ys)) {s with heap:=h'.push {cls:=.type "tuple", data:=.seq its.toArray}}:=
   I1.laid (t':=s.toks) (λb o e=>Heap.get?_push_of_some _ e) (B4 _) (show cI X.prog X.w _ _ _ (.tup ys)from⟨hz,its,r',IsTup.new _ _⟩)
  exact⟨.ref h'.objs.size,_,I2,rfl,q _ (I1.hok.fresh (B4 _))⟩
 ·obtain⟨its,r',pl,hz⟩:=I.tuple hq
  exact call_tuple_same pl ⟨.ref p,H,I,rfl,q⟩
def tyV(K:aA)(T:String)(x:V)(H:Hp):Prop:=match x with
 | .str _=>T = "str"
 | .int _=>T = "int"
 | .ref p=>(T = "list" ∧ ∃xs,lH K H p xs)∨(T = "tuple" ∧ ∃o,K.lookup p=some o∧o.cls=.type "tuple" ∧ o.dict=none) ∨
   (T = "dict" ∧ ((∃kvs,H p=some (.dK kvs))∨∃kvs,H p=some (.dT kvs)))∨(T = "set" ∧ ∃S n,H p=some (.set S n))
 | _=>False
theorem Yh{pins:List (Addr×Obj)}{σ:St}{H:Hp}{s:Shared}{T:String}{x:V}{v:Value}(I:Inv X pins σ H s)(r:RelV x v)(ty:tyV X.K T x H) :
  s.TypeIs v T∧∀a,v=.ref a→∃ob,s.heap.get? a=some ob∧ob.dict=none:=by
 cases x with
 | str z=>
  obtain⟨t,rfl⟩:=r
  cases(show T = "str" from ty)
  exact⟨typeIs_str s z t,λ_ e=>nomatch e⟩
 | int i=>
  obtain⟨t,rfl⟩:=r
  cases(show T = "int" from ty)
  exact⟨typeIs_int s i t,λ_ e=>nomatch e⟩
 | ref p=>
  cases r
  rcases ty with ⟨rfl,xs,hq⟩ | ⟨rfl,o,hk,hc,hd⟩ | ⟨rfl,hk⟩ | ⟨rfl,S,n,hk⟩
  ·obtain⟨its,_,pl,_⟩:=I.list hq
   refine⟨pl.isList.typeIs,λa e=>?_⟩
   cases e
   obtain⟨o,n,e,c,hd,_⟩:=pl
   exact⟨o,e,hd⟩
  ·refine⟨⟨o,I.Di p o hk,hc⟩,λa e=>?_⟩
   cases e
   exact⟨o,I.Di _ o hk,hd⟩
  ·have z:∃o,s.heap.get? p=some o∧o.ExactDict:=by
    rcases hk with ⟨kvs,hk⟩ | ⟨kvs,hk⟩
    ·obtain⟨_,_,_,_,o,_,_,e,ex,_⟩:=I.hok p _ hk
     exact⟨o,e,ex⟩
    ·obtain⟨_,_,_,_,o,_,_,e,ex,_⟩:=I.hok p _ hk
     exact⟨o,e,ex⟩
   obtain⟨o,e,ex⟩:=z
   refine⟨⟨o,e,ex.1⟩,λa e2=>?_⟩
   cases e2
   exact⟨o,e,ex.2.1⟩
  ·obtain⟨o,_,_,_,e,ex,_⟩:=I.hok p _ hk
   refine⟨⟨o,e,ex.1⟩,λa e2=>?_⟩
   cases e2
   exact⟨o,e,ex.2.1⟩
 | _=>exact False.elim ty
def Vf(K:aA)(T:String)(r:V→List V→Hp→VK→Prop)(to:TE):TE:=λσ H Q=>to σ H λx H1=>tyV K T x H1∧r x [] H1 Q
def tBM(K:aA)(T:String)(r:V→List V→Hp→VK→Prop)(to:TE)(t:TA):TE:=λσ H Q=>to σ H λx H1=>tyV K T x H1∧t σ H1 λxs H2=>r x xs H2 Q
variable{o e:Expr}{es:List Expr}{to:TE}{t:TA}{name:Str}{apos cpos:Pos}{T id:String}{r:V→List V→Hp→VK→Prop}
theorem jf(pa:PlainAttrs T)(slot:Slot T name id)(hty:typeOf (.builtin id)=pure (.type "method_descriptor")) (hm:MtR X id r) (ho:PE X o to)
  (hbase:attributeBase o name X.env (eval o X.env)=eval o X.env:=by rfl) (hline:(apos.endLine==cpos.line)=true:=by rfl):PE X (.Call (.Attribute o name apos) [] [] cpos) (Vf X.K T r to):=by
 intro pins s σ H Q I h
 refine wpAny_Call_method0_late hbase hline (eE (ho pins s σ H _ I h) λv s1 ⟨x,H1,I1,r1,ty,q1⟩=>?_)
 obtain⟨h1,h2⟩:=Yh I1 r1 ty
 exact⟨T,id,pa,slot,hty,h1,h2,Calls.callWith_builtin rfl (PySem.evalArgs_none (hm pins s1 σ H1 x [] v [] Q I1 r1 .nil q1))⟩
theorem xG(pa:PlainAttrs T)(slot:Slot T name id)(hty:typeOf (.builtin id)=pure (.type "method_descriptor")) (hm:MtR X id r) (ho:PE X o to) (ha:PA X (e::es) t)
  (hbase:attributeBase o name X.env (eval o X.env)=eval o X.env:=by rfl)
  (hfew:((backTo cpos (starEach (e::es) X.env)).all (λx=>!x.1)&&(backToKw cpos (keywordEach [] X.env)).all (λx=>x.1.isSome)
   && decide ((e::es).length+([]:List Keyword).length+(if([]:List Keyword).isEmpty then 0 else 1)<30))=true:=by rfl)
  (hline:(apos.endLine==cpos.line)=true:=by rfl) (hs:starEach (e::es) X.env=(false,eval e X.env)::starEach es X.env:=by rfl) (hplain:(backTo cpos (starEach es X.env)).any (·.1)=false:=by rfl) :
  PE X (.Call (.Attribute o name apos) (e::es) [] cpos) (tBM X.K T r to t):=by
 intro pins s σ H Q I h
 refine wpAny_Call_method_late hbase hfew hline rfl (eE (ho pins s σ H _ I h) λv s1 ⟨x,H1,I1,r1,ty,q1⟩=>?_)
 obtain⟨h1,h2⟩:=Yh I1 r1 ty
 refine⟨T,id,pa,slot,hty,h1,h2,?_⟩
 have hA:=ha cpos pins s1 σ H1 _ I1 q1
 rw[hs]at hA ⊢
 refine Calls.callWith_builtin (by show (false||(backTo cpos (starEach es X.env)).any (·.1))=false;rw[hplain]<;>rfl) (Calls.evalArgs_plain ?_)
 exact eE hA λus s2 ⟨vs,H2,I2,r2,q2⟩=>hm pins s2 σ H2 x vs v us Q I2 r1 r2 q2
end
end L2
namespace L2
open PySem PySem.Spec PyProof.Rows
def MtM(X:Cx)(id:String)(r:V→List V→Hp→VK→Prop):Prop:=
 ∀(pins:List (Addr×Obj))(s:Shared)(σ:St)(H:Hp)(x:V)(xs:List V)(v:Value)(us:List Value)(Q:VK),Inv X pins σ H s→RelV x v→Vals xs us→r x xs H Q →
  wpAny (model X.prog X.w) X.A (call (.builtin id) (v::us)) (EP X pins σ Q) X.xe s
theorem Vals.one:∀{x:V} {us:List Value},Vals [x] us→∃u,us=[u]∧RelV x u
 | _,_,.cons r .nil=>⟨_,rfl,r⟩
theorem Vals.zero:∀{us:List Value},Vals [] us→us=[]
 | _,.nil=>rfl
theorem Vals.dropLast{xs:List V}{us:List Value}(h:Vals xs us):Vals xs.dropLast us.dropLast:=by
 induction h with
 | nil=>exact .nil
 | cons r t ih=>
  cases t with
  | nil=>exact .nil
  | cons q t'=>exact .cons r ih
theorem Nq{α:Type}(l:List α):l.eraseIdx (l.length-1)=l.dropLast:=by
 induction l with
 | nil=>rfl
 | cons a r ih=>
  cases r with
  | nil=>rfl
  | cons b r=>
   have e:(a::b::r).length-1=((b::r).length-1)+1:=by
    have h1:(a::b::r).length=r.length+2:=rfl
    have h2:(b::r).length=r.length+1:=rfl
    omega
   rw[e,T9,ih]
   all_goals rfl
section
variable{X:Cx}{pins:List (Addr×Obj)}{σ:St}{H:Hp}{s:Shared}{l b:Addr}{xs ys zs:List V}
theorem Inv.zj{its its':List Value}{n:Nat}{f:Array Value→Array Value}{t':Nat}(I:Inv X pins σ H s)(hH:H l=some (.lst xs))
  (e:s.heap.get? l=some {cls:=.type "list", data:=.seq its.toArray n}) (hf:f its.toArray=its'.toArray) (hv:Vals ys its') (hz:ys.length≤sizeLine) :
  Inv X pins σ (upd H l (.lst ys)) {s with heap:=s.heap.update l (Obj.mapSeq f),toks:=t'}:=by
 have q:=PySem.IsL.update e f
 rw[hf]at q
 refine I.write (x:=l) (e:=l) (by rw[hH];exact trivial) (.inl rfl) (λb' u hb hu=>(Heap.get?_update_other s.heap (Obj.mapSeq f) (Ne.symm hb)).trans hu) ⟨_,q⟩ ?_
 exact⟨hz,its',_,hv,q⟩
theorem Inv.zm{its:List Value}{t':Nat}(I:Inv X pins σ H s)(hv:Vals ys its)(hz:ys.length≤sizeLine) :
  Inv X pins σ (upd H s.heap.objs.size (.lst ys)) {s with heap:=s.heap.push {cls:=.type "list", data:=.seq its.toArray},toks:=t'}:=
 I.laid (λ_ _ q=>Heap.get?_push_of_some _ q) (B4 _) ⟨hz,its,0,hv,Heap.get?_push_size _ rfl⟩
theorem Inv.fresh(I:Inv X pins σ H s):H s.heap.objs.size=none:=I.hok.fresh (B4 _)
theorem Inv.zp(I:Inv X pins σ H s)(hH:H l=some (.lst xs)):xs.length≤sizeLine∧∃(its:List Value)(n:Nat),Vals xs its∧xs.length=its.length∧s.heap.get? l=some {cls:=.type "list", data:=.seq its.toArray n}:=by
 obtain⟨z,its,n,r,e⟩:=I.hok l _ hH
 exact⟨z,its,n,r,r.length,e⟩
end
section
variable{X:Cx}
def yG:V→List V→Hp→VK→Prop:=λx vs H Q=>∃l xs y,x=.ref l∧vs=[y]∧H l=some (.lst xs)∧xs.length<sizeLine∧Q .non (upd H l (.lst (xs++[y])))
theorem fV:MtM X "list.append" yG:=by
 intro pins s σ H x vs v us Q I rx rv h
 obtain⟨l,xs,y,rfl,rfl,hH,hz,q⟩:=h
 cases rx
 obtain⟨u,rfl,ru⟩:=rv.one
 obtain⟨z,its,n,r,hl,e⟩:=I.zp hH
 refine call_meets F.slot_list_append ⟨_,e,rfl⟩ F.entry_list_append (F.args_list_append_2 _ _) (PySem.list_append l its.toArray n u (by rw[B6];omega)) ⟨e,?_⟩
 refine⟨.non,_,I.zj (its':=its++[u]) hH e (by simp) (r.append (.cons ru .nil)) ?_,rfl,q⟩
 rw[C7,List.length_singleton]
 omega
def Vg:V→List V→Hp→VK→Prop:=λx vs H Q=>∃l xs y,x=.ref l∧vs=[]∧H l=some (.lst xs)∧xs[xs.length-1]?=some y∧Q y (upd H l (.lst xs.dropLast))
theorem jg:MtM X "list.pop" Vg:=by
 intro pins s σ H x vs v us Q I rx rv h
 obtain⟨l,xs,y,rfl,rfl,hH,hy,q⟩:=h
 cases rx
 have hus:=rv.zero
 subst hus
 obtain⟨z,its,n,r,hl,e⟩:=I.zp hH
 obtain⟨u,hu,ru⟩:=r.get hy
 have hy':its.toArray[its.toArray.size-1]?=some u:=by
  show its.toArray[its.length-1]?=some u
  rw[←E9,←hl]
  exact hu
 refine call_meets F.slot_list_pop ⟨_,e,rfl⟩ F.entry_list_pop (F.args_list_pop_1 _) (MeetsSeq.list_pop_last l its.toArray n u hy' (by rw[B6];omega)) ⟨e,?_⟩
 refine⟨y,_,I.zj (its':=its.dropLast) hH e ?_ r.dropLast ?_,ru,q⟩
 ·show its.toArray.eraseIdxIfInBounds (its.toArray.size-1)=its.dropLast.toArray
  rw[B6,List.eraseIdxIfInBounds_toArray,Nq]
 ·rw[List.length_dropLast]
  omega
end
section
variable{prog:Program}{w:World}{A:Around}{E:Value→Shared→Prop}{s:Shared}
end
section
variable{X:Cx}
end
end L2
namespace L2
open PySem PySem.Spec PyProof.Rows
section
variable{κ:Type} [DecidableEq κ]
def sV(kvs:List (κ×V))(k:κ):Option V:=(kvs.find? λkv=>decide (kv.1=k)).map (·.2)
def putK(kvs:List (κ×V))(k:κ)(v:V):List (κ×V):=
 if(kvs.any λkv=>decide (kv.1=k))=true then kvs.map (λkv=>if kv.1=k then(kv.1,v)else kv)else kvs++[(k,v)]
def aCa(kvs:List (κ×V))(k:κ):List (κ×V):=kvs.filter λkv=>decide (kv.1≠k)
theorem zB{p:κ×V}{r:List (κ×V)}{k:κ}(e:p.1=k):sV (p::r) k=some p.2:=by simp[sV,N0,e]
theorem zF{p:κ×V}{r:List (κ×V)}{k:κ}(e:¬p.1=k):sV (p::r) k=sV r k:=by simp[sV,N0,e]
theorem zG(k:κ):∀kvs:List (κ×V),(kvs.any λkv=>decide (kv.1=k))=(sV kvs k).isSome
 | []=>rfl
 | p::r=>by
  rw[Q5]
  by_cases e:p.1=k
  ·simp only[zB e,decide_eq_true e,Bool.true_or,Option.isSome_some]
  ·rw[zF e,decide_eq_false e,Bool.false_or];exact zG k r
theorem xH(kvs:List (κ×V))(k:κ)(v:V):(putK kvs k v).length≤kvs.length+1:=by
 unfold putK
 split
 ·rw[B5];omega
 ·rw[C7,E7,List.length_nil];omega
theorem yR.oE{o:Option V}{u:Option Value}(r:yR o u):o.isSome=u.isSome:=by
 cases o with
 | none=>cases u with
  | none=>rfl
  | some _=>exact(show False from r).elim
 | some _=>cases u with
  | none=>exact(show False from r).elim
  | some _=>rfl
theorem KV.val{kvs:List (κ×V)}{vs:List (κ×Value)}(r:KV kvs vs)(k:κ):yR (sV kvs k) (valueAt vs k):=by
 unfold KV at r
 induction r with
 | nil=>exact True.intro
 | @cons p q ps qs h t ih=>
  obtain⟨h1,h2⟩:=h
  by_cases e:p.1=k
  ·have e':q.1=k:=h1.symm.trans e
   have b:valueAt (q::qs) k=some q.2:=by simp[valueAt,N0,e']
   rw[zB e,b];exact h2
  ·have e':¬q.1=k:=λz=>e (h1.trans z)
   have b:valueAt (q::qs) k=valueAt qs k:=by simp[valueAt,N0,e']
   rw[zF e,b];exact ih
theorem KV.any{kvs:List (κ×V)}{vs:List (κ×Value)}(r:KV kvs vs)(k:κ):(kvs.any λkv=>decide (kv.1=k))=vs.any λkv=>decide (kv.1=k):=by
 unfold KV at r
 induction r with
 | nil=>rfl
 | cons h t ih=>rw[Q5,Q5,ih,h.1]
theorem KV.repl{kvs:List (κ×V)}{vs:List (κ×Value)}(r:KV kvs vs)(k:κ){y:V}{u:Value}(ry:RelV y u) :
  KV (kvs.map λkv=>if kv.1=k then(kv.1,y)else kv) (vs.map λkv=>if kv.1=k then(kv.1,u)else kv):=by
 unfold KV at r ⊢
 induction r with
 | nil=>exact .nil
 | @cons p q ps qs h t ih=>
  rw[D4,D4]
  refine .cons ?_ ih
  obtain⟨h1,h2⟩:=h
  by_cases e:p.1=k
  ·rw[if_pos e,if_pos (h1.symm.trans e)];exact⟨h1,ry⟩
  ·rw[if_neg e,if_neg (λz=>e (h1.trans z))];exact⟨h1,h2⟩
theorem KV.put{kvs:List (κ×V)}{vs:List (κ×Value)}(r:KV kvs vs)(k:κ){y:V}{u:Value}(ry:RelV y u):KV (putK kvs k y) (stored vs k u):=by
 unfold putK stored
 rw[r.any k]
 by_cases e:(vs.any λkv=>decide (kv.1=k))=true
 ·rw[if_pos e,if_pos e];exact r.repl k ry
 ·rw[if_neg e,if_neg e];exact Paired.snoc r ⟨rfl,ry⟩
theorem KV.keys{kvs:List (κ×V)}{vs:List (κ×Value)}(r:KV kvs vs):kvs.map (·.1)=vs.map (·.1):=by
 unfold KV at r
 induction r with
 | nil=>rfl
 | cons h t ih=>rw[D4,D4,ih,h.1]
theorem KV.length{kvs:List (κ×V)}{vs:List (κ×Value)}(r:KV kvs vs):kvs.length=vs.length:=Paired.length r
end
theorem Jm{P:Program}{w:World}{k:Key}{u:Value}(r:RelV (kV k) u):(cQ P w).is k u=true:=by
 cases k with
 | inl i=>obtain⟨t,e⟩:=(show ∃t,u=Value.int i t from r);subst e;exact Jb P w i t
 | inr x=>obtain⟨t,e⟩:=(show ∃t,u=Value.str x t from r);subst e;exact Jc P w x t
theorem Dt{P:Program}{w:World}:∀{ks:List Key} {us:List Value},Vals (ks.map kV) us→ItemsAre (cQ P w) ks us
 | [],_,r=>by rw[G5]at r;cases r;exact .nil
 | k::ks,_,r=>by
  rw[D4]at r
  cases r with
  | cons h t=>exact .cons (Jm h) (Dt t)
abbrev KT(H:Hp):List (List Key×V)→List (List Key×Addr×Value)→Prop:=Paired λp q=>p.1=q.1∧H q.2.1=some (.tup (p.1.map kV))∧RelV p.2 q.2.2
theorem KT.val{H:Hp}{kvs:List (List Key×V)}{xs:List (List Key×Addr×Value)}(r:KT H kvs xs)(k:List Key):yR (sV kvs k) ((atKey xs k).map (·.2)):=by
 induction r with
 | nil=>exact True.intro
 | @cons p q ps qs h t ih=>
  obtain⟨h1,_,h2⟩:=h
  by_cases e:p.1=k
  ·have e':q.1=k:=h1.symm.trans e
   have b:atKey (q::qs) k=some q.2:=by simp[atKey,N0,e']
   rw[zB e,b];exact h2
  ·have e':¬q.1=k:=λz=>e (h1.trans z)
   have b:atKey (q::qs) k=atKey qs k:=by simp[atKey,N0,e']
   rw[zF e,b];exact ih
theorem KT.repl{H:Hp}{kvs:List (List Key×V)}{xs:List (List Key×Addr×Value)}(r:KT H kvs xs)(k:List Key){y:V}{u:Value}(ry:RelV y u) :
  KT H (kvs.map λkv=>if kv.1=k then(kv.1,y)else kv) (xs.map (putAt k u)):=by
 induction r with
 | nil=>exact .nil
 | @cons p q ps qs h t ih=>
  rw[D4,D4]
  refine .cons ?_ ih
  obtain⟨h1,h2,h3⟩:=h
  unfold putAt
  by_cases e:p.1=k
  ·rw[if_pos e,if_pos (h1.symm.trans e)];exact⟨h1,h2,ry⟩
  ·rw[if_neg e,if_neg (λz=>e (h1.trans z))];exact⟨h1,h2,h3⟩
theorem KT.put{H:Hp}{kvs:List (List Key×V)}{xs:List (List Key×Addr×Value)}(r:KT H kvs xs)(k:List Key){b:Addr}{y:V}{u:Value}(hb:H b=some (.tup (k.map kV)))(ry:RelV y u) :
  KT H (putK kvs k y) (storedH xs k b u):=by
 have e:(kvs.any λkv=>decide (kv.1=k))=(atKey xs k).isSome:=by
  rw[zG,(r.val k).oE,S7]
 unfold putK storedH
 rw[e]
 by_cases q:(atKey xs k).isSome=true
 ·rw[if_pos q,if_pos q];exact r.repl k ry
 ·rw[if_neg q,if_neg q];exact Paired.snoc r ⟨rfl,hb,ry⟩
theorem KT.keeps{H H':Hp}{kvs:List (List Key×V)}{xs:List (List Key×Addr×Value)}(r:KT H kvs xs)(ht:∀b ys,H b=some (.tup ys)→H' b=some (.tup ys)):KT H' kvs xs:=
 Paired.au r λ_ _ z=>⟨z.1,ht _ _ z.2.1,z.2.2⟩
section
variable{P:Program}{w:World}{H:Hp}{h:Heap}{a:Addr}
theorem XS{u:HO}(ok:tD P w H h)(e:Rd H a u):cI P w H h a u:=e.ok ok
theorem xJ{kvs:List (Key×V)}(ok:tD P w H h)(e:Rd H a (.dK kvs)):kvs.length≤sizeLine∧(a==sysModules)=false∧∃vs,KV kvs vs∧h.DictOf (cQ P w) a vs:=
 show cI P w H h a (.dK kvs)from XS ok e
theorem zq{kvs:List (Key×V)}(ok:tD P w H h)(e:H a=some (.dK kvs)):kvs.length≤sizeLine∧(a==sysModules)=false∧∃vs,KV kvs vs∧h.DictOf (cQ P w) a vs:=xJ ok (.inl e)
theorem zH{ks:List Key}(ok:tD P w H h)(e:H a=some (.tup (ks.map kV))):(tupleKind (cQ P w)).is h ks a:=by
 obtain⟨_,its,r,o,h1,h2,n,h3⟩:=(show cI P w H h a (.tup (ks.map kV))from ok a _ e)
 exact⟨o,its.toArray,n,h1,h2,h3,by simpa using Dt r⟩
theorem Jo{kvs:List (List Key×V)}(ok:tD P w H h)(e:Rd H a (.dT kvs)):kvs.length≤sizeLine∧(a==sysModules)=false ∧
  ∃xs,KT H kvs xs∧h.DictOfH (tupleKind (cQ P w)) a xs:=by
 obtain⟨z,y,xs,r,o,es,ep,h1,h2,h3,h4,h5⟩:=(show cI P w H h a (.dT kvs)from XS ok e)
 refine⟨z,y,xs,r,o,es,ep,h1,h2,h3,h4,λx hx=>?_,h5⟩
 have all:∀{l:List (List Key×V)} {m:List (List Key×Addr×Value)},KT H l m→∀x∈m,(tupleKind (cQ P w)).is h x.1 x.2.1:=by
  intro l m q
  induction q with
  | nil=>intro x hx;exact nomatch hx
  | @cons p q ps qs hq t ih=>
   intro x hx
   rcases C4.mp hx with e | hx
   ·subst e
    exact zH ok (by rw[←hq.1];exact hq.2.1)
   ·exact ih x hx
 exact all r x hx
theorem zr{kvs:List (List Key×V)}(ok:tD P w H h)(e:H a=some (.dT kvs)):kvs.length≤sizeLine∧(a==sysModules)=false ∧
  ∃xs,KT H kvs xs∧h.DictOfH (tupleKind (cQ P w)) a xs:=Jo ok (.inl e)
end
def Jp(H:Hp)(a:Addr)(y:V)(r:Option V):Prop:=
 (∃kvs k,Rd H a (.dK kvs)∧y=kV k∧r=sV kvs k)∨∃kvs k b,Rd H a (.dT kvs)∧y=.ref b∧H b=some (.tup (k.map kV))∧r=sV kvs k
def zu(H:Hp)(a:Addr)(y v:V)(H':Hp):Prop:=
 (∃kvs k,H a=some (.dK kvs)∧y=kV k∧kvs.length<sizeLine∧H'=upd H a (.dK (putK kvs k v))) ∨
 ∃kvs k b,H a=some (.dT kvs)∧y=.ref b∧H b=some (.tup (k.map kV))∧kvs.length<sizeLine∧H'=upd H a (.dT (putK kvs k v))
section
variable{X:Cx}{pins:List (Addr×Obj)}{σ:St}{H:Hp}{s:Shared}{a:Addr}{y v:V}{u r:Value}{o:Option V}{A:Around}{E:Value→Shared→Prop}
theorem Inv.big(I:Inv X pins σ H s):sysModules<s.heap.objs.size:=by
 have h:mainGlobals<s.heap.objs.size:=(I.mod.glob.keeps I.bk).lt
 exact Nat.lt_trans (by decide) h
theorem Vh{Q:Value→Shared→Prop}(hu:A.units+1<cLine)(I:Inv X pins σ H s)(g:Jp H a y (some v))(ry:RelV y u)(h:∀w' s',Inv X pins σ H s'→RelV v w'→Q w' s') :
  wpAny (model X.prog X.w) A (getItem (.ref a) u) Q E s:=by
 rcases g with ⟨kvs,k,e,ey,l⟩ | ⟨kvs,k,b,e,ey,eb,l⟩
 ·subst ey
  obtain⟨z,hd,vs,rel,dd⟩:=xJ I.hok e
  obtain⟨w',hw,PN⟩:=yR.some_of (v:=v) (o:=valueAt vs k) (by rw[l];exact rel.val k)
  exact wpAny_getItem_of (Jm ry) dd.mapOf hw (h w' _ (I.tok _) PN)
 ·subst ey
  cases(show u=Value.ref b from ry)
  obtain⟨z,hd,xs,rel,dd⟩:=Jo I.hok e
  obtain⟨w',hw,PN⟩:=yR.some_of (v:=v) (o:=(atKey xs k).map (·.2)) (by rw[l];exact rel.val k)
  obtain⟨p,hp,hp2⟩:=iT hw
  refine wpAny_getItem_heap (tupleKind_room_in1 hu) (zH I.hok eb) dd hp ?_
  rw[hp2]
  exact h w' _ (I.tok _) PN
theorem aBs{Q:Value→Shared→Prop}(hu:A.units+1<cLine)(I:Inv X pins σ H s)(g:Jp H a y o)(ry:RelV y u)(h:∀s',Inv X pins σ H s'→Q (.bool o.isSome) s') :
  wpAny (model X.prog X.w) A (compareOp .In u (.ref a)) Q E s:=by
 rcases g with ⟨kvs,k,e,ey,l⟩ | ⟨kvs,k,b,e,ey,eb,l⟩
 ·subst ey
  obtain⟨z,hd,vs,rel,dd⟩:=xJ I.hok e
  refine wpAny_in_of (Jm ry) hd dd.mapOf ?_
  rw[←(rel.val k).oE,←l]
  exact h _ (I.tok _)
 ·subst ey
  cases(show u=Value.ref b from ry)
  obtain⟨z,hd,xs,rel,dd⟩:=Jo I.hok e
  refine wpAny_in_heap (tupleKind_room_in1 hu) (zH I.hok eb) hd dd ?_
  have q:=(rel.val k).oE
  rw[S7]at q
  rw[←q,←l]
  exact h _ (I.tok _)
theorem QC{Q:Value→Shared→Prop}(hu:A.units+1<cLine)(I:Inv X pins σ H s)(g:Jp H a y o)(ry:RelV y u)(h:∀s',Inv X pins σ H s'→Q (.bool (!o.isSome)) s') :
  wpAny (model X.prog X.w) A (compareOp .NotIn u (.ref a)) Q E s:=by
 rcases g with ⟨kvs,k,e,ey,l⟩ | ⟨kvs,k,b,e,ey,eb,l⟩
 ·subst ey
  obtain⟨z,hd,vs,rel,dd⟩:=xJ I.hok e
  refine wpAny_notIn_of (Jm ry) hd dd.mapOf ?_
  rw[←(rel.val k).oE,←l]
  exact h _ (I.tok _)
 ·subst ey
  cases(show u=Value.ref b from ry)
  obtain⟨z,hd,xs,rel,dd⟩:=Jo I.hok e
  refine wpAny_notIn_heap (tupleKind_room_in1 hu) (zH I.hok eb) hd dd ?_
  have q:=(rel.val k).oE
  rw[S7]at q
  rw[←q,←l]
  exact h _ (I.tok _)
theorem Rr{h':Heap}{t':Nat}{ob:HO}(I:Inv X pins σ H s)(mu:KQ (H a))(hs:Heap.SameBut a s.heap h')(he:∃q,h'.get? a=some q)(new:cI X.prog X.w (upd H a ob) h' a ob) :
  Inv X pins σ (upd H a ob) {s with heap:=h',toks:=t'}:=
 I.write (x:=a) (e:=a) mu (.inl rfl) (λb q hb z=>(hs.2 b hb).trans z) he new
theorem Yi{P:Program}{w:World}{H':Hp}{h':Heap}{kvs:List (Key×V)}{vs:List (Key×Value)}(z:kvs.length≤sizeLine)(hd:(a==sysModules)=false)(rel:KV kvs vs)(dd:h'.DictOf (cQ P w) a vs) :
  cI P w H' h' a (.dK kvs):=⟨z,hd,vs,rel,dd⟩
theorem Vi{H':Hp}{Q:Unit→Shared→Prop}(hu:A.units+1<cLine)(I:Inv X pins σ H s)(g:zu H a y v H')(ry:RelV y u)(rv:RelV v r)(h:∀s',Inv X pins σ H' s'→Q () s') :
  wpAny (model X.prog X.w) A (setItem (.ref a) u r) Q E s:=by
 rcases g with ⟨kvs,k,e,ey,l,eH⟩ | ⟨kvs,k,b,e,ey,eb,l,eH⟩
 ·subst ey eH
  obtain⟨z,hd,vs,rel,dd⟩:=zq I.hok e
  have hz:vs.length≤sizeLine:=by rw[←rel.length];exact z
  have hl:(putK kvs k v).length≤sizeLine:=by have:=xH kvs k v;omega
  refine wpAny_setItem_pairs (hsz:=hz) (Jm ry) dd λh' vz hs=>h _ ?_
  have he:∃q,h'.get? a=some q:=let ⟨q,_,_,hq,_⟩:=vz;⟨q,hq⟩
  exact Rr I (by rw[e];exact True.intro) hs he (Yi hl hd (rel.put k rv) vz)
 ·subst ey eH
  cases(show u=Value.ref b from ry)
  obtain⟨z,hd,xs,rel,dd⟩:=zr I.hok e
  have hz:xs.length≤sizeLine:=by rw[←Paired.length rel];exact z
  have hl:(putK kvs k v).length≤sizeLine:=by have:=xH kvs k v;omega
  refine wpAny_setItem_heap (hsz:=hz) (tupleKind_room_in1 hu) (zH I.hok eb) dd λh' vz hs=>h _ ?_
  obtain⟨q,es,ep,hq,h2,h3,h4,_,h5⟩:=vz
  refine Rr I (by rw[e];exact True.intro) hs ⟨q,hq⟩ ⟨hl,hd,_,(rel.put k eb rv).keeps λc ys ec=>?_,q,es,ep,hq,h2,h3,h4,h5⟩
  rw[aQ (xn ec e (λz=>nomatch z))]
  exact ec
end
section
variable{X:Cx}{pins:List (Addr×Obj)}{σ:St}{H:Hp}{s:Shared}{a:Addr}{kvs:List (Key×V)}{k:Key}{u:Value}{A:Around}{E:Value→Shared→Prop}
end
def jh(i:Expr):Prop:=∀ov iv,subscripted i false ov iv=operate [ov,iv] (getItem ov iv)
theorem QD{prog:Program}{w:World}{A:Around}{E:Value→Shared→Prop}{s:Shared}{env:Env}{value slice:Expr}{pos:Pos}{T id:String}{Q:Value→Shared→Prop}
  (hl:typeLookup (.type T) "__getitem__" = pure (some (.builtin id))) (hs:jh slice)
  (h:wpAny (model prog w) A (eval value env) (λo s₁=>wpAny (model prog w) A (eval slice env) (λi s₂=>s₂.TypeIs o T∧wpAny (model prog w) A (getItem o i) Q E s₂) E s₁) E s) :
  wpAny (model prog w) A (eval (.Subscript value slice pos) env) Q E s:=by
 refine Subscript_ (wpAny_mono h (λo s₁ h₁=>wpAny_mono h₁ (λi s₂ h₂=>?_) λ_ _ x=>x) λ_ _ x=>x)
 obtain⟨hT,h₂⟩:=h₂
 unfold subscriptTail
 refine wpAny_bind ?_
 rw[getitemInPython_of_ne hT.not_modules]
 refine wpAny_bind (wpAny_specialOf hT hl ?_)
 have fin:wpAny (model prog w) A (subscripted slice false o i) (λr s₃=>wpAny (model prog w) A (letTemporaryGo value o r >>= λ_=>pure r) Q E s₃) E s₂:=by
  rw[hs o i]
  exact wpAny_operating (wpAny_mono h₂ (λr s₃ h₃=>wpAny_bind (wpAny_letTemporaryGo (wpAny_pure h₃))) λ_ _ x=>x)
 first
  | exact wpAny_pure (wpAny_bind fin)
  | exact wpAny_bind (wpAny_pure (wpAny_bind fin))
  | exact wpAny_bind fin
theorem Jq{X:Cx}{pins:List (Addr×Obj)}{σ:St}{H:Hp}{s:Shared}{a:Addr}{y:V}{o:Option V}(I:Inv X pins σ H s)(g:Jp H a y o):s.TypeIs (.ref a) "dict" := by
 rcases g with ⟨kvs,k,e,_,_⟩ | ⟨kvs,k,b,e,_,_,_⟩
 ·obtain⟨_,_,vs,_,dd⟩:=xJ I.hok e
  exact dd.typeIs
 ·obtain⟨_,_,xs,_,dd⟩:=Jo I.hok e
  exact dd.typeIs
def XX(td ty:TE):TE:=λσ H Q=>td σ H λx H1=>ty σ H1 λy H2=>∃a v,x=.ref a∧Jp H2 a y (some v)∧Q v H2
def ji(ty td:TE):TE:=λσ H Q=>ty σ H λy H1=>td σ H1 λx H2=>∃a o,x=.ref a∧Jp H2 a y o∧Q (.bl o.isSome) H2
def Gd(ty td:TE):TE:=λσ H Q=>ty σ H λy H1=>td σ H1 λx H2=>∃a o,x=.ref a∧Jp H2 a y o∧Q (.bl (!o.isSome)) H2
def Rt(td ty tv:TE):TS:=λD σ H=>tv σ H λv H1=>td σ H1 λx H2=>ty σ H2 λy H3=>∃a H4,x=.ref a∧zu H3 a y v H4∧D.nx σ H4
section
variable{X:Cx}{o i e value:Expr}{pos pos' tpos:Pos}{td ty tv:TE}
theorem QF(hu:X.A.units+1<cLine)(ho:PE X o td)(hi:PE X i ty)(hs:jh i):PE X (.Subscript o i pos) (XX td ty):=by
 intro pins s σ H Q I h
 refine QD PySem.F.slot_dict_getitem.lookup hs (eE (ho pins s σ H _ I h) λu s1 ⟨x,H1,I1,rx,q1⟩=>eE (hi pins s1 σ H1 _ I1 q1) λiv s2 ⟨y,H2,I2,ry,a,v,ex,g,q2⟩=>?_)
 subst ex
 obtain rfl:u=Value.ref a:=rx
 exact⟨Jq I2 g,Vh hu I2 g ry λw' s3 I3 PN=>⟨v,H2,I3,PN,q2⟩⟩
theorem Yj(hu:X.A.units+1<cLine)(hi:PE X i ty)(ho:PE X o td):PC X .In i o (ji ty td):=by
 intro pins s σ H Q I h
 refine eE (hi pins s σ H _ I h) λiv s1 ⟨y,H1,I1,ry,q1⟩=>eE (ho pins s1 σ H1 _ I1 q1) λu s2 ⟨x,H2,I2,rx,a,ov,ex,g,q2⟩=>?_
 subst ex
 obtain rfl:u=Value.ref a:=rx
 exact aBs hu I2 g ry λs3 I3=>⟨.bl ov.isSome,H2,I3,rfl,q2⟩
theorem Du(hu:X.A.units+1<cLine)(hi:PE X i ty)(ho:PE X o td):PC X .NotIn i o (Gd ty td):=by
 intro pins s σ H Q I h
 refine eE (hi pins s σ H _ I h) λiv s1 ⟨y,H1,I1,ry,q1⟩=>eE (ho pins s1 σ H1 _ I1 q1) λu s2 ⟨x,H2,I2,rx,a,ov,ex,g,q2⟩=>?_
 subst ex
 obtain rfl:u=Value.ref a:=rx
 exact QC hu I2 g ry λs3 I3=>⟨.bl (!ov.isSome),H2,I3,rfl,q2⟩
theorem jY(hu:X.A.units+1<cLine)(ho:PE X o td)(hi:PE X i ty)(hv:PE X value tv)(hs:swapsWith value (some (.Subscript o i pos')) pos.line X.env=pure false) :
  PS X (.Assign [.Subscript o i pos'] value pos) (Rt td ty tv):=by
 intro pins s σ H D I h
 refine wpAny_Assign_Subscript (eE (hv pins s σ H _ I h) λr s1 ⟨v,H1,I1,rv,q1⟩=>eE (ho pins s1 σ H1 _ I1 q1) λu s2 ⟨x,H2,I2,rx,q2⟩=>eE (hi pins s2 σ H2 _ I2 q2) λiv s3 ⟨y,H3,I3,ry,a,H4,ex,g,q3⟩=>?_) hs
 subst ex
 obtain rfl:u=Value.ref a:=rx
 exact Vi hu I3 g ry rv λs4 I4=>⟨σ,H4,I4,q3⟩
end
theorem Yk{P:Program}{w:World}{H:Hp}(h:Heap)(hb:sysModules<h.objs.size):cI P w H (h.push {cls:=.type "dict", data:=.dict #[]}) h.objs.size (.dK []):=
 ⟨G9 _,beq_eq_false_iff_ne.mpr (Ne.symm (C9 hb)),[],.nil,Heap.DictOf.new h⟩
def Nr:TE:=λ_ H Q=>∀p,H p=none→Q (.ref p) (upd H p (.dK []))
section
variable{X:Cx}{pos:Pos}
theorem Yl:PE X (.Dict [] [] pos) Nr:=λpins s σ H Q I h=>
 wpAny_Dict_empty ⟨.ref s.heap.objs.size,_,I.laid (a:=s.heap.objs.size) (o:=.dK []) (t':=s.toks) (λ_ _ q=>Heap.get?_push_of_some _ q) (B4 _) (Yk s.heap I.big),rfl,h _ (I.hok.fresh (B4 _))⟩
end
def Nt:List (TE×TE)→St→Hp→(List (V×V)→Hp→Prop)→Prop
 | [],_,H,Q=>Q [] H
 | (tk,tv)::r,σ,H,Q=>tk σ H λx H1=>tv σ H1 λy H2=>Nt r σ H2 λps H3=>Q ((x,y)::ps) H3
abbrev VV:List (V×V)→List (Value×Value)→Prop:=Paired λp q=>RelV p.1 q.1∧RelV p.2 q.2
def PPs(X:Cx)(pos:Pos)(keys:List (Option Expr))(values:List Expr)(trs:List (TE×TE)):Prop:=
 ∀(pins:List (Addr×Obj))(s:Shared)(σ:St)(H:Hp)(Q:List (V×V)→Hp→Prop),Inv X pins σ H s→Nt trs σ H Q →
  wpAny (model X.prog X.w) X.A (evalPairs (pairTrees keys values X.env pos)) (λvs s'=>∃ps H',Inv X pins σ H' s'∧VV ps vs∧Q ps H') X.xe s
structure M1(X:Cx)(o:Expr)(m:Str)(apos:Pos)(e:Expr)(cpos:Pos):Prop where
 base:attributeBase o m X.env (eval o X.env)=eval o X.env
 few:((backTo cpos (starEach [e] X.env)).all (λx=>!x.1)&&(backToKw cpos (keywordEach [] X.env)).all (λx=>x.1.isSome)
  && decide (([e]:List Expr).length+([]:List Keyword).length+(if([]:List Keyword).isEmpty then 0 else 1)<30))=true
 line:(apos.endLine==cpos.line)=true
 trees:backTo cpos (starEach [e] X.env)=[(false,eval e X.env)]
structure M2(X:Cx)(o:Expr)(m:Str)(apos:Pos)(e f:Expr)(cpos:Pos):Prop where
 base:attributeBase o m X.env (eval o X.env)=eval o X.env
 few:((backTo cpos (starEach [e,f] X.env)).all (λx=>!x.1)&&(backToKw cpos (keywordEach [] X.env)).all (λx=>x.1.isSome)
  && decide (([e,f]:List Expr).length+([]:List Keyword).length+(if([]:List Keyword).isEmpty then 0 else 1)<30))=true
 line:(apos.endLine==cpos.line)=true
 trees:backTo cpos (starEach [e,f] X.env)=[(false,eval e X.env),(false,eval f X.env)]
section
variable{X:Cx}{pins:List (Addr×Obj)}{σ:St}{H:Hp}{s:Shared}{a:Addr}{y d:V}{u r:Value}{o:Option V}{A:Around}{E:Value→Shared→Prop}
end
section
variable{X:Cx}{o e f:Expr}{apos cpos:Pos}{td ty tx:TE}
end
section
variable{X:Cx}{pins:List (Addr×Obj)}{σ:St}{H:Hp}{s:Shared}{a:Addr}{kvs:List (Key×V)}{A:Around}{E:Value→Shared→Prop}
theorem Ym{Q:Value→Shared→Prop}(I:Inv X pins σ H s)(e:Rd H a (.dK kvs))(h:∀p s',H p=none→Inv X pins σ (upd H p (.dK kvs)) s'→Q (.ref p) s'):wpAny (model X.prog X.w) A (call (.type "dict") [.ref a]) Q E s:=by
 obtain⟨z,hd,vs,rel,dd⟩:=xJ I.hok e
 refine kt_call_dict hd dd (by rw[←rel.length];exact z) λh' vz hs=>?_
 refine h _ _ (I.hok.fresh (B4 _)) (I.laid (a:=s.heap.objs.size) (o:=.dK kvs) (t':=s.toks) (λb q hq=>?_) (B4 _) (Yi z (beq_eq_false_iff_ne.mpr (Ne.symm (C9 I.big))) rel vz))
 exact(hs.2 b (C9 (Heap.lt_size hq))).trans (Heap.get?_push_of_some _ hq)
end
section
variable{X:Cx}{pins:List (Addr×Obj)}{σ:St}{H:Hp}{s:Shared}{a:Addr}{y:V}{u:Value}{A:Around}{E:Value→Shared→Prop}
end
end L2
namespace Att
open PySem PySem.W PySem.Calls PyProof.Rows
theorem xV{P:Params}{h:Heap}:∀(ns:List Int)(vs:List Value),WellAll P h vs (ns.map WData.int)→IntsAre vs ns:=by
 intro ns
 induction ns with
 | nil=>
  intro vs w
  rw[G5]at w
  cases w
  exact .nil
 | cons n ns ih=>
  intro vs w
  rw[D4]at w
  cases w with
  | cons a b=>
   cases a
   exact .cons _ _ (ih _ b)
theorem Vj{l:OpenLaw}{n:Nat}(hn:l.most=some n){P:Params}{h:Heap}{args:List WData}{vals:List Value}
  (hpre:l.row.toRowW.claim.pre args=true) (hwl:WellAll P h vals args) :
  ∃a vs ns,vals=[Value.ref a]∧args=[WData.list (ns.map WData.int)]∧h.get? a=some {cls:=.type "list", data:=.seq vs.toArray}∧IntsAre vs ns∧ns.length≤n:=by
 have hsh:WShape.hasAll [] args [.list .int]=true:=(pre_splitW hpre).1
 have hc:l.pre.holds [] {args:=args}=true:=(pre_splitW hpre).2
 obtain⟨d,r,rfl,h1,h2⟩:=hasAllW_cons hsh
 obtain rfl:=hasAllW_nil h2
 obtain⟨xs,rfl,h3⟩:=hasW_list h1
 obtain⟨ns,rfl⟩:=items_int h3
 have hlen:ns.length≤n:=by
  unfold OpenLaw.pre at hc
  have h4:(WTm.not (.lt (.lit (.int (n:Int))) (.len (.arg 0)))).holds [] {args:=[.list (ns.map .int)]}=true:=by
   have h4:=(holds_andW hc).1
   rw[hn]at h4
   exact h4
  have h5:=condW_of h4 (w_not (w_lt w_lit (w_len_list (w_arg rfl))))
  rw[B5]at h5
  refine Nat.le_of_not_lt λq=>?_
  have q':(n:Int)<((ns.length:Nat):Int):=by omega
  first
   | (rw[decide_eq_true q']at h5;exact absurd h5 (by decide))
   | (simp at h5;omega)
 cases hwl with
 | cons w1 w2=>
  cases w2
  cases w1 with
  | list ho hall=>exact⟨_,_,ns,rfl,rfl,ho,xV ns _ hall,hlen⟩
theorem Vk(l:OpenLaw)(args:List WData):l.row.toRowW.claim.post args (.bool true) args=true:=
 postW_of (r:=l.row.toRowW) (X:=(true==true))
  (show WShape.has [] (.bool true) .bool=true by first | rfl | decide | simp[WShape.has,WShape.arms,WShape.armsAll])
  (show (WTm.eq .res (.lit (.bool true))).value [] {args:=args,res:=some (.bool true),after:=args}=some (.bool (true==true))from w_eq_bool (w_res rfl) w_lit) rfl
section
variable{prog:Program}{w:World}{A:Around}{E:Value→Shared→Prop}{s:Shared}{K:Frag}
end
end Att
namespace L2
open PySem PySem.Spec PyProof.Rows
theorem rN:∀{vs:List Value} {ns:List Int},IntsAre vs ns→Vals (ns.map V.int) vs
 | _,_,.nil=>.nil
 | _,_,.cons n t h=>.cons ⟨t,rfl⟩ (rN h)
theorem Ge{h:Heap}{c P:Addr}(x:b9 h c P):isCodeTable h P:=by
 obtain⟨o,vs,file,tf,flags,tg,inF,text,tt,e1,e2,e3,e4,_⟩:=x
 exact⟨c,o,vs,e1,e2,e3,e4⟩
def Only(H:Hp):Prop:=∀b,H b=none∨(∃o xs,H b=some (.qG o (.lst xs)))∨∃qs,H b=some (.tbl qs)
def QG(K:aA)(h:Heap):Prop:=∃P c,(∀c,F7 K (.ref c) "wanted_by_turn" = true→Q6 K c P=true)∧h.get? P=some (c0 #[])∧K.lookup P=none∧b9 h c P
theorem Yn{P:Program}{w:World}{K:aA}{mg mb:Str→Option Value}{CX:Vb}{k:Nat}{fa a:Addr}{fd:FuncData}{x:Str}{sp:Sp}{s₁:Shared}{vs:List Value}{ns:List Int}
  (KX:K.In s₁.heap) (TH:QG K s₁.heap) (hbm:xr mg s₁.heap) (hns:s₁.heap.Ns mainGlobals mg) (hb:s₁.heap.Ns builtinsNs mb) (hbb:∀x:Str,x ≠ "__name__" → mb x=bootBuiltins x) (hlim:s₁.heap.NoLimit) (hg:s₁.gens=#[])
  (ha:s₁.heap.get? a=some {cls:=.type "list", data:=.seq vs.toArray}) (hi:IntsAre vs ns) (hl:ns.length≤sizeLine) (hr:jU k callerA)
  (F:∀base:Heap,K.In base→base.Ns mainGlobals mg→uH P w K mg base CX k fa fd [x] sp) (hbind:∀(s:Shared)(u:Value),BindsTo s fd ⟨[u],[]⟩ [(x,u)])
  (hsp:∀H:Hp,Only H→lH K H a (ns.map V.int)→sp [.ref a] H (λv _=>v=.bl true) λ_ _ _=>False)
  (hCX:∀H e s',CX [] H s₁ (λ_ _ _=>False) e s'→False) :
  codeAny (model P w) callerA (.call (.ref fa) ⟨[.ref a],[]⟩) (λr s'=>r=.ok (.ret (.bool true))∧OldK s₁.heap s'.heap∧s'.os=s₁.os∧AllBare s'.gens) s₁:=by
 have rv:=rN hi
 have lenV:=hi.length
 obtain⟨T,cT,hT1,hT2,hT3,hT4⟩:=TH
 have hTa:T≠a:=λz=>by subst z;rw[ha]at hT2;cases hT2
 have tq:(#[Value.str "wanted_by_turn.<locals>.<lambda>" 0]:Array Value)[0]?=some (.str "wanted_by_turn.<locals>.<lambda>" 0):=rfl
 have core:∀H:Hp,Only H→lH K H a (ns.map V.int)→tD P w H s₁.heap→(∀b,H b≠none→b=a∨b=T)→(H a≠none→K.lookup a=none)→H T=some (.tbl #[.str "wanted_by_turn.<locals>.<lambda>" 0]) →
   codeAny (model P w) callerA (.call (.ref fa) ⟨[.ref a],[]⟩) (λr s'=>r=.ok (.ret (.bool true))∧OldK s₁.heap s'.heap∧s'.os=s₁.os∧AllBare s'.gens) s₁:=by
  intro H hO hS hok hA hK hHT
  have Gf:∀{b:Addr} {o:Obj},s₁.heap.get? b=some o→H b=none→(Fg s₁.heap H).get? b=some o:=λe n=>Xn e n
  have NZ:∀{b:Addr} {o:Obj} {es:Array DictEntry} {ep:Nat},s₁.heap.get? b=some o→o.data=.dict es ep→H b=none:=λ{b o es ep} e d=>by
   cases q:H b with
   | none=>rfl
   | some u=>
    rcases hA b (by rw[q];simp)with e' | e'
    ·subst e'
     rw[ha]at e;cases e
     have d':Data.seq vs.toArray _=Data.dict es ep:=d
     cases d'
    ·subst e'
     rw[hT2]at e;cases e
     have d':Data.fields #[]=Data.dict es ep:=d
     cases d'
  have nsK:∀{b:Addr} {m:Str→Option Value},s₁.heap.Ns b m→(Fg s₁.heap H).Ns b m:=λ{b m} ⟨o,es,ep,e,d,r⟩=>⟨o,es,ep,Gf e (NZ e d),d,r⟩
  have hKb:K.In (Fg s₁.heap H):=λb o e=>Gf (KX b o e) (by
   cases q:H b with
   | none=>rfl
   | some u=>
    rcases hA b (by rw[q];simp)with e' | e'
    ·subst e'
     rw[hK (by rw[q];simp)]at e;cases e
    ·subst e'
     rw[hT3]at e;cases e)
  have hM:Mod K mg (Fg s₁.heap H):=⟨hKb,nsK hns,⟨mb,nsK hb,hbb⟩,let ⟨mc,h1,h2⟩:=hlim;⟨mc,nsK h1,h2⟩,by
   obtain⟨bm,ob,b1,b2,b3,b4,b5,b6⟩:=hbm
   refine⟨bm,ob,b1,b2,Gf b3 ?_,b4,b5,b6⟩
   cases q:H bm with
   | none=>rfl
   | some u=>
    rcases hA bm (by rw[q];simp)with e' | e'
    ·rw[e',ha]at b3;cases b3;cases b6
    ·rw[e',hT2]at b3;cases b3;cases b6⟩
  have e0:NP P w K mg (Fg s₁.heap H) callerA [] s₁ H:=⟨rfl,hM,λb o e=>KR e,T1 (Ut _ _),trivial,λb hb=>absurd (show b∈([]:List Addr)from hb) (by simp),hok,.of_eq hg,λc hc=>⟨T,_,0,hT1 c hc,hHT,tq⟩⟩
  refine codeAny_mono ((F _ hKb (nsK hns)).run callerA [] s₁ H ⟨[.ref a],[]⟩ [.ref a] [.ref a] _ _ hr e0 (hbind s₁ (.ref a)) (.cons rfl .nil) (hsp H hO hS)) λr s' h=>?_
  cases r with
  | error e=>exact(hCX H e s' h).elim
  | ok fl=>
   cases fl with
   | next=>exact False.elim h
   | brk=>exact False.elim h
   | cont=>exact False.elim h
   | ret u=>
    obtain⟨v,H',os,bare,un,hok',r',q⟩:=h
    have q':v=.bl true:=q
    subst q'
    obtain rfl:u=Value.bool true:=r'
    refine⟨rfl,⟨λb o e=>?_,λb o e=>un.there b o e (by simp)⟩,os,bare⟩
    cases q:H b with
    | none=>exact .inl (un.keep b o e q (by intro z;exact absurd (show b∈([]:List Addr)from z) (by simp)) (by simp))
    | some u=>
     rcases hO b with z | ⟨ob,xs,z⟩ | ⟨qs,z⟩
     ·rw[q]at z;cases z
     ·have z2:=un.Ff b ob _ z
      obtain⟨e1,_⟩:=hok b _ z
      obtain⟨e2,_⟩:=hok' b _ z2
      rw[e]at e1;cases e1
      exact .inl e2
     ·have hbT:b=T:=by
       rcases hA b (by rw[q];simp)with e' | e'
       ·subst e'
        obtain⟨ps,e1,_⟩:=hok b _ z
        rw[ha]at e1;cases e1
       ·exact e'
      subst hbT
      rw[hT2]at e;cases e
      obtain⟨more,z2⟩:=un.Cg b qs z
      obtain⟨ps,e2,_⟩:=hok' b _ z2
      exact .inr (.inl ⟨Ge hT4,rfl,#[],ps,rfl,by rw[e2];simp⟩)
 have zy:∀H:Hp,cI P w H s₁.heap T (.tbl #[.str "wanted_by_turn.<locals>.<lambda>" 0]):=λH=>⟨#[],hT2,trivial,λpos c hc=>by
  have hc':(none:Option Value)=some c:=hc
  cases hc'⟩
 cases hk:K.lookup a with
 | some o=>
  have e:=KX a o hk
  rw[ha]at e
  cases e
  refine core (λb=>if b=T then some (.tbl #[.str "wanted_by_turn.<locals>.<lambda>" 0])else none) (λb=>?_) (.inr ⟨_,vs.toArray,_,hk,rfl,rfl,rfl,by rw[B6,lenV];exact hl,by simpa using rv⟩) (λb u z=>?_) (λb z=>?_) (λz=>absurd (if_neg (Ne.symm hTa)) z) (if_pos rfl)
  ·by_cases hbT:b=T
   ·exact .inr (.inr ⟨_,if_pos hbT⟩)
   ·exact .inl (if_neg hbT)
  ·by_cases hbT:b=T
   ·have z':=(if_pos hbT).symm.trans z
    cases z'
    subst hbT
    exact zy _
   ·have z':=(if_neg hbT).symm.trans z
    cases z'
  ·by_cases hbT:b=T
   ·exact .inr hbT
   ·exact absurd (if_neg hbT) z
 | none=>
  refine core (λb=>if b=T then some (.tbl #[.str "wanted_by_turn.<locals>.<lambda>" 0])else if b=a then some (.qG {cls:=.type "list", data:=.seq vs.toArray} (.lst (ns.map V.int)))else none) (λb=>?_) (.inl (.inr ⟨{cls:=.type "list", data:=.seq vs.toArray},(if_neg (Ne.symm hTa)).trans (if_pos rfl)⟩)) (λb u z=>?_) (λb z=>?_) (λ_=>hk) (if_pos rfl)
  ·by_cases hbT:b=T
   ·exact .inr (.inr ⟨_,if_pos hbT⟩)
   ·by_cases hb:b=a
    ·exact .inr (.inl ⟨_,_,(if_neg hbT).trans (if_pos hb)⟩)
    ·exact .inl ((if_neg hbT).trans (if_neg hb))
  ·by_cases hbT:b=T
   ·have z':=(if_pos hbT).symm.trans z
    cases z'
    subst hbT
    exact zy _
   ·by_cases hb:b=a
    ·have z':=((if_neg hbT).trans (if_pos hb)).symm.trans z
     cases z'
     subst hb
     exact⟨ha,by rw[B5];exact hl,vs,_,rv,ha⟩
    ·have z':=((if_neg hbT).trans (if_neg hb)).symm.trans z
     cases z'
  ·by_cases hbT:b=T
   ·exact .inr hbT
   ·by_cases hb:b=a
    ·exact .inl hb
    ·exact absurd ((if_neg hbT).trans (if_neg hb)) z
end L2
namespace L2
open PySem PySem.Spec PyProof.Rows
end L2
namespace L2
open PySem PySem.Spec PyProof.Rows
def eU(s:Stmt):Arguments:=match s with
 | .FunctionDef _ a _ _ _ _ _ _ _ _=>a
 | _=>{posonlyargs:=[],args:=[],vararg:=none,kwonlyargs:=[],kw_defaults:=[],kwarg:=none,defaults:=[]}
def cA(s:Stmt):List Stmt:=match s with
 | .FunctionDef _ _ b _ _ _ _ _ _ _=>b
 | _=>[]
def aJ(s:Stmt):Scope:=match s with
 | .FunctionDef _ _ _ _ _ _ sc _ _ _=>sc
 | _=>{kind:=.function,names:=[],isGenerator:=false,isCoroutine:=false}
abbrev Nu:Vb:=λ_ _ _ _ _ _=>False
abbrev E0:XK:=λ_ _ _=>False
theorem aAa{X:Cx}:Passes Nu X E0:=λ_ _ _ _ _ _ _ h=>h.elim
structure Xm(K:aA)(x qual:Str)(st:Stmt)(f:Addr)(fd:FuncData):Prop where
 ex:∃(oc:Value)(od:Option Addr)(kV doc pm:Value)(an:Option Addr)(cdv ct:Value)(osl:Array (Option Value)),
  fd=G4 x qual (eU st) (cA st) (aJ st) .none kV doc pm an cdv ct∧K.lookup f=some ⟨oc,od,.func fd,osl⟩∧F7 K cdv qual=true
 kp:L0 K (.ref f)=true
section
variable{P:Program}{w:World}{K:aA}{mg:Str→Option Value}{base:Heap}
theorem Xm.ok{x qual:Str}{st:Stmt}{f:Addr}{fd:FuncData}{N ps:List Str}{k:Nat}{sp:Sp}(F:Xm K x qual st f fd)(S:aZ N ps (aJ st))(len:∀vs H Q E,sp vs H Q E→vs.length=ps.length)
  (hbody:∀(cdv:Value)(A:Around)(outer:List Env)(s:Shared)(H:Hp)(vs:List V)(Q:VK)(E:XK),jU k (A.deeper (envOfC qual (aJ st) s.heap.objs.size f cdv))→sp vs H Q E →
   ∃t,Iw (yV Nu P w K mg base N qual (aJ st) f cdv A outer s H E).JZ (cA st) t∧t {nx:=λ_ H'=>Q .non H',rt:=Q} (start N vs) H):uH P w K mg base Nu (k+1) f fd ps sp:=by
 obtain⟨oc,od,kV,doc,pm,an,cdv,ct,osl,rfl,lk,hcd⟩:=F.ex
 refine XH lk hcd S len λA outer s H vs Q E hr hsp=>?_
 obtain⟨t,h,q⟩:=hbody cdv A outer s H vs Q E hr hsp
 exact⟨t,h.JZ,q⟩
theorem Xm.binds{x qual:Str}{st:Stmt}{f:Addr}{fd:FuncData}{ps:List Str}(F:Xm K x qual st f fd)
  (h:∀(kV doc pm:Value)(an:Option Addr)(cdv ct:Value)(us:List Value),us.length=ps.length→bindArgs (G4 x qual (eU st) (cA st) (aJ st) .none kV doc pm an cdv ct) ⟨us,[]⟩=pure (ps.zip us)):Binds K fd ps []:=by
 obtain⟨oc,od,kV,doc,pm,an,cdv,ct,osl,rfl,lk,hcd⟩:=F.ex
 exact .all (h kV doc pm an cdv ct)
theorem jj{x qual:Str}{st:Stmt}{f:Addr}{oc:Value}{od an:Option Addr}{osl:Array (Option Value)}{kV doc pm cdv ct:Value}(l:K.lookup f=some ⟨oc,od,.func (G4 x qual (eU st) (cA st) (aJ st) .none kV doc pm an cdv ct),osl⟩)
  (c:F7 K cdv qual=true) (k:L0 K (.ref f)=true):Xm K x qual st f (G4 x qual (eU st) (cA st) (aJ st) .none kV doc pm an cdv ct):=⟨⟨oc,od,kV,doc,pm,an,cdv,ct,osl,rfl,l,c⟩,k⟩
end
theorem dW{A:Around}{k:Nat}(hr:jU k A):A.units+1<cLine:=R8 (Nat.add_le_add_left (by decide:1≤64) _) hr.units
theorem oF{n:Nat}(h:n≤1000):n<sizeLine:=R8 h (by decide)
section
variable{X:Cx}
theorem pv(i:Nat){x:Str}{pos:Pos}(hN:X.N[i]?=some x:=by rfl)(hv:xu X.env.scope x:=by first | exact D2 rfl | exact D3 (D2 rfl) | exact D3 (D3 rfl))(hd:(x==("__debug__" : Str))=false:=by decide)
  (hcd:(x==("__classdict__" : Str))=false:=by decide):PE X (.Name x pos) (sS i):=bc hN hv hd hcd
end
def aN(H H':Hp):Prop:=∀b o,H b=some o→H' b=some o
theorem aN.refl(H:Hp):aN H H:=λ_ _ h=>h
theorem aN.trans{H H1 H2:Hp}(a:aN H H1)(b:aN H1 H2):aN H H2:=λc o h=>b c o (a c o h)
theorem aN.free{H H':Hp}(e:aN H H'){l:Addr}(h:H' l=f9):H l=f9:=by
 cases q:H l with
 | none=>rfl
 | some o=>
  rw[e l o q]at h
  cases h
theorem aN.seq{K:aA}{H H':Hp}{a:Addr}{xs:List V}(e:aN H H')(h:lH K H a xs):lH K H' a xs:=by
 rcases h with (h | ⟨o,h⟩) | h
 ·exact .inl (.inl (e _ _ h))
 ·exact .inl (.inr ⟨o,e _ _ h⟩)
 ·exact .inr h
section
variable{κ:Type} [DecidableEq κ]
theorem Ru:∀{l:List κ} {k:κ},l.Nodup→¬k∈l→(l++[k]).Nodup
 | [],k,_,_=>by simp
 | a::r,k,h,hk=>by
  obtain⟨h1,h2⟩:=K0.mp h
  show (a::(r++[k])).Nodup
  refine K0.mpr ⟨λm=>?_,Ru h2 λm=>hk (C4.mpr (D3 m))⟩
  rcases D9.mp m with q | q
  ·exact h1 q
  ·exact hk (C4.mpr (D2 (C6.mp q).symm))
end
end L2


namespace L2
open PySem PySem.Spec PyProof.Rows
theorem tQ(env:Env):∀(names:List (Str×NameKind))(acc:List (Str×Addr)),(∀x∈names,x.2=.free→∃c,env.cells.lookup x.1=some c) →
    ∃cl:List (Str×Addr),(forIn names acc (λ(x:Str×NameKind) (r:List (Str×Addr))=>(match x with
      | (name,kind)=>if(kind==.free)=true then do let c ←cellOf env name;pure (ForInStep.yield ((name,c)::r))else pure (ForInStep.yield r):Sem (ForInStep (List (Str×Addr))))))=pure cl ∧
      (∀x c,cl.lookup x=some c→(∃k,(x,k)∈names∧k=.free∧env.cells.lookup x=some c)∨acc.lookup x=some c) ∧
      (∀x,(x,NameKind.free)∈names→∃c,cl.lookup x=some c)∧(∀x c,acc.lookup x=some c→∃c',cl.lookup x=some c')
  | [],acc,_=>⟨acc,rfl,λx c h=>.inr h,λx h=>by simp at h,λx c h=>⟨c,h⟩⟩
  | (n,k)::r,acc,h=>by
    rw[List.forIn_cons]
    by_cases hk:k=.free
    · subst hk
      obtain⟨c,hc⟩:=h (n,.free) B9 rfl
      obtain⟨cl,e,h1,h2,h3⟩:=tQ env r ((n,c)::acc) λx hx=>h x (B7 _ hx)
      refine⟨cl,?_,λx d hd=>?_,λx hx=>?_,λx d hd=>?_⟩
      · have e0:cellOf env n=pure c:=by unfold cellOf;rw[hc]
        simp only[beq_self_eq_true,if_true,e0,pure_bind]
        exact e
      · rcases h1 x d hd with ⟨k',m,q⟩ | q
        · exact .inl ⟨k',B7 _ m,q⟩
        · rw[O7]at q
          by_cases e:x==n
          · rw[e]at q
            have e':=eq_of_beq e
            subst e'
            cases q
            exact .inl ⟨.free,B9,rfl,hc⟩
          · have e':(x==n)=false:=by simpa using e
            rw[e']at q
            exact .inr q
      · rcases C4.mp hx with q | q
        · cases q
          exact h3 n c (by simp)
        · exact h2 x q
      · by_cases e:x==n
        · exact h3 x c (by rw[O7,e])
        · have e':(x==n)=false:=by simpa using e
          exact h3 x d (by rw[O7,e'];exact hd)
    · obtain⟨cl,e,h1,h2,h3⟩:=tQ env r acc λx hx=>h x (B7 _ hx)
      have hb:(k==NameKind.free)=false:=by simpa using hk
      refine⟨cl,?_,λx d hd=>?_,λx hx=>?_,h3⟩
      · simp only[hb,K5,if_false,pure_bind]
        exact e
      · rcases h1 x d hd with ⟨k',m,q⟩ | q
        · exact .inl ⟨k',B7 _ m,q⟩
        · exact .inr q
      · rcases C4.mp hx with q | q
        · cases q
          exact absurd rfl hk
        · exact h2 x q
theorem nJ(scope:Scope)(env:Env)(h:∀x∈scope.names,x.2=.free→∃c,env.cells.lookup x.1=some c) :
    ∃cl,closureFor scope env=pure cl∧(∀x c,cl.lookup x=some c→(x,NameKind.free)∈scope.names∧env.cells.lookup x=some c)∧∀x,(x,NameKind.free)∈scope.names→∃c,cl.lookup x=some c:=by
  obtain⟨cl,e,h1,h2,_⟩:=tQ env scope.names [] h
  refine⟨cl,?_,λx c hx=>?_,h2⟩
  · unfold closureFor
    exact(congrArg (λt=>t >>= pure) e).trans (pure_bind _ _)
  · rcases h1 x c hx with ⟨k,m,rfl,q⟩ | q
    · exact⟨m,q⟩
    · simp at q
theorem Gg{scope:Scope}{env:Env}(hcell:∀y∈scope.names,y.2≠.cell){x:Str}(h:(relabel scope env).names.lookup x=some .cell∨(relabel scope env).names.lookup x=some .free):(x,NameKind.free)∈scope.names:=by
 have m:(x,NameKind.cell)∈(relabel scope env).names∨(x,NameKind.free)∈(relabel scope env).names:=by
  rcases h with h | h
  ·exact .inl (J3 h)
  ·exact .inr (J3 h)
 unfold relabel at m
 rcases m with m | m
 all_goals
  obtain⟨⟨n,k⟩,hm,e⟩:=E2.mp m
  dsimp only at e
  split at e
  ·rename_i hc
   simp only[D7,beq_iff_eq]at hc
   cases e
   first
    | (rw[hc.1.1]at hm;exact hm)
    | skip
  ·cases e
   first
    | exact hm
    | exact absurd rfl (hcell _ hm)
def eG(X:Cx)(scope:Scope)(N:List Str)(cl:List (Str×Addr))(fp:List Addr)(s:Shared)(H:Hp)(C:Addr):Cx where
 prog:=X.prog
 w:=X.w
 K:=X.K
 mg:=X.mg
 base:=X.base
 A:=X.A
 N:=N
 s₀:=s
 H₀:=H
 env:=compEnvC scope cl C X.env
 outer:=X.stack
 stack:=X.stack
 ex:=fp
 calm:=X.calm
 fn:=λ_=>false
 pn:=[]
 xe:=λ_ _=>False
def uJ(σ:St)(fr:List Nat):St:=fr.map λi=>σ.getD i none
def blk(k:Nat)(σ:St)(fr:List Nat):St:=E8 k none++uJ σ fr
def Kp(k:Nat)(σ:St)(fr:List Nat)(σ2:St):Prop:=σ2.length=(blk k σ fr).length∧∀(j:Nat) v,(blk k σ fr)[j]?=some (some v)→σ2[j]?=some (some v)
def jk(X:Cx)(ifs:List Expr)(t:TT):Prop:=
 ∀(pins:List (Addr×Obj))(s:Shared)(σ:St)(H:Hp)(Q:Bool→Hp→Prop),Inv X pins σ H s→t σ H Q →
  wpAny (model X.prog X.w) X.A (forIn ifs true λc r=>if r=true then do let ok ←isTrue c X.env (eval c X.env);pure (ForInStep.yield ok)else pure (ForInStep.yield r)) (TP X pins σ Q) X.xe s
def aAb:TT:=λ_ H Q=>Q true H
theorem QH{X:Cx}:jk X [] aAb:=λ_ _ _ H _ I h=>wpAny_tests_nil ⟨H,I,h⟩
theorem QJ{X:Cx}{c:Expr}{t:TT}(h:PT X c t):jk X [c] t:=λpins s σ H Q I q=>wpAny_tests_one (h pins s σ H Q I q)
theorem sW{prog:Program}{w:World}{A:Around}{R:Result→Shared→Prop}{s:Shared}{elt target iter:Expr}{ifs:List Expr}{scope:Scope}{pos:Pos}{it acc:Value}{env:Env}(I:Nat→Shared→Prop)
  (turn:∀n s,I n s→wpAny (model prog w) A (pyNext it) (λr s₁=>match r with
   | none=>R (.ok .next) s₁
   | some v=>wpAny (model prog w) A (letOwnedTupleGo target it v) (λ_ s₀=>wpAny (model prog w) A (assign target env v) (λ_ s₂=>
     wpAny (model prog w) A (forIn ifs true λc r=>if r=true then do let ok ←isTrue c env (eval c env);pure (ForInStep.yield ok)else pure (ForInStep.yield r)) (λok s₃=>
      if ok=true then wpAny (model prog w) A (eval elt env) (λx s₄=>
       wpAny (model prog w) A (call (.builtin "list.append") [acc,x]) (λ_ s₅=>∃m,m<n∧I m s₅) (λ_ _=>False) s₄) (λ_ _=>False) s₃
      else ∃m,m<n∧I m s₃) (λ_ _=>False) s₂) (λ_ _=>False) s₀) (λ_ _=>False) s₁) (λ_ _=>False) s)
  (n:Nat) (h:I n s) :
  codeAny (model prog w) A (.compLoop (.ListComp elt [⟨target,iter,ifs,0⟩] scope pos) 0 it acc env) R s:=by
 refine codeAny_loop rfl I (λn s hI=>?_) n h
 show wpAny _ A ((compTurn (.ListComp elt [⟨target,iter,ifs,0⟩] scope pos) 0 it acc env).onRaise (λx=>do noteFrame x env;theTreesLotGoes x)) _ _ s
 refine wpAny_noted ?_
 rw[compTurn_list]
 refine wpAny_mono (E:=λ_ _=>False) ?_ (λ_ _ q=>q) λ_ _ x=>x.elim
 refine wpAny_bind (wpAny_standAt (wpAny_bind (wpAny_mono (turn n s hI) (λr s₁ h₁=>?_) λ_ _ h'=>h')))
 cases r with
 | none=>exact wpAny_pure h₁
 | some v=>
  refine wpAny_bind (wpAny_mono h₁ (λ_ s₀ h₀=>?_) λ_ _ h'=>h')
  refine wpAny_bind (wpAny_mono h₀ (λ_ s₂ h₂=>wpAny_bind (wpAny_mono h₂ (λok s₃ h₃=>?_) λ_ _ h'=>h')) λ_ _ h'=>h')
  cases ok with
  | false=>exact wpAny_pure ⟨rfl,h₃⟩
  | true=>
   exact wpAny_bind (wpAny_bind (wpAny_mono h₃ (λx s₄ h₄=>wpAny_bind (wpAny_mono h₄ (λ_ s₅ h₅=>wpAny_pure (wpAny_pure ⟨rfl,h₅⟩)) λ_ _ h'=>h')) λ_ _ h'=>h'))
def YC(J:It)(k:Nat)(fr:List Nat)(g:TG)(tc:TT)(te:TE)(σ:St)(H1:Hp)(Q:VK)(D:Addr):Prop:=∃W:Nat→Nat→List V→Hp→Prop,(∃m,W 0 m [] (upd H1 D (.lst []))) ∧
 ∀i m ys H,W i m ys H→H D=some (.lst ys)∧((J.stop i H∧Q (.ref D) H)∨(J.go i H∧∀x H',J.yh i H x H'→g x (blk k σ fr) H' λσ2 H2=>Kp k σ fr σ2∧tc σ2 H2 λok H3=>if ok=true then
  te σ2 H3 λy H4=>H4 D=some (.lst ys)∧ys.length<sizeLine∧∃m',m'<m∧W (i+1) m' (ys++[y]) (upd H4 D (.lst (ys++[y])))else ∃m',m'<m∧W (i+1) m' ys H3))
def Jr(wi:TI)(k:Nat)(fr:List Nat)(g:TG)(tc:TT)(te:TE):TE:=λσ H Q=>wi σ H λJ H1=>∀D,H1 D=none→YC J k fr g tc te σ H1 Q D
def gY(scope tR:Scope):Scope:=
 {scope with names:=scope.names.map λ(n,k)=>if(k==.free&&tR.kind==.function&&tR.names.lookup n==some .cell)then(n,.cell)else(n,k)}
structure fO(tR scope:Scope)(oN N:List Str)(k:Nat)(fr:List Nat):Prop where
 kind:scope.kind=.function
 cell:∀y∈scope.names,y.2≠.cell
 loc:∀y∈scope.names,y.2=.local→scope.names.lookup y.1=some .local
 free:∀y∈scope.names,y.2=.free→tR.names.lookup y.1=some .cell∨tR.names.lookup y.1=some .free
 len:N.length=k+fr.length
 slots:∀j∈D6 fr.length,oN[fr.getD j 0]?=N[k+j]?
 from_:∀x∈N.drop k,(x,NameKind.free)∈scope.names∧((gY scope tR).names.lookup x=some .cell∨(gY scope tR).names.lookup x=some .free)
def Yo(tR scope:Scope)(oN N:List Str)(k:Nat)(fr:List Nat):Bool:=
 decide (scope.kind=.function)&&decide (∀y∈scope.names,y.2≠.cell)&&decide (∀y∈scope.names,y.2=.local→scope.names.lookup y.1=some .local) &&
 decide (∀y∈scope.names,y.2=.free→tR.names.lookup y.1=some .cell∨tR.names.lookup y.1=some .free)&&decide (N.length=k+fr.length) &&
 decide (∀j∈D6 fr.length,oN[fr.getD j 0]?=N[k+j]?) &&
 decide (∀x∈N.drop k,(x,NameKind.free)∈scope.names∧((gY scope tR).names.lookup x=some .cell∨(gY scope tR).names.lookup x=some .free))
theorem fO.of{tR scope:Scope}{oN N:List Str}{k:Nat}{fr:List Nat}(h:Yo tR scope oN N k fr=true):fO tR scope oN N k fr:=by
 unfold Yo at h
 simp only[D7,decide_eq_true_eq]at h
 obtain⟨⟨⟨⟨⟨⟨h1,h2⟩,h3⟩,h4⟩,h5⟩,h6⟩,h7⟩:=h
 exact⟨h1,h2,h3,h4,h5,h6,h7⟩
section
variable{X:Cx}
theorem QK{k:Nat}{σ:St}{fr:List Nat}{i:Nat}{v:V}(h:(blk k σ fr)[i]?=some (some v)):∃j o,i=k+j∧fr[j]?=some o∧σ[o]?=some (some v):=by
 unfold blk at h
 by_cases hi:i<k
 ·rw[N3 (by simpa using hi),T8]at h
  rw[if_pos hi]at h
  cases h
 ·rw[L7 (by simpa using hi),V3]at h
  unfold uJ at h
  rw[C8]at h
  cases e:fr[i-k]? with
  | none=>rw[e]at h;cases h
  | some o=>
   rw[e]at h
   refine⟨i-k,o,by omega,e,?_⟩
   have h:some (σ.getD o none)=some (some v):=h
   have h:=F5 h
   rw[B3]at h
   cases e2:σ[o]? with
   | none=>rw[e2]at h;cases h
   | some z=>rw[e2]at h;exact congrArg some h
theorem Nv{pins:List (Addr×Obj)}{σ:St}{H:Hp}{s:Shared}{scope:Scope}{N:List Str}{k:Nat}{fr:List Nat}{cl:List (Str×Addr)}{fp:List Addr}{h₁:Heap}{tk:Nat}{m:Str→Option Value}
    (I:Inv X pins σ H s) (B:fO X.env.scope scope X.N N k fr) (hf:∀b∈fp,Ft X pins H b) (hfo:∀b∈fp,b<s.heap.objs.size)
    (hcl:∀x c,cl.lookup x=some c→(x,NameKind.free)∈scope.names∧X.env.cells.lookup x=some c) (vP:∀x,(x,NameKind.free)∈scope.names→∃c,cl.lookup x=some c)
    (hn:h₁.Ns (s.heap.objs.size+1) m) (hs:Heap.SameBut (s.heap.objs.size+1) ((s.heap.push {cls:=.type "list", data:=.seq ([]:List Value).toArray}).push {cls:=.type "dict", data:=.dict #[]}) h₁) :
    Inv (eG X scope N cl fp s H (s.heap.objs.size+1)) [] (blk k σ fr) (upd H s.heap.objs.size (.lst [])) {s with heap:=h₁,toks:=tk}:=by
  have I3:=I.zm (ys:=[]) (its:=[]) (t':=tk) .nil (G9 _)
  have hD:H s.heap.objs.size=none:=I.fresh
  have hC:H (s.heap.objs.size+1)=none:=I.hok.fresh (M7 _)
  have vq:∀b o,(s.heap.push {cls:=.type "list", data:=.seq ([]:List Value).toArray}).get? b=some o→b≠s.heap.objs.size+1:=λb o e=>by
    have:=Heap.lt_size e
    rw[Heap.size_push]at this
    exact C9 this
  have YD:∀b o,(s.heap.push {cls:=.type "list", data:=.seq ([]:List Value).toArray}).get? b=some o→h₁.get? b=some o:=λb o e=>
    hs.extBut b o (vq b o e) (Heap.get?_push_of_some _ e)
  have kept:∀b o,s.heap.get? b=some o→h₁.get? b=some o:=λb o e=>YD b o (Heap.get?_push_of_some _ e)
  refine⟨⟨I.ok.mod,B.kind,I.ok.glob,I.ok.blt,M7 _,λx y c h1 h2=>I.ok.inj x y c (hcl x c h1).2 (hcl y c h2).2,λx hx=>vP x (Gg B.cell hx),λx c h _=>(nomatch h),
      I.ok.hd,I.ok.frames,.inl rfl,λb hb=>⟨?_,λx c e=>(hf b hb).2.2.2.2.1 x c (hcl x c e).2⟩,λb o e=>I.bs b o e,E5 I.ok.KZ I.sz,λb o e hb=>?_,λb hb hb2=>?_,I.stack,I.Fj,I.tab⟩,
    rfl,I.bare,Un.laid kept (B4 _) hD,⟨m,hn,λi x v h1 h2 h3=>?_⟩,λx c e=>?_,?_,λx c e=>?_,λp hp=>absurd (show p∈([]:List (Addr×Obj))from hp) (by simp),?_,?_⟩
  · exact C9 (F8 (hfo b hb))
  · rcases(hf b hb).2.2.2.1 with z | z
    · exact I.ok.Xo b o e z
    · exact absurd (D1 (Heap.lt_size e) (E5 I.ok.KZ z)) (J4 _)
  · rcases C4.mp (I.Fi b hb2)with z | z
    · exact(hf b hb).2.1 z
    · exact(hf b hb).2.2.1 z
  · obtain⟨j,o,rfl,h4,h5⟩:=QK h2
    have h1:N[k+j]?=some x:=h1
    have hj:j<fr.length:=(B8.mp h4).1
    have hx:X.N[o]?=some x:=by
      have q:=B.slots j (J8.mpr hj)
      rw[B3,h4]at q
      exact q.trans h1
    obtain⟨hfr,hre⟩:=B.from_ x (J6 (i:=j) (by rw[P9];exact h1))
    have hk:=B.free _ hfr rfl
    obtain⟨m0,hn0,hl0⟩:=I.loc
    have hv:xu X.env.scope x:=by
      rcases hk with q | q
      · exact .inr (.inl q)
      · exact .inr (.inr q)
    obtain⟨u,r,l⟩:=hl0 o x v hx h5 hv
    refine⟨u,r,.inr ?_⟩
    rcases l with ⟨q,_⟩ | ⟨_,c,e,z⟩
    · rcases hk with q' | q'
      · exact absurd (q.symm.trans q') (by intro z;cases z)
      · exact absurd (q.symm.trans q') (by intro z;cases z)
    · obtain⟨c',e'⟩:=vP x hfr
      have e2:=(hcl x c' e').2
      rw[e]at e2
      cases e2
      refine⟨hre,c,e',?_⟩
      obtain⟨oc,hoc,hd⟩:=z
      exact⟨oc,kept c oc hoc,hd⟩
  · obtain⟨v,oc,hoc,hd⟩:=I.cell x c (hcl x c e).2
    exact⟨v,oc,kept c oc hoc,hd⟩
  · show upd H s.heap.objs.size (.lst []) (s.heap.objs.size+1)=none
    rw[aQ (L5 (M6 _))]
    exact hC
  · have hc:=(hcl x c e).2
    obtain⟨v,oc,hoc,hd⟩:=I.cell x c hc
    show upd H s.heap.objs.size (.lst []) c=none
    rw[aQ (C9 (Heap.lt_size hoc))]
    exact I.nY x c hc
  · exact tD.kept I3.hok YD
  · show (blk k σ fr).length=N.length
    rw[B.len]
    unfold blk uJ
    simp
theorem Js{tg elt iter:Expr}{ifs:List Expr}{scope:Scope}{pos:Pos}{N:List Str}{k:Nat}{fr:List Nat}{g:TG}{tc:TT}{te:TE}{cl:List (Str×Addr)}{pins:List (Addr×Obj)}{σ:St}{H:Hp}{s:Shared}{it:Addr}{fp:List Addr}{tn:Nat→Heap→Prop}{J:It}{Q:VK}
    {RR:Value→Addr→Result→Shared→Prop} {E:Value→Shared→Prop} (hcalm:X.calm=true) (I:Inv X pins σ H s) (T:Turn X.prog X.w X.K tg J fp it tn) (st:tn 0 s.heap) (hf:∀b∈fp,Ft X pins H b) (B:fO X.env.scope scope X.N N k fr)
    (hcl:∀x c,cl.lookup x=some c→(x,NameKind.free)∈scope.names∧X.env.cells.lookup x=some c) (vP:∀x,(x,NameKind.free)∈scope.names→∃c,cl.lookup x=some c)
    (hg:∀cl fp s H C,PG (eG X scope N cl fp s H C) tg g) (hc:∀cl fp s H C,jk (eG X scope N cl fp s H C) ifs tc) (he:∀cl fp s H C,PE (eG X scope N cl fp s H C) elt te)
    (hw:∀D,H D=none→YC J k fr g tc te σ H Q D)
    (hRR:∀D C m s' H',s'.heap.Ns C m→s.heap.objs.size≤C→H' C=none→C≠D→Inv X pins σ H' s'→Q (.ref D) H'→RR (.ref D) C (.ok .next) s') :
    wpAny (model X.prog X.w) X.A (newList []) (λacc s₃=>wpAny (model X.prog X.w) X.A (newFunctionEnv scope X.env.globals cl [] X.env.qual none .none (some X.env)) (λcenv s₄=>
      codeAny (model X.prog X.w) X.A (.compStart (.ListComp elt [⟨tg,iter,ifs,0⟩] scope pos) 0 (.ref it) acc {cenv with scope:=relabel scope X.env}) (RR acc cenv.locals) s₄) E s₃) E s:=by
  refine wpAny_newObj_type (wpAny_newFunctionEnv B.cell (by intro y hy;simp at hy) (λh₁ hns₁ hsb₁=>?_) B.kind)
  dsimp only at hns₁ hsb₁ ⊢
  rw[Heap.size_push]at hns₁ hsb₁ ⊢
  have hfo:∀b∈fp,b<s.heap.objs.size:=λb hb=>by
    obtain⟨o,e,_⟩:=T.obj 0 _ st b hb
    exact Heap.lt_size e
  have I4:=Nv (tk:=s.toks+([]:List (Str×Value)).length) I B hf hfo hcl vP hns₁ hsb₁
  generalize hD:s.heap.objs.size=D at *
  have hDn:H D=none:=by rw[←hD];exact I.fresh
  obtain⟨W,⟨m0,w0⟩,turn⟩:=hw D hDn
  have st1:tn 0 h₁:=T.keep 0 _ _ st λb hb o e=>hsb₁.extBut b o (C9 (F8 (by have:=hfo b hb;exact this))) (Heap.get?_push_of_some _ (Heap.get?_push_of_some _ e))
  have fr0:∀b∈fp,(upd H D (.lst [])) b=none:=λb hb=>by
    rw[aQ (C9 (hfo b hb))]
    exact(hf b hb).1
  generalize hX':eG X scope N cl fp s H (D+1)=X' at I4
  have stat:∀{H':Hp},(∀b∈fp,H' b=none)→∀b∈fp,Ft X' [] H' b:=λ{H'} hn b hb=>by
    subst hX'
    refine⟨hn b hb,?_,λz=>?_,.inl hb,λx c e=>(hf b hb).2.2.2.2.1 x c (hcl x c e).2,λp hp=>absurd (show p∈([]:List (Addr×Obj))from hp) (by simp)⟩
    · exact C9 (F8 (hfo b hb))
    · rcases C4.mp (I.Fi b z)with z | z
      · exact(hf b hb).2.1 z
      · exact(hf b hb).2.2.1 z
  have loop:∀s₃:Shared,s₃={s with heap:=h₁,toks:=s.toks+([]:List (Str×Value)).length} →
      codeAny (model X.prog X.w) X.A (.compLoop (.ListComp elt [⟨tg,iter,ifs,0⟩] scope pos) 0 (.ref it) (.ref D) (compEnvC scope cl (D+1) X.env)) (RR (.ref D) (D+1)) s₃:=by
    rintro s₃ rfl
    refine sW (λn s'=>∃i ys H',Inv X' [] (blk k σ fr) H' s'∧tn i s'.heap∧(∀b∈fp,H' b=none)∧W i n ys H') ?_ m0 ⟨0,[],_,I4,st1,fr0,w0⟩
    rintro n s5 ⟨i,ys,H5,I5,st5,fr5,w5⟩
    obtain⟨hys,way⟩:=turn i n ys H5 w5
    have e1:X'.prog=X.prog:=by rw[←hX'];rfl
    have e2:X'.w=X.w:=by rw[←hX'];rfl
    have e3:X'.K=X.K:=by rw[←hX'];rfl
    have e4:X'.A=X.A:=by rw[←hX'];rfl
    have e5:X'.calm=true:=by rw[←hX'];exact hcalm
    have e6:X'.env=compEnvC scope cl (D+1) X.env:=by rw[←hX'];rfl
    have e7:X'.xe=λ_ _=>False:=by rw[←hX'];rfl
    rcases way with ⟨stop,q⟩ | ⟨go,step⟩
    · have d:=T.done X' e1 e2 e3 e5 i [] s5 _ H5 (λ_ _=>False) I5 (stat fr5) st5 stop
      rw[e4]at d
      refine eE d λr s6 ⟨hr,I6⟩=>?_
      subst hr
      subst hX'
      obtain⟨m6,hn6,_⟩:=I6.loc
      refine hRR D (D+1) m6 s6 H5 hn6 (M7 _) I6.free (L5 (M6 _)) ?_ q
      exact I.call' I6.os I6.base I6.hok I6.bare λb hb=>⟨(hf b hb).2.2.2.1,(hf b hb).2.1,(hf b hb).2.2.2.2.1,(hf b hb).2.2.2.2.2⟩
    · have d:=T.item X' e1 e2 e3 e5 i [] s5 _ H5 (λ_ _=>False) I5 (stat fr5) st5 go
      rw[e4]at d
      refine eE d λr s6 ⟨u,hr,h6⟩=>?_
      subst hr
      refine eE h6 λ_ s7 ⟨x,H7,I7,r7,y7,st7,fr7⟩=>?_
      have I7':=I7.pinned (stat fr7) (T.obj _ _ st7)
      have hg':PG X' tg g:=by rw[←hX'];exact hg _ _ _ _ _
      have hc':jk X' ifs tc:=by rw[←hX'];exact hc _ _ _ _ _
      have he':PE X' elt te:=by rw[←hX'];exact he _ _ _ _ _
      have a1:=hg' _ s7 _ H7 x u _ I7' r7 (step x H7 y7)
      rw[e1,e2,e4,e6,e7]at a1
      refine eE a1 λ_ s8 ⟨σ8,H8,I8,⟨kl,kk⟩,q8⟩=>?_
      have a2:=hc' _ s8 σ8 H8 _ I8 q8
      rw[e1,e2,e4,e6,e7]at a2
      refine eE a2 λok s9 ⟨H9,I9,q9⟩=>?_
      have again:∀{Ha:Hp} {ya:List V} {sa:Shared},Inv X' ([]++yU fp s7.heap) σ8 Ha sa→(∃m',m'<n∧W (i+1) m' ya Ha) →
          ∃m,m<n∧∃i ys H',Inv X' [] (blk k σ fr) H' sa∧tn i sa.heap∧(∀b∈fp,H' b=none)∧W i m ys H':=λ{Ha ya sa} Ia ⟨m',hm,w'⟩=>by
        refine⟨m',hm,i+1,ya,Ha,(Ia.weak kl.symm kk).uG,T.keep _ _ _ st7 λb hb o e=>(Ia.pin (b,o) (E4 _ (E4 _ (pF hb e)))).1,λb hb=>?_,w'⟩
        obtain⟨o,e,d⟩:=T.obj _ _ st7 b hb
        exact(Ia.pin (b,o) (E4 _ (E4 _ (pF hb e)))).2.1
      cases ok with
      | false=>exact again I9 q9
      | true=>
        have a3:=he' _ s9 σ8 H9 _ I9 q9
        rw[e1,e2,e4,e6,e7]at a3
        show wpAny _ _ _ _ _ s9
        refine eE a3 λv s10 ⟨y,H10,I10,r10,hD10,hz,q10⟩=>?_
        have a4:=fV (X:=X') _ s10 σ8 H10 (.ref D) [y] (.ref D) [v] (λ_ H11=>H11=upd H10 D (.lst (ys++[y]))) I10 rfl (.cons r10 .nil) ⟨D,ys,y,rfl,rfl,hD10,hz,rfl⟩
        rw[e1,e2,e4,e7]at a4
        refine eE a4 λ_ s11 ⟨_,H11,I11,_,e11⟩=>?_
        subst e11
        exact again I11 q10
  exact codeAny_compStart_list (loop _ rfl) (T.self _ 0 _ _ _ st1 (loop _ rfl))
theorem QL{tg elt iter:Expr}{ifs:List Expr}{scope:Scope}{pos:Pos}{wi:TI}{g:TG}{tc:TT}{te:TE}(N:List Str)(k:Nat)(fr:List Nat)(hcalm:X.calm=true)(B:fO X.env.scope scope X.N N k fr)(hi:PI X tg iter wi)
  (hg:∀cl fp s H C,PG (eG X scope N cl fp s H C) tg g) (hc:∀cl fp s H C,jk (eG X scope N cl fp s H C) ifs tc) (he:∀cl fp s H C,PE (eG X scope N cl fp s H C) elt te)
  (hs:∀x,foldedSetIterable iter X.env x=pure x:=by intro _;rfl):PE X (.ListComp elt [⟨tg,iter,ifs,0⟩] scope pos) (Jr wi k fr g tc te):=by
 intro pins s σ H Q I h
 obtain⟨cl,e,h1,h2⟩:=nJ scope X.env λy hy hk=>I.ok.has y.1 (B.free y hy hk)
 rw[eval_ListComp]
 refine wpAny_comprehension_free (use:=none) rfl hs e B.kind B.loc (wpAny_mono (hi pins s σ H _ I h) (λxv s₁ q₁=>wpAny_mono q₁ (λitv s₂ q₂=>?_) λ_ _ x=>x) λ_ _ x=>x)
 obtain⟨it,fp,tn,J,H2,rfl,I2,T,st2,f2,hw⟩:=q₂
 refine Js (Q:=Q) (RR:=λacc C=>compPost (model X.prog X.w) X.A X.xe none (EP X pins σ Q) acc C) hcalm I2 T st2 f2 B h1 h2 hg hc he hw ?_
 intro D C m s' H' hn hC hf hne I' q
 refine⟨m,hn,λh' hs'=>⟨.ref D,H',?_,rfl,q⟩⟩
 exact I'.turned (t':=s'.toks) (λb o hb eb=>(hs'.2 b hb).trans eb) hf (L5 (D1 I2.lt hC)) (.inr (E5 I2.sz hC)) (λx c ec z=>by
  obtain⟨v,q⟩:=I2.cell x c ec
  exact absurd (D1 q.lt (by rw[z];exact hC)) (J4 _)) λp hp z=>absurd (D1 (Heap.lt_size (I2.pin p hp).1) (by rw[z];exact hC)) (J4 _)
theorem QM{tg elt iter:Expr}{ifs:List Expr}{scope:Scope}{pos spos py:Pos}{y:Str}{i:Nat}{wi:TI}{g:TG}{tc:TT}{te:TE}(N:List Str)(k:Nat)(fr:List Nat)(hcalm:X.calm=true)(B:fO X.env.scope scope X.N N k fr)(hN:X.N.Nodup)(hy:X.N[i]?=some y)(hx:Loc X.env.scope y)(hi:PI X tg iter wi)
  (hg:∀cl fp s H C,PG (eG X scope N cl fp s H C) tg g) (hc:∀cl fp s H C,jk (eG X scope N cl fp s H C) ifs tc) (he:∀cl fp s H C,PE (eG X scope N cl fp s H C) elt te)
  (hsw:swapsWith (.ListComp elt [⟨tg,iter,ifs,0⟩] scope pos) (some (.Name y py)) spos.line X.env=pure true:=by rfl)
  (hs:∀x,foldedSetIterable iter X.env x=pure x:=by intro _;rfl) (hf:X.fn y=true∨X.env.scope.names.lookup y=some .local:=by first | exact .inl rfl | exact .inr rfl | assumption) :
  PS X (.Assign [.Name y py] (.ListComp elt [⟨tg,iter,ifs,0⟩] scope pos) spos) (Fq (Jr wi k fr g tc te) (dI i)):=by
 intro pins s σ H D I h
 obtain⟨cl,e,h1,h2⟩:=nJ scope X.env λy hy hk=>I.ok.has y.1 (B.free y hy hk)
 rw[exec_Assign_Name_used _ _ _ _ hsw]
 refine wpAny_bind (wpAny_standAt (wpAny_bind ?_))
 show wpAny _ X.A (do let _ ←comprehension (.ListComp elt [⟨tg,iter,ifs,0⟩] scope pos) scope X.env _ (newList []) false (eval iter X.env) (some (assign (.Name y py) X.env))) _ _ s
 refine wpAny_bind (wpAny_mono (wpAny_comprehension_free (use:=some (assign (.Name y py) X.env)) (Q:=λ_ s'=>SP X pins D .next s') rfl hs e B.kind B.loc
  (wpAny_mono (hi pins s σ H _ I h) (λxv s₁ q₁=>wpAny_mono q₁ (λitv s₂ q₂=>?_) λ_ _ x=>x) λ_ _ x=>x)) (λ_ s' hq=>wpAny_pure (wpAny_pure hq)) λ_ _ x=>x)
 obtain⟨it,fp,tn,J,H2,rfl,I2,T,st2,f2,hw⟩:=q₂
 refine Js (Q:=λx H1=>dI i x σ H1 D.nx) (RR:=λacc C=>compPost (model X.prog X.w) X.A X.xe (some (assign (.Name y py) X.env)) (λ_ s'=>SP X pins D .next s') acc C) hcalm I2 T st2 f2 B h1 h2 hg hc he hw ?_
 intro E C m s' H' hn hC hfr hne I' q
 show wpAny _ X.A (assign (.Name y py) X.env (.ref E)) _ _ _
 have JX:∀x c,X.env.cells.lookup x=some c→c≠C:=λx c ec z=>by
  obtain⟨v,q⟩:=I2.cell x c ec
  exact absurd (D1 q.lt (by rw[z];exact hC)) (J4 _)
 refine wpAny_assign_Name (Dj I' hN hy hx (show RelV (.ref E) (.ref E)from rfl) (λs6 I6 ⟨a,hsb,ha⟩=>?_) hf)
 have neA:C≠a:=by
  rcases ha with z | z
  ·rw[z];exact L5 (D1 I2.lt hC)
  ·exact λq=>JX _ _ z q.symm
 refine⟨m,hn.sameBut hsb neA,λh'' hs''=>⟨_,H',?_,q⟩⟩
 exact I6.turned (t':=s6.toks) (λb o hb eb=>(hs''.2 b hb).trans eb) hfr (L5 (D1 I2.lt hC)) (.inr (E5 I2.sz hC)) JX
  λp hp z=>absurd (D1 (Heap.lt_size (I2.pin p hp).1) (by rw[z];exact hC)) (J4 _)
end
end L2


set_option maxHeartbeats 4000000
namespace L2
open PySem PySem.Spec PyProof.Rows
def jl(J:It)(P:Hp→Prop)(xs:List V):Prop:=
 ∀i H,P H→(i<xs.length→J.go i H)∧(∀x H',J.yh i H x H'→H'=H∧(i<xs.length→xs[i]?=some x))∧(xs.length≤i→J.stop i H)
theorem Jt{K:aA}{a:Addr}{xs:List V}:jl (Itl K a) (λH=>lH K H a xs) xs:=λi H hq=>
 ⟨λh=>⟨xs,xs[i],hq,by simp[h]⟩,λx H' ⟨e,y⟩=>⟨e,λ_=>y xs hq⟩,λh=>⟨xs,hq,h⟩⟩
theorem QQ{K:aA}{a:Addr}{xs:List V}:jl (Itt K a) (λH=>mO K H a xs) xs:=λi H hq=>
 ⟨λh=>⟨xs,xs[i],hq,by simp[h]⟩,λx H' ⟨e,y⟩=>⟨e,λ_=>y xs hq⟩,λh=>⟨xs,hq,h⟩⟩
theorem vQ{lo:Int}{n:Nat}:jl (yj lo n) (λ_=>True) ((D6 n).map λi:Nat=>V.int (lo+(i:Int))):=λi H _=>
 ⟨λh=>show i<n by simpa using h,λx H' ⟨e,y⟩=>⟨e,λh=>by
  have h:i<n:=by simpa using h
  subst y
  simp[h]⟩,λh=>show n≤i by simpa using h⟩
section
variable{X:Cx}
theorem dM{scope:Scope}{N:List Str}{x:Str}{pos:Pos}(hN:N.Nodup)(hi:N[0]?=some x)(hx:(gY scope X.env.scope).names.lookup x=some .local) :
  ∀cl fp s H C,PG (eG X scope N cl fp s H C) (.Name x pos) (dI 0):=λ_ _ _ _ _=>cG hN hi (D2 hx) (D3 hx)
theorem QR{P:Program}{w:World}{k:Key}{v:Value}(h:(cQ P w).is k v=true):RelV (kV k) v:=by
 rcases cH (k:=k) (v:=v) h with ⟨i,t,rfl,rfl⟩ | ⟨x,t,rfl,rfl⟩
 ·exact⟨t,rfl⟩
 ·exact⟨t,rfl⟩
theorem Gh{J:It}{P:Hp→Prop}{xs:List V}(hJ:jl J P xs){g:TG}{tb:TS}{D:Ends}{σ:St}{H:Hp}(Pv:Nat→St→Hp→Prop)(h0:Pv 0 σ H)(hl:∀i σ H,i≤xs.length→Pv i σ H→P H)
  (hs:∀i x σ H,xs[i]?=some x→Pv i σ H→g x σ H λσ2 H2=>tb {D with nx:=Pv (i+1),ct:=Pv (i+1),bk:=D.nx} σ2 H2) (hd:∀σ H,Pv xs.length σ H→D.nx σ H) :
  ∃W:Nat→Nat→St→Hp→Prop,(∃m,W 0 m σ H)∧∀i m σ H,W i m σ H →
   (J.stop i H∧D.nx σ H)∨(J.go i H∧∃N:St→Hp→Prop,(∀σ' H',N σ' H'→∃m',m'<m∧W (i+1) m' σ' H')∧∀x H',J.yh i H x H'→g x σ H' λσ2 H2=>tb {D with nx:=N,ct:=N,bk:=D.nx} σ2 H2):=by
 refine⟨λi m σ H=>m=xs.length-i∧i≤xs.length∧Pv i σ H,⟨xs.length,by simp,G9 _,h0⟩,?_⟩
 rintro i m σ H ⟨rfl,hi,p⟩
 obtain⟨j1,j2,j3⟩:=hJ i H (hl i σ H hi p)
 by_cases hlt:i<xs.length
 ·refine .inr ⟨j1 hlt,Pv (i+1),λσ' H' p'=>⟨xs.length-(i+1),by omega,rfl,hlt,p'⟩,λx H' y=>?_⟩
  obtain⟨e,ex⟩:=j2 x H' y
  subst e
  exact hs i x σ _ (ex hlt) p
 ·have e:i=xs.length:=by omega
  subst e
  exact .inl ⟨j3 (B4 _),hd σ H p⟩
def Itn(hi:Int)(n:Nat):It:=⟨λi _=>i<n,λi H x H'=>H'=H∧x=.int (hi-i),λi _=>n≤i⟩
theorem Yp{hi:Int}{n:Nat}:jl (Itn hi n) (λ_=>True) ((D6 n).map λi:Nat=>V.int (hi-(i:Int))):=λi H _=>
 ⟨λh=>show i<n by simpa using h,λx H' ⟨e,y⟩=>⟨e,λh=>by
  have h:i<n:=by simpa using h
  subst y
  simp[h]⟩,λh=>show n≤i by simpa using h⟩
theorem Vl{P:Program}{w:World}{K:aA}{tg:Expr}(it:Addr)(hi:Int)(n:Nat):Turn P w K tg (Itn hi n) [it] it (λi h=>IsRangeIter h it (hi+(i:Nat)*(-1)) ((n:Int)-(i:Nat)) (-1)) where
 mem:=by simp
 obj:=λi h st b hb=>by
  have e:b=it:=by simpa using hb
  subst e
  exact⟨_,st,λv z=>by
   have z':Data.fields _=Data.cell v:=z
   cases z'⟩
 keep:=λi h h' st k=>k it (by simp) _ st
 item:=by
  intro X hP hw hK hc i pins s σ H E I hf st hg
  subst hP hw hK
  obtain⟨f0,f1,f2,f3,f4,f5⟩:=hf it (by simp)
  have W:=Walks.range (prog:=X.prog) (w:=X.w) (I.ok.hd hc) it hi (-1) n
  refine W.item i s _ _ hg st λv h' tk hv st' kk=>?_
  obtain⟨t,rfl⟩:=hv
  have I1:Inv X pins σ H {s with heap:=h',toks:=tk}:=I.turned (λb o hb e=>kk b o (by simpa using hb) e) f0 f1 f3 f4 f5
  refine⟨_,rfl,Ri (s:={s with heap:=h',toks:=tk}) (n := "range_iterator") st' rfl rfl (by decide) ⟨.int (hi-i),H,I1,⟨t,?_⟩,⟨rfl,rfl⟩,st',λb hb=>(hf b hb).1⟩⟩
  congr 1
  omega
 done:=by
  intro X hP hw hK hc i pins s σ H E I hf st hg
  subst hP hw hK
  obtain⟨f0,f1,f2,f3,f4,f5⟩:=hf it (by simp)
  exact wpAny_pyNext_range_end (I.ok.hd hc) st (by have:n≤i:=hg;omega) λh' eb=>⟨rfl,I.turned (t':=s.toks) (λb o hb e=>eb b o hb e) f0 f1 f3 f4 f5⟩
 self:=λ_ _ _ _ _ st h=>wpAny_pyIter_rangeiter st h
end
end L2


namespace L2
open PySem PySem.Spec PyProof.Rows
section
variable{X:Cx}
theorem Dv(lo hi:Int):Builtin.Range.rangeSize lo hi (-1)=((lo-hi).toNat:Int):=by
 unfold Builtin.Range.rangeSize
 simp
 split<;>omega
theorem small_down{lo hi:Int}(h1:-(2 ^ 62)≤lo)(h2:lo<2 ^ 62)(h3:-(2 ^ 62)≤hi)(h4:hi<2 ^ 62):Builtin.Range.small lo hi (-1)=true:=by
 unfold Builtin.Range.small
 rw[Dv]
 simp only[Builtin.Range.rangeFitsLong,D7,P5,decide_eq_true_eq,beq_iff_eq,show ¬((-1:Int) > 0) by decide,if_false]
 omega
def YF(ta:TA):TI:=λσ H R=>ta σ H λvs H1=>∃i j:Int,vs=[.int i,.int j,.int (-1)]∧(-(2 ^ 62)≤i∧i<2 ^ 62∧-(2 ^ 62)≤j∧j<2 ^ 62)∧R (Itn i (i-j).toNat) H1
theorem QS{tg:Expr}{a b c:Expr}{ta:TA}{p pos:Pos}(hg:Gl X "range") (hm:X.mg "range" = none) (ha:PA X [a,b,c] ta) (hs:starEach [a,b,c] X.env=(false,eval a X.env)::starEach [b,c] X.env:=by rfl) (h2:∀pos,((backTo pos (starEach [b,c] X.env)).any λx=>x.fst)=false:=by intro _;rfl) :
  PI X tg (.Call (.Name "range" p) [a,b,c] [] pos) (YF ta):=by
 intro pins s σ H R I h
 refine Call_ (jT I hg hm boot_range (G8 (eE (ha pos pins s σ H _ I h) λus s1 ⟨vs,H1,I1,r1,q1⟩=>?_) hs (h2 _)))
 obtain⟨i,j,e,⟨q1,q2,q3,q4⟩,q⟩:=q1
 subst e
 cases r1 with
 | cons r rr=>
  cases rr with
  | cons r' rr=>
   cases rr with
   | cons r'' rr=>
    cases rr
    obtain⟨t,rfl⟩:=r
    obtain⟨t',rfl⟩:=r'
    obtain⟨t'',rfl⟩:=r''
    refine call_range_3 (by decide) ?_ (D2 (U9 (by decide)))
    refine wpAny_pyIter_range (IsRange.new ..) (small_down q1 q2 q3 q4) ?_
    have I2:Inv X pins σ H1 {s1 with heap:=s1.heap.push {cls:=.type "range", data:=.fields #[.int i t,.int j t',.int (-1) t'']},toks:=s1.toks}:=I1.kept λb o e=>Heap.get?_push_of_some _ e
    refine⟨(s1.heap.push {cls:=.type "range", data:=.fields #[.int i t,.int j t',.int (-1) t'']}).objs.size,[(s1.heap.push {cls:=.type "range", data:=.fields #[.int i t,.int j t',.int (-1) t'']}).objs.size],_,_,H1,rfl,
     I2.kept (t':=s1.toks) λb o e=>Heap.get?_push_of_some _ e,Vl _ i (i-j).toNat,?_,λb hb=>?_,q⟩
    ·have e1:i+((0:Nat):Int)*(-1)=i:=by simp
     have e2:(((i-j).toNat:Nat):Int)-((0:Nat):Int)=Builtin.Range.rangeSize i j (-1):=by rw[Dv];omega
     show IsRangeIter _ _ (i+((0:Nat):Int)*(-1)) ((((i-j).toNat:Nat):Int)-((0:Nat):Int)) (-1)
     rw[e1,e2]
     exact Heap.get?_push_size _ rfl
    ·have e:b=(s1.heap.push {cls:=.type "range", data:=.fields #[.int i t,.int j t',.int (-1) t'']}).objs.size:=by simpa using hb
     subst e
     exact I2.MJ (B4 _) (I2.hok.fresh (B4 _))
theorem Gi{s:Shared}{h':Heap}{o:Obj}(hk:∀b x,b∉[s.heap.objs.size]→(s.heap.push o).get? b=some x→h'.get? b=some x):∀b x,s.heap.get? b=some x→h'.get? b=some x:=
 λb x e=>hk b x (λhm=>by rw[C6.mp hm]at e;exact J4 _ (Heap.lt_size e)) (Heap.get?_push_of_some _ e)
theorem Dw{P:Program}{w:World}{kvs:List (Key×V)}{vs:List (Key×Value)}(rel:KV kvs vs){us:List Value}(hl:us.length=vs.length)(hv:∀(j:Nat)(v:Value),us[j]?=some v→∃k x,vs[j]?=some (k,x)∧(cQ P w).is k v=true) :
  Vals (kvs.map λkv=>kV kv.1) us:=by
 have ek:=KV.keys rel
 have e0:(kvs.map λkv=>kV kv.1)=(vs.map (·.1)).map kV:=by rw[←ek,J0];rfl
 rw[e0]
 clear e0 ek rel
 induction vs generalizing us with
 | nil=>
  cases us with
  | nil=>exact .nil
  | cons _ _=>simp at hl
 | cons p r ih=>
  cases us with
  | nil=>simp at hl
  | cons u us=>
   refine .cons ?_ (ih (by simpa using hl) λj v e=>by simpa using hv (j+1) v (by simpa using e))
   obtain⟨k,x,e,h⟩:=hv 0 u rfl
   simp at e
   subst e
   exact QR h
theorem lJ(hc:X.calm=true):gW X (.type "list") (λxs H Q=>∃p kvs,xs=[.ref p]∧Rd H p (.dK kvs)∧∀l,H l=none→Q (.ref l) (upd H l (.lst (kvs.map λkv=>kV kv.1)))):=by
 intro pins s σ H xs us Q I r h
 obtain⟨p,kvs,rfl,hq,q⟩:=h
 obtain⟨u,rfl,rx⟩:=vals1 r
 cases rx
 obtain⟨hz,hsm,vs,rel,dd⟩:=xJ I.hok hq
 obtain⟨ep,hat⟩:=dd.dictAt
 have hl:=KV.length rel
 refine PySem.W.kdl_call (Y9 (knd:=cQ X.prog X.w) (kvs:=vs) (ep:=ep) hsm) (I.ok.hd hc) hat (by omega) ?_
 intro h' tk acc c kp e hacc
 have hk:=Dw (P:=X.prog) (w:=X.w) rel (us:=acc.toList) (by rw[F1];exact hacc.1) λj v ej=>hacc.2 j v (by rw[←E9];exact ej)
 exact⟨.ref s.heap.objs.size,_,I.laid (t':=tk) kp (B4 _) (show cI X.prog X.w _ h' _ (.lst (kvs.map λkv=>kV kv.1))from⟨by rw[B5];exact hz,acc.toList,c,hk,by simpa using e⟩),rfl,q _ (I.hok.fresh (B4 _))⟩
def rising(ns ms:List Int):Prop:=ms.Perm ns∧ms.Pairwise (·≤·)
end
inductive DV where
  | int (i:Int) | non | lst (ds:List DV) | tup (ds:List DV)
mutual
def Reads(K:aA)(H:Hp):DV→V→Prop
 | .int i,x=>x=.int i
 | .non,x=>x=.non
 | .lst ds,x=>∃a xs,x=.ref a∧lH K H a xs∧bO K H ds xs
 | .tup ds,x=>∃a xs,x=.ref a∧mO K H a xs∧bO K H ds xs
def bO(K:aA)(H:Hp):List DV→List V→Prop
 | [],xs=>xs=[]
 | d::ds,xs=>∃y ys,xs=y::ys∧Reads K H d y∧bO K H ds ys
end
mutual
def DV.depth:DV→Nat
 | .int _=>0
 | .non=>0
 | .lst ds=>bC ds+1
 | .tup ds=>bC ds+1
def bC:List DV→Nat
 | []=>0
 | d::ds=>max d.depth (bC ds)
end
theorem bO.length{K:aA}{H:Hp}:∀{ds:List DV} {xs:List V},bO K H ds xs→xs.length=ds.length
 | [],xs,h=>by
  unfold bO at h
  rw[h]
  rfl
 | d::ds,xs,h=>by
  unfold bO at h
  obtain⟨y,ys,rfl,_,h2⟩:=h
  simp[bO.length h2]
theorem bO.get{K:aA}{H:Hp}:∀{ds:List DV} {xs:List V} {i:Nat} {d:DV},bO K H ds xs→ds[i]?=some d→∃x,xs[i]?=some x∧Reads K H d x
 | [],xs,i,d,h,e=>by simp at e
 | d'::ds,xs,0,d,h,e=>by
  unfold bO at h
  obtain⟨y,ys,rfl,h1,_⟩:=h
  simp at e
  subst e
  exact⟨y,rfl,h1⟩
 | d'::ds,xs,i+1,d,h,e=>by
  unfold bO at h
  obtain⟨y,ys,rfl,_,h2⟩:=h
  obtain⟨x,e1,e2⟩:=bO.get h2 (by simpa using e)
  exact⟨x,by simpa using e1,e2⟩
theorem zJ:∀{ds:List DV} {i:Nat} {d:DV},ds[i]?=some d→d.depth≤bC ds
 | [],i,d,e=>by simp at e
 | d'::ds,0,d,e=>by
  simp at e
  subst e
  unfold bC
  exact Nat.le_max_left _ _
 | d'::ds,i+1,d,e=>by
  have:=zJ (ds:=ds) (i:=i) (d:=d) (by simpa using e)
  unfold bC
  exact E5 this (Nat.le_max_right _ _)
theorem Ny(A:Around):A.in1.units=A.units+1:=rfl
section
open SeqAt
open Classical in
noncomputable def qJ(d e:DV):Bool:=decide (d=e)
theorem oG{d e:DV}:qJ d e=true↔d=e:=by unfold qJ;simp
theorem oH(d:DV):qJ d d=true:=oG.mpr rfl
theorem dO{d e:DV}(h:d≠e):qJ d e=false:=by unfold qJ;simp[h]
theorem QT(a b:Int):qJ (.int a) (.int b)=(a==b):=by
 by_cases h:a=b
 ·subst h;simp[oH]
 ·rw[dO (by simpa using h)];simp[h]
open Classical in
theorem jH{ds es:List DV}(hl:ds.length=es.length):((D6 ds.length).all λi=>match ds[i]?,es[i]? with | some d,some e=>qJ d e | _,_=>true)=decide (ds=es):=by
 rw[M3,T2,decide_eq_true_iff]
 constructor
 ·intro h
  apply Q7 hl
  intro i h1 h2
  have:=h i (J8.mpr h1)
  simp only[B0 h1,B0 h2]at this
  exact oG.mp this
 ·rintro rfl i hi
  have hi':=J8.mp hi
  simp only[B0 hi']
  exact oH _
variable{X:Cx}{pins:List (Addr×Obj)}{σ:St}{H:Hp}{s:Shared}
open Classical in
theorem Rw(ds es:List DV):qJ (.lst ds) (.lst es)=decide (ds=es):=by
 by_cases h:ds=es
 ·subst h;simp[oH]
 ·rw[dO (by intro z;cases z;exact h rfl)];simp[h]
open Classical in
theorem Rx(ds es:List DV):qJ (.tup ds) (.tup es)=decide (ds=es):=by
 by_cases h:ds=es
 ·subst h;simp[oH]
 ·rw[dO (by intro z;cases z;exact h rfl)];simp[h]
theorem Dy(I:Inv X pins σ H s):∀(n:Nat)(d e:DV)(x:V),d.depth≤n→Reads X.K H d x→Reads X.K H e x→d=e:=by
 have lists:∀(n:Nat),(∀(d e:DV)(x:V),d.depth≤n→Reads X.K H d x→Reads X.K H e x→d=e)→∀(ds es:List DV)(xs:List V),bC ds≤n→bO X.K H ds xs→bO X.K H es xs→ds=es:=by
  intro n ih ds
  induction ds with
  | nil=>
   intro es xs _ h1 h2
   have l1:=h1.length
   have l2:=h2.length
   cases es with
   | nil=>rfl
   | cons _ _=>rw[l1]at l2;simp at l2
  | cons d ds ihl=>
   intro es xs hd h1 h2
   have hd1:d.depth≤n:=by unfold bC at hd;omega
   have hd2:bC ds≤n:=by unfold bC at hd;omega
   unfold bO at h1
   obtain⟨y,ys,rfl,a1,a2⟩:=h1
   cases es with
   | nil=>have:=h2.length;simp at this
   | cons e es=>
    unfold bO at h2
    obtain⟨y',ys',q,b1,b2⟩:=h2
    cases q
    rw[ih d e y hd1 a1 b1,ihl es ys hd2 a2 b2]
 have kinds:∀{a:Addr} {xs ys:List V},lH X.K H a xs→mO X.K H a ys→False:=λ{a xs ys} h1 h2=>by
  obtain⟨_,_,p1,_⟩:=I.list h1
  obtain⟨_,_,p2,_⟩:=I.tuple h2
  exact ne_of_list_tuple p1.isList (show s.heap.IsTuple a _ from p2) rfl
 intro n
 induction n with
 | zero=>
  intro d e x hd h1 h2
  cases d with
  | int i=>
   unfold Reads at h1
   subst h1
   cases e with
   | int j=>unfold Reads at h2;cases h2;rfl
   | non=>unfold Reads at h2;cases h2
   | lst es=>unfold Reads at h2;obtain⟨_,_,q,_⟩:=h2;cases q
   | tup es=>unfold Reads at h2;obtain⟨_,_,q,_⟩:=h2;cases q
  | non=>
   unfold Reads at h1
   subst h1
   cases e with
   | non=>rfl
   | int j=>unfold Reads at h2;cases h2
   | lst es=>unfold Reads at h2;obtain⟨_,_,q,_⟩:=h2;cases q
   | tup es=>unfold Reads at h2;obtain⟨_,_,q,_⟩:=h2;cases q
  | lst ds=>unfold DV.depth at hd;omega
  | tup ds=>unfold DV.depth at hd;omega
 | succ n ih=>
  intro d e x hd h1 h2
  cases d with
  | int i=>
   unfold Reads at h1
   subst h1
   cases e with
   | int j=>unfold Reads at h2;cases h2;rfl
   | non=>unfold Reads at h2;cases h2
   | lst es=>unfold Reads at h2;obtain⟨_,_,q,_⟩:=h2;cases q
   | tup es=>unfold Reads at h2;obtain⟨_,_,q,_⟩:=h2;cases q
  | non=>
   unfold Reads at h1
   subst h1
   cases e with
   | non=>rfl
   | int j=>unfold Reads at h2;cases h2
   | lst es=>unfold Reads at h2;obtain⟨_,_,q,_⟩:=h2;cases q
   | tup es=>unfold Reads at h2;obtain⟨_,_,q,_⟩:=h2;cases q
  | lst ds=>
   unfold Reads at h1
   obtain⟨a,xs,rfl,hq,r⟩:=h1
   cases e with
   | int j=>unfold Reads at h2;cases h2
   | non=>unfold Reads at h2;cases h2
   | lst es=>
    unfold Reads at h2
    obtain⟨b,ys,q,hq2,r2⟩:=h2
    cases q
    have:=I.Jf hq hq2
    subst this
    rw[lists n ih ds es xs (by unfold DV.depth at hd;omega) r r2]
   | tup es=>
    unfold Reads at h2
    obtain⟨b,ys,q,hq2,r2⟩:=h2
    cases q
    exact(kinds hq hq2).elim
  | tup ds=>
   unfold Reads at h1
   obtain⟨a,xs,rfl,hq,r⟩:=h1
   cases e with
   | int j=>unfold Reads at h2;cases h2
   | non=>unfold Reads at h2;cases h2
   | lst es=>
    unfold Reads at h2
    obtain⟨b,ys,q,hq2,r2⟩:=h2
    cases q
    exact(kinds hq2 hq).elim
   | tup es=>
    unfold Reads at h2
    obtain⟨b,ys,q,hq2,r2⟩:=h2
    cases q
    have:=I.Dk hq hq2
    subst this
    rw[lists n ih ds es xs (by unfold DV.depth at hd;omega) r r2]
theorem Yq(I:Inv X pins σ H s)(i:Int)(e:DV)(y:V)(u v:Value)(A:Around)(hu:A.units<cLine)(r2:Reads X.K H e y)(rx:RelV (.int i) u)(ry:RelV y v):RcAt A s u v (qJ (.int i) e)∧EqAt A s u v (qJ (.int i) e):=by
 obtain⟨t,rfl⟩:=rx
 cases e with
 | int j=>
  unfold Reads at r2
  subst r2
  obtain⟨t',rfl⟩:=ry
  rw[QT]
  exact⟨RcAt.int_int _ _ _ _,EqAt.int_int _ _ _ _⟩
 | non=>
  unfold Reads at r2
  subst r2
  cases ry
  rw[dO (by intro z;cases z)]
  exact⟨RcAt.int_none _ _,EqAt.int_none _ _⟩
 | lst es=>
  unfold Reads at r2
  obtain⟨b,ys,rfl,hq,_⟩:=r2
  cases ry
  obtain⟨its,_,pl,_⟩:=I.list hq
  rw[dO (by intro z;cases z)]
  exact⟨RcAt.int_list _ _ pl.isList (hu),EqAt.int_list _ _ pl.isList (hu)⟩
 | tup es=>
  unfold Reads at r2
  obtain⟨b,ys,rfl,hq,_⟩:=r2
  cases ry
  obtain⟨its,_,pl,_⟩:=I.tuple hq
  rw[dO (by intro z;cases z)]
  exact⟨RcAt.int_tuple _ _ pl (hu),EqAt.int_tuple _ _ pl (hu)⟩
theorem Yr(I:Inv X pins σ H s)(e:DV)(y:V)(u v:Value)(A:Around)(hu:A.units<cLine)(r2:Reads X.K H e y)(rx:RelV .non u)(ry:RelV y v):RcAt A s u v (qJ .non e)∧EqAt A s u v (qJ .non e):=by
 cases rx
 cases e with
 | non=>
  unfold Reads at r2
  subst r2
  cases ry
  rw[oH]
  exact⟨RcAt.none_none,EqAt.same _⟩
 | int j=>
  unfold Reads at r2
  subst r2
  obtain⟨t',rfl⟩:=ry
  rw[dO (by intro z;cases z)]
  exact⟨RcAt.none_int _ _,EqAt.none_int _ _⟩
 | lst es=>
  unfold Reads at r2
  obtain⟨b,ys,rfl,hq,_⟩:=r2
  cases ry
  obtain⟨its,_,pl,_⟩:=I.list hq
  rw[dO (by intro z;cases z)]
  exact⟨RcAt.none_list pl.isList hu,EqAt.none_list pl.isList hu⟩
 | tup es=>
  unfold Reads at r2
  obtain⟨b,ys,rfl,hq,_⟩:=r2
  cases ry
  obtain⟨its,_,pl,_⟩:=I.tuple hq
  rw[dO (by intro z;cases z)]
  exact⟨RcAt.none_tuple pl hu,EqAt.none_tuple pl hu⟩
theorem zK(I:Inv X pins σ H s):∀(n:Nat)(A:Around),(∀(d e:DV)(x y:V)(u v:Value)(A:Around),d.depth≤n→A.units+n<cLine→Reads X.K H d x→Reads X.K H e y→RelV x u→RelV y v→RcAt A s u v (qJ d e)∧EqAt A s u v (qJ d e)) →
  ∀(ds es:List DV)(xs ys:List V)(us vs:List Value),bC ds≤n→A.units+(n+1)<cLine→bO X.K H ds xs→bO X.K H es ys→Vals xs us→Vals ys vs →
  ∀j (h1:j<us.toArray.size) (h2:j<vs.toArray.size),EqAt A.in1 s us.toArray[j] vs.toArray[j] (match ds[j]?,es[j]? with | some d,some e=>qJ d e | _,_=>true):=by
 intro n A ih ds es xs ys us vs hd hu r1 r2 v1 v2 j h1 h2
 have l1:j<ds.length:=by rw[←r1.length,v1.length];simpa using h1
 have l2:j<es.length:=by rw[←r2.length,v2.length];simpa using h2
 obtain⟨x,ex,rx⟩:=r1.get (i:=j) (d:=ds[j]) (by simp)
 obtain⟨y,ey,ry⟩:=r2.get (i:=j) (d:=es[j]) (by simp)
 obtain⟨u,eu,ru⟩:=v1.get ex
 obtain⟨v,ev,rv⟩:=v2.get ey
 have e1:us.toArray[j]=u:=by
  rw[B8]at eu
  obtain⟨_,eu⟩:=eu
  simpa using eu
 have e2:vs.toArray[j]=v:=by
  rw[B8]at ev
  obtain⟨_,ev⟩:=ev
  simpa using ev
 rw[e1,e2]
 simp only[B0 l1,B0 l2]
 exact(ih _ _ x y u v A.in1 (E5 (zJ (i:=j) (by simp)) hd) (by rw[Ny];omega) rx ry ru rv).2
theorem Gj(I:Inv X pins σ H s):∀(n:Nat)(d e:DV)(x y:V)(u v:Value)(A:Around),d.depth≤n→A.units+n<cLine→Reads X.K H d x→Reads X.K H e y→RelV x u→RelV y v→RcAt A s u v (qJ d e)∧EqAt A s u v (qJ d e):=by
 have items:=zK I
 have seqs:∀(n:Nat)(A:Around),(∀(d e:DV)(x y:V)(u v:Value)(A:Around),d.depth≤n→A.units+n<cLine→Reads X.K H d x→Reads X.K H e y→RelV x u→RelV y v→RcAt A s u v (qJ d e)∧EqAt A s u v (qJ d e)) →
   ∀(d e:DV)(x y:V)(u v:Value),d.depth≤n+1→A.units+(n+1)<cLine→Reads X.K H d x→Reads X.K H e y→RelV x u→RelV y v→RcAt A s u v (qJ d e)∧EqAt A s u v (qJ d e):=by
  intro n A ih d e x y u v hd hu r1 r2 rx ry
  have of_same:∀{a b:Addr} {k:Bool},(a=b→k=true)→RcAt A s (.ref a) (.ref b) k→EqAt A s (.ref a) (.ref b) k:=λ{a b k} hk h=>by
   by_cases hab:a=b
   ·subst hab
    rw[hk rfl]
    exact EqAt.same _
   ·exact EqAt.of_refs hab h
  cases d with
  | int i=>
   unfold Reads at r1
   subst r1
   exact Yq I i e y u v A (by omega) r2 rx ry
  | non=>
   unfold Reads at r1
   subst r1
   exact Yr I e y u v A (by omega) r2 rx ry
  | lst ds=>
   unfold Reads at r1
   obtain⟨a,xs,rfl,hq1,Vm⟩:=r1
   cases rx
   obtain⟨zL,v1,Cm,_⟩:=I.list hq1
   have hd':bC ds≤n:=by unfold DV.depth at hd;omega
   cases e with
   | int j=>
    unfold Reads at r2
    subst r2
    obtain⟨t',rfl⟩:=ry
    rw[dO (by intro z;cases z)]
    exact⟨RcAt.list_int _ _ Cm.isList (by omega),EqAt.list_int _ _ Cm.isList (by omega)⟩
   | non=>
    unfold Reads at r2
    subst r2
    cases ry
    rw[dO (by intro z;cases z)]
    exact⟨RcAt.list_none Cm.isList (by omega),EqAt.list_none Cm.isList (by omega)⟩
   | lst es=>
    unfold Reads at r2
    obtain⟨b,ys,rfl,hq2,Nz⟩:=r2
    cases ry
    obtain⟨its2,v2,Ju,_⟩:=I.list hq2
    have e1:zL.toArray.size=ds.length:=by rw[B6,←v1.length,Vm.length]
    have e2:its2.toArray.size=es.length:=by rw[B6,←v2.length,Nz.length]
    have rc:RcAt A s (.ref a) (.ref b) (qJ (.lst ds) (.lst es)):=by
     by_cases hl:ds.length=es.length
     ·have q:=RcAt.lists (A:=A) (s:=s) Cm.isList Ju.isList (by rw[e1,e2];exact hl) (by omega) (items n A ih ds es xs ys zL its2 hd' hu Vm Nz v1 v2)
      rw[e1,jH hl]at q
      rw[Rw]
      exact q
     ·rw[dO (by intro z;cases z;exact hl rfl)]
      exact RcAt.lists_lengths Cm.isList Ju.isList (by rw[e1,e2];simpa using hl) (by omega)
    exact⟨rc,of_same (λhab=>by
     subst hab
     refine oG.mpr (Dy I (n+1) _ _ (.ref a) hd ?_ ?_)
     ·unfold Reads
      exact⟨a,xs,rfl,hq1,Vm⟩
     ·unfold Reads
      exact⟨a,ys,rfl,hq2,Nz⟩) rc⟩
   | tup es=>
    unfold Reads at r2
    obtain⟨b,ys,rfl,hq2,Nz⟩:=r2
    cases ry
    obtain⟨its2,v2,Ju,_⟩:=I.tuple hq2
    rw[dO (by intro z;cases z)]
    exact⟨RcAt.list_tuple Cm.isList Ju (by omega),EqAt.list_tuple Cm.isList Ju (by omega)⟩
  | tup ds=>
   unfold Reads at r1
   obtain⟨a,xs,rfl,hq1,Vm⟩:=r1
   cases rx
   obtain⟨zL,v1,Cm,_⟩:=I.tuple hq1
   have hd':bC ds≤n:=by unfold DV.depth at hd;omega
   cases e with
   | int j=>
    unfold Reads at r2
    subst r2
    obtain⟨t',rfl⟩:=ry
    rw[dO (by intro z;cases z)]
    exact⟨RcAt.tuple_int _ _ Cm (by omega),EqAt.tuple_int _ _ Cm (by omega)⟩
   | non=>
    unfold Reads at r2
    subst r2
    cases ry
    rw[dO (by intro z;cases z)]
    exact⟨RcAt.tuple_none Cm (by omega),EqAt.tuple_none Cm (by omega)⟩
   | lst es=>
    unfold Reads at r2
    obtain⟨b,ys,rfl,hq2,Nz⟩:=r2
    cases ry
    obtain⟨its2,v2,Ju,_⟩:=I.list hq2
    rw[dO (by intro z;cases z)]
    exact⟨RcAt.tuple_list Cm Ju.isList (by omega),EqAt.tuple_list Cm Ju.isList (by omega)⟩
   | tup es=>
    unfold Reads at r2
    obtain⟨b,ys,rfl,hq2,Nz⟩:=r2
    cases ry
    obtain⟨its2,v2,Ju,_⟩:=I.tuple hq2
    have e1:zL.toArray.size=ds.length:=by rw[B6,←v1.length,Vm.length]
    have e2:its2.toArray.size=es.length:=by rw[B6,←v2.length,Nz.length]
    have rc:RcAt A s (.ref a) (.ref b) (qJ (.tup ds) (.tup es)):=by
     have q:=RcAt.tuples (A:=A) (s:=s) (l:=a) (b:=b) Cm Ju (by omega) (items n A ih ds es xs ys zL its2 hd' hu Vm Nz v1 v2)
     rw[e1,e2]at q
     by_cases hl:ds.length=es.length
     ·rw[←hl,R3,jH hl]at q
      rw[Rx]
      simpa using q
     ·rw[dO (by intro z;cases z;exact hl rfl)]
      have z:(ds.length==es.length)=false:=by simpa using hl
      rw[z,c6]at q
      exact q
    exact⟨rc,of_same (λhab=>by
     subst hab
     refine oG.mpr (Dy I (n+1) _ _ (.ref a) hd ?_ ?_)
     ·unfold Reads
      exact⟨a,xs,rfl,hq1,Vm⟩
     ·unfold Reads
      exact⟨a,ys,rfl,hq2,Nz⟩) rc⟩
 intro n
 induction n with
 | zero=>
  intro d e x y u v A hd hu r1 r2 rx ry
  cases d with
  | int i=>
   unfold Reads at r1
   subst r1
   exact Yq I i e y u v A (by omega) r2 rx ry
  | non=>
   unfold Reads at r1
   subst r1
   exact Yr I e y u v A (by omega) r2 rx ry
  | lst ds=>unfold DV.depth at hd;omega
  | tup ds=>unfold DV.depth at hd;omega
 | succ n ih=>
  intro d e x y u v A hd hu r1 r2 rx ry
  exact seqs n A ih d e x y u v hd hu r1 r2 rx ry
end
section
variable{X:Cx}
def jm(K:aA)(neg:Bool):R2:=λx y H Q=>∃d e,Reads K H d x∧Reads K H e y∧d.depth≤32∧Q (.bl (if neg then !qJ d e else qJ d e)) H
theorem jn(hu:X.A.units+64<cLine):sU X (compareOp .Eq) (jm X.K false):=by
 intro pins s σ H x y v u Q I rx ry h
 obtain⟨d,e,r1,r2,hd,q⟩:=h
 exact(Gj I 32 d e x y v u X.A hd (by omega) r1 r2 rx ry).1 X.prog X.w X.xe _ ⟨.bl _,H,I,rfl,q⟩
open SeqAt in
theorem jo(hu:X.A.units+64<cLine):sU X (compareOp .NotEq) (λx y H Q=>∃ds es,Reads X.K H (.lst ds) x∧Reads X.K H (.lst es) y∧bC ds≤32∧Q (.bl (!qJ (.lst ds) (.lst es))) H):=by
 intro pins s σ H x y v u Q I rx ry h
 obtain⟨ds,es,r1,r2,hd,q⟩:=h
 unfold Reads at r1 r2
 obtain⟨a,xs,rfl,hq1,Vm⟩:=r1
 obtain⟨b,ys,rfl,hq2,Nz⟩:=r2
 cases rx
 cases ry
 obtain⟨zL,v1,Cm,_⟩:=I.list hq1
 obtain⟨its2,v2,Ju,_⟩:=I.list hq2
 have e1:zL.toArray.size=ds.length:=by rw[B6,←v1.length,Vm.length]
 have e2:its2.toArray.size=es.length:=by rw[B6,←v2.length,Nz.length]
 have rc:RcNeAt X.A s (.ref a) (.ref b) (!qJ (.lst ds) (.lst es)):=by
  by_cases hl:ds.length=es.length
  ·have z:=RcNeAt.lists (A:=X.A) (s:=s) Cm.isList Ju.isList (by rw[e1,e2];exact hl) (by omega) (zK I 32 X.A (λd e x y u v A a1 a2 a3 a4 a5 a6=>Gj I 32 d e x y u v A a1 a2 a3 a4 a5 a6) ds es xs ys zL its2 hd (by omega) Vm Nz v1 v2)
   rw[e1,jH hl]at z
   rw[Rw]
   exact z
  ·rw[dO (by intro z;cases z;exact hl rfl)]
   exact RcNeAt.lists_lengths Cm.isList Ju.isList (by rw[e1,e2];simpa using hl) (by omega)
 exact rc X.prog X.w X.xe _ ⟨.bl _,H,I,rfl,q⟩
end
end L2


namespace L2
open PySem PySem.Spec PyProof.Rows
structure Raw(K:aA)(mg:Str→Option Value)(x:Str)(st:Stmt):Prop where
 ex:∃f fd,Xm K x x st f fd∧mg x=some (.ref f)
theorem jq{K:aA}{h:Heap}{mg:Str→Option Value}{x:Str}{st:Stmt}{f:Addr}{oc:Value}{od an:Option Addr}{osl:Array (Option Value)}{kV doc pm cdv ct:Value}(X:K.In h)(G:h.Ns mainGlobals mg)
  (a:X3 K mainGlobals x=some (some (.ref f))) (l:K.lookup f=some ⟨oc,od,.func (G4 x x (eU st) (cA st) (aJ st) .none kV doc pm an cdv ct),osl⟩)
  (c:F7 K cdv x=true) (k:L0 K (.ref f)=true):Raw K mg x st:=⟨⟨f,_,jj l c k,d7 X G a⟩⟩
structure iU(P:Program)(w:World)(K:aA)(mg:Str→Option Value)(base:Heap)(x:Str)(k:Nat)(n:Nat)(sp:Sp):Prop where
 ex:∃f fd ps,ps.length=n∧uH P w K mg base Nu k f fd ps sp∧Binds K fd ps []∧L0 K (.ref f)=true∧mg x=some (.ref f)
theorem Raw.cal{P:Program}{w:World}{K:aA}{mg:Str→Option Value}{base:Heap}{x:Str}{st:Stmt}{N ps:List Str}{k:Nat}{sp:Sp}(R:Raw K mg x st)(S:aZ N ps (aJ st))(len:∀vs H Q E,sp vs H Q E→vs.length=ps.length)
  (hb:∀(kV doc pm:Value)(an:Option Addr)(cdv ct:Value)(us:List Value),us.length=ps.length→bindArgs (G4 x x (eU st) (cA st) (aJ st) .none kV doc pm an cdv ct) ⟨us,[]⟩=pure (ps.zip us))
  (hbody:∀(f:Addr)(cdv:Value)(A:Around)(outer:List Env)(s:Shared)(H:Hp)(vs:List V)(Q:VK)(E:XK),jU k (A.deeper (envOfC x (aJ st) s.heap.objs.size f cdv))→sp vs H Q E →
   ∃t,Iw (yV Nu P w K mg base N x (aJ st) f cdv A outer s H E).JZ (cA st) t∧t {nx:=λ_ H'=>Q .non H',rt:=Q} (start N vs) H):iU P w K mg base x (k+1) ps.length sp:=by
 obtain⟨f,fd,F,m⟩:=R.ex
 exact⟨f,fd,ps,rfl,F.ok S len λcdv A outer s H vs Q E hr h=>hbody f cdv A outer s H vs Q E hr h,F.binds hb,F.kp,m⟩
theorem jr{X:Cx}{x:Str}{k n:Nat}{sp:Sp}{e:Expr}{es:List Expr}{p pos:Pos}{t:TA}(C:iU X.prog X.w X.K X.mg X.base x k n sp)(hr:jU k X.A)(hg:Gl X x)
  (ha:PA X (e::es) t) (hdb:(x==("__debug__" : Str))=false:=by decide) (he:starEach (e::es) X.env=(false,eval e X.env)::starEach es X.env:=by rfl) (hpl:(backTo pos (starEach es X.env)).any (·.1)=false:=by rfl) :
  PE X (.Call (.Name x p) (e::es) [] pos) (Jj sp [] E0 t):=by
 obtain⟨f,fd,ps,_,F,hb,hk,hm⟩:=C.ex
 exact NQ F hr hg hm hk hb .nil aAa ha hdb he hpl
theorem call_of{sp:Sp}{E:XK}{t:TA}{σ:St}{H:Hp}{Q:VK}(h:t σ H λvs H1=>sp vs H1 Q E):Jj sp [] E t σ H Q:=by
 unfold Jj
 have e:(λ(vs:List V) (H1:Hp)=>sp (vs++[]) H1 Q E)=λvs H1=>sp vs H1 Q E:=by funext vs H1;rw[U4]
 rw[e]
 exact h
theorem bF{H:Hp}{p:Addr}(h:H p=none)(o:HO):aN H (upd H p o):=λb u q=>by rw[aQ (bH q h)];exact q
theorem aN.tup{K:aA}{H H':Hp}{a:Addr}{xs:List V}(e:aN H H')(h:mO K H a xs):mO K H' a xs:=by
 rcases h with (h | ⟨o,h⟩) | h
 ·exact .inl (.inl (e _ _ h))
 ·exact .inl (.inr ⟨o,e _ _ h⟩)
 ·exact .inr h
mutual
theorem aN.reads{K:aA}{H H':Hp}(e:aN H H'):∀(d:DV)(x:V),Reads K H d x→Reads K H' d x
 | .int i,x,h=>by unfold Reads at h ⊢;exact h
 | .non,x,h=>by unfold Reads at h ⊢;exact h
 | .lst ds,x,h=>by
  unfold Reads at h ⊢
  obtain⟨a,xs,r,hq,l⟩:=h
  exact⟨a,xs,r,e.seq hq,aN.Oa e ds xs l⟩
 | .tup ds,x,h=>by
  unfold Reads at h ⊢
  obtain⟨a,xs,r,hq,l⟩:=h
  exact⟨a,xs,r,e.tup hq,aN.Oa e ds xs l⟩
theorem aN.Oa{K:aA}{H H':Hp}(e:aN H H'):∀(ds:List DV)(xs:List V),bO K H ds xs→bO K H' ds xs
 | [],xs,h=>by unfold bO at h ⊢;exact h
 | d::ds,xs,h=>by
  unfold bO at h ⊢
  obtain⟨y,ys,r,h1,h2⟩:=h
  exact⟨y,ys,r,aN.reads e d y h1,aN.Oa e ds ys h2⟩
end
theorem lM:∀ns:List Int,bC (ns.map DV.int)=0
 | []=>by rw[G5];unfold bC;rfl
 | n::ns=>by rw[D4];unfold bC DV.depth;rw[lM ns];rfl
theorem Jv{ns ms:List Int}:ns.map DV.int=ms.map DV.int↔ns=ms:=by
 constructor
 ·intro h
  have:∀(a b:Int),DV.int a=DV.int b→a=b:=λa b e=>by cases e;rfl
  exact(List.map_inj_right this).mp h
 ·rintro rfl;rfl
theorem QV(z:Int)(ns:List Int):inV (.int z) (ns.map V.int)=decide (z∈ns):=by
 unfold inV
 rw[M3,O8,decide_eq_true_iff]
 constructor
 ·rintro⟨v,hv,e⟩
  obtain⟨m,hm,rfl⟩:=E2.mp hv
  have:m=z:=by simpa[KD]using e
  subst this
  exact hm
 ·intro h
  exact⟨.int z,E2.mpr ⟨z,h,rfl⟩,by simp[KD]⟩
theorem Vn(ns:List Int):(ns.map V.int).all qI=true:=by
 rw[T2]
 intro v hv
 obtain⟨m,_,rfl⟩:=E2.mp hv
 rfl
def mk(ns:List Int):List (Key×V):=ns.foldl (λkvs n=>putK kvs (D8 n) (V.bl true)) []
theorem take_snoc{α:Type}{l:List α}{i:Nat}{x:α}(h:l[i]?=some x):l.take (i+1)=l.take i++[x]:=by
 rw[L3,h]
 rfl
theorem jt{kvs:List (Key×V)}{ks:List Int}(e:kvs.map (·.1)=ks.map D8):(kvs.map λkv=>kV kv.1)=ks.map V.int:=by
 have:(kvs.map λkv=>kV kv.1)=(kvs.map (·.1)).map kV:=by rw[J0];rfl
 rw[this,e,J0]
 rfl
end L2
namespace L2
theorem fO.at{scope:PySem.Scope}{N:List PySem.Str}{k:Nat}{fr:List Nat}(tR:PySem.Scope)(oN:List PySem.Str)(h:Yo tR scope oN N k fr=true):fO tR scope oN N k fr:=fO.of h
end L2
namespace L2
open PySem PySem.Spec PyProof.Rows
def tE(H:Hp)(p:Addr):Prop:=(∀xs,H p≠some (.tup xs))∧∀o xs,H p≠some (.qG o (.tup xs))
theorem rO{H:Hp}{p:Addr}{xs:List V}(h:H p=some (.lst xs)):tE H p:=⟨λys e=>(by rw[h]at e;cases e),λo ys e=>(by rw[h]at e;cases e)⟩
theorem zM{H:Hp}{p:Addr}{kvs:List (Key×V)}(h:H p=some (.dK kvs)):tE H p:=⟨λys e=>(by rw[h]at e;cases e),λo ys e=>(by rw[h]at e;cases e)⟩
theorem mO.upd{K:aA}{H:Hp}{a p:Addr}{xs:List V}{o:HO}(h:mO K H a xs)(n:tE H p):mO K (upd H p o) a xs:=by
 rcases h with (h | ⟨u,h⟩) | h
 ·exact .inl (.inl (by rw[aQ (λz=>n.1 xs (by rw[←z];exact h))];exact h))
 ·exact .inl (.inr ⟨u,by rw[aQ (λz=>n.2 u xs (by rw[←z];exact h))];exact h⟩)
 ·exact .inr h
mutual
def fU:DV→Bool
 | .int _=>true
 | .non=>true
 | .lst _=>false
 | .tup ds=>bB ds
def bB:List DV→Bool
 | []=>true
 | d::ds=>fU d&&bB ds
end
mutual
theorem Vo{K:aA}{H:Hp}{p:Addr}{o:HO}(n:tE H p):∀(d:DV)(x:V),fU d=true→Reads K H d x→Reads K (upd H p o) d x
 | .int i,x,_,h=>by unfold Reads at h ⊢;exact h
 | .non,x,_,h=>by unfold Reads at h ⊢;exact h
 | .lst ds,x,hi,h=>by unfold fU at hi;cases hi
 | .tup ds,x,hi,h=>by
  unfold fU at hi
  unfold Reads at h ⊢
  obtain⟨a,xs,r,hq,l⟩:=h
  exact⟨a,xs,r,hq.upd n,zN n ds xs hi l⟩
theorem zN{K:aA}{H:Hp}{p:Addr}{o:HO}(n:tE H p):∀(ds:List DV)(xs:List V),bB ds=true→bO K H ds xs→bO K (upd H p o) ds xs
 | [],xs,_,h=>by unfold bO at h ⊢;exact h
 | d::ds,xs,hi,h=>by
  unfold bB at hi
  rw[D7]at hi
  unfold bO at h ⊢
  obtain⟨y,ys,r,h1,h2⟩:=h
  exact⟨y,ys,r,Vo n d y hi.1 h1,zN n ds ys hi.2 h2⟩
end
theorem uK{n d:Nat}{k:Nat}:HT.fM n d (some (k:Int))=min k n:=HT.OD n d k
end L2
namespace L2
open PySem PySem.Spec PyProof.Rows
section
variable{X:Cx}
end
end L2
namespace L2
open PySem PySem.Spec PyProof.Rows
end L2
namespace L2
open PySem PySem.Spec PyProof.Rows
section
variable{X:Cx}
theorem vR(hc:X.calm=true):gW X (.builtin "sorted") (λxs H Q=>∃(p:Addr)(kvs:List (Key×V))(ks:List Int),xs=[.ref p]∧Rd H p (.dK kvs)∧kvs.map (·.1)=ks.map D8∧ks.length<64∧∀l ms,H l=none→rising ks ms→Q (.ref l) (upd H l (.lst (ms.map V.int)))):=by
 intro pins s σ H xs us Q I r h
 obtain⟨p,kvs,ks,rfl,hq,hk,h64,q⟩:=h
 obtain⟨u,rfl,rx⟩:=vals1 r
 cases rx
 obtain⟨hz,hsm,vs,rel,dd⟩:=xJ I.hok hq
 obtain⟨ep,hat⟩:=dd.dictAt
 have hl:=KV.length rel
 refine Calls.call_function_entry kind_sorted plain_sorted entry_sorted (args_sorted1 _) ?_
 unfold Builtin.«sorted»
 refine wpAny_bind (m:=checkCount "sorted" 1 1 _) (wpAny_pure ?_)
 refine wpAny_bind (PySem.W.kdu_collect (A:=X.A.in1) (Y9 (knd:=cQ X.prog X.w) (kvs:=vs) (ep:=ep) hsm) (I.ok.hd hc) hat (by omega) λh' tk acc kp hacc=>?_)
 have hkv:=Dw (P:=X.prog) (w:=X.w) rel (us:=acc.toList) (by rw[F1];exact hacc.1) λj v ej=>hacc.2 j v (by rw[←E9];exact ej)
 rw[jt hk]at hkv
 have hI:=intsAre_of hkv
 have hla:acc.toList.length=ks.length:=by rw[←hkv.length,B5]
 refine wpAny_bind (wpAny_newList ?_ (by rw[hla];exact L9 (oF (by omega))))
 have hoL:(h'.push (seqObj "list" acc.toList.toArray 0)).get? h'.objs.size=some (seqObj "list" acc.toList.toArray 0):=Heap.get?_push_size _ rfl
 refine wpAny_bind (wpAny_holding (wpAny_call_entry slot_list_sort ⟨_,hoL,rfl⟩ entry_list_sort (list_sort_tree hoL hI (by omega) λout ns' a1 a2 a3=>⟨_,rfl,?_⟩) (args_list_sort _)))
 refine wpAny_pure ⟨_,rfl,?_⟩
 obtain⟨e,he⟩:=sortedHeap_at (out:=out) hoL
 have hl2:ns'.length=ks.length:=a2.length_eq
 have I1:Inv X pins σ H {s with heap:=h',toks:=tk}:=I.kept (t':=tk) kp
 have hs:H h'.objs.size=none:=I1.hok.fresh (B4 _)
 have I2:=I1.laid (t':=tk) (a:=h'.objs.size) (o:=.lst (ns'.map V.int)) (h':=sortedHeap (h'.push (seqObj "list" acc.toList.toArray 0)) h'.objs.size acc.toList out)
  (λb o eb=>by
   have hlt:=Heap.lt_size eb
   rw[sortedHeap_old (C9 hlt) (by rw[Heap.size_push];exact F8 hlt)]
   exact Heap.get?_push_of_some _ eb) (B4 _)
  ⟨by rw[B5];exact L9 (oF (by omega)),out.toList,e,rN a1,by simpa[seqObj]using he⟩
 exact⟨.ref _,_,I2,rfl,q _ _ hs ⟨a2,a3⟩⟩
end
theorem tG:∀{l m:List Int},l.Pairwise (·<·)→m.Pairwise (·<·)→(∀j,j∈l↔j∈m)→l=m
  | [],[],_,_,_=>rfl
  | [],b::m,_,_,h=>absurd ((h b).mpr B9) (by simp)
  | a::l,[],_,_,h=>absurd ((h a).mp B9) (by simp)
  | a::l,b::m,h1,h2,h=>by
    obtain⟨wg,h1b⟩:=E6.mp h1
    obtain⟨wj,h2b⟩:=E6.mp h2
    have e:a=b:=by
      rcases C4.mp ((h a).mp B9)with q | q
      · exact q
      · rcases C4.mp ((h b).mpr B9)with q' | q'
        · exact q'.symm
        · have:=wj a q
          have:=wg b q'
          omega
    subst e
    rw[tG h1b h2b λj=>?_]
    constructor
    · intro hj
      rcases C4.mp ((h j).mp (B7 _ hj))with q | q
      · have:=wg j hj
        omega
      · exact q
    · intro hj
      rcases C4.mp ((h j).mpr (B7 _ hj))with q | q
      · have:=wj j hj
        omega
      · exact q
theorem tH:∀{l:List Int},l.Pairwise (·≤·)→l.Nodup→l.Pairwise (·<·)
 | [],_,_=>.nil
 | a::l,h,n=>by
  obtain⟨h1,h2⟩:=E6.mp h
  obtain⟨n1,n2⟩:=K0.mp n
  refine E6.mpr ⟨λb hb=>?_,tH h2 n2⟩
  have:=h1 b hb
  have:a≠b:=λe=>n1 (e▸hb)
  omega
theorem rising.strict{ks ms:List Int}(h:rising ks ms)(n:ks.Nodup):ms.Pairwise (·<·)∧∀j,j∈ms↔j∈ks:=
 ⟨tH h.2 (h.1.nodup_iff.mpr n),λj=>h.1.mem_iff⟩
theorem oJ:∀(n:Nat)(l:List Int),l.Nodup→(∀j∈l,0≤j∧j<(n:Int))→l.length≤n
 | 0,[],_,_=>B4 _
 | 0,a::l,_,h=>by
  have:=h a B9
  omega
 | n+1,l,nd,h=>by
  have h1:(l.filter λj=>decide (j≠(n:Int))).length≤n:=oJ n _ (nd.filter _) λj hj=>by
   obtain⟨hj1,hj2⟩:=F6.mp hj
   have:=h j hj1
   have:j≠(n:Int):=of_decide_eq_true hj2
   omega
  have h2:∀(l:List Int),l.Nodup→l.length≤(l.filter λj=>decide (j≠(n:Int))).length+1:=by
   intro l
   induction l with
   | nil=>intro _;exact G9 _
   | cons a l ih=>
    intro nd
    obtain⟨n1,n2⟩:=K0.mp nd
    by_cases e:a=(n:Int)
    ·have:(l.filter λj=>decide (j≠(n:Int)))=l:=O1.mpr λj hj=>decide_eq_true λz=>n1 (by rw[e,←z];exact hj)
     rw[K6,if_neg (by simp[e]),this,E7]
     exact B4 _
    ·rw[K6,if_pos (by simp[e]),E7,E7]
     have:=ih n2
     omega
  have:=h2 l nd
  omega
theorem Jw{K:aA}:F9 K (.type "int") (.type "int")=some true:=by unfold F9;rfl
theorem Cp{K:aA}:F9 K (.type "bool") (.type "bool")=some true:=by unfold F9;rfl
theorem Cq{K:aA}:F9 K (.type "list") (.type "list")=some true:=by unfold F9;rfl
theorem xW{K:aA}:F9 K (.type "tuple") (.type "tuple")=some true:=by unfold F9;rfl
theorem Gk{K:aA}:F9 K (.type "int") (.type "bool")=some false:=by
  first | rfl | decide | (unfold F9 c7;rfl) | (unfold F9 c7;simp;decide)
end L2


namespace L2
open PySem PySem.Spec PyProof.Rows
section
variable{X:Cx}
open SeqAt in
theorem ju(hu:X.A.units+64<cLine):sU X (compareOp .NotEq) (λx y H Q=>∃ds es,Reads X.K H (.tup ds) x∧Reads X.K H (.tup es) y∧bC ds≤32∧Q (.bl (!qJ (.tup ds) (.tup es))) H):=by
 intro pins s σ H x y v u Q I rx ry h
 obtain⟨ds,es,r1,r2,hd,q⟩:=h
 unfold Reads at r1 r2
 obtain⟨a,xs,rfl,hq1,Vm⟩:=r1
 obtain⟨b,ys,rfl,hq2,Nz⟩:=r2
 cases rx
 cases ry
 obtain⟨zL,v1,Cm,_⟩:=I.tuple hq1
 obtain⟨its2,v2,Ju,_⟩:=I.tuple hq2
 have e1:zL.toArray.size=ds.length:=by rw[B6,←v1.length,Vm.length]
 have e2:its2.toArray.size=es.length:=by rw[B6,←v2.length,Nz.length]
 have rc:RcNeAt X.A s (.ref a) (.ref b) (!qJ (.tup ds) (.tup es)):=by
  have z:=RcNeAt.tuples (A:=X.A) (s:=s) (l:=a) (b:=b) Cm Ju (by omega) (zK I 32 X.A (λd e x y u v A a1 a2 a3 a4 a5 a6=>Gj I 32 d e x y u v A a1 a2 a3 a4 a5 a6) ds es xs ys zL its2 hd (by omega) Vm Nz v1 v2)
  rw[e1,e2]at z
  by_cases hl:ds.length=es.length
  ·rw[←hl,R3,jH hl]at z
   rw[Rx]
   simpa using z
  ·rw[dO (by intro z;cases z;exact hl rfl)]
   have zz:(ds.length==es.length)=false:=by simpa using hl
   rw[zz,c6]at z
   exact z
 exact rc X.prog X.w X.xe _ ⟨.bl _,H,I,rfl,q⟩
end
end L2


namespace L2
open PySem PySem.Spec PyProof.Rows
inductive D where
  | non | bl (b:Bool) | int (i:Int) | str (x:Str)
  | lst (ds:List D) | tup (ds:List D)
  | dk (ks:List Key) (ds:List D)
  | dt (ks:List (List Key)) (ds:List D)
  | ins (C:Addr) (nm:List Str) (ds:List D)
abbrev Fp:=Addr→Prop
def Apart(A B:Fp):Prop:=∀x,A x→¬B x
def Is(A B:Fp):Prop:=∀x,A x↔B x
def None(A:Fp):Prop:=∀x,¬A x
abbrev jA(A B:Fp):Fp:=λx=>A x∨B x
mutual
def Rv(K:aA)(H:Hp):D→V→Prop
 | .non,v=>v=.non
 | .bl b,v=>v=.bl b
 | .int i,v=>v=.int i
 | .str x,v=>v=.str x
 | .lst ds,v=>∃a xs,v=.ref a∧lH K H a xs∧bW K H ds xs
 | .tup ds,v=>∃a xs,v=.ref a∧mO K H a xs∧bW K H ds xs
 | .dk ks ds,v=>∃a xs,v=.ref a∧Rd H a (.dK (ks.zip xs))∧ks.length=xs.length∧bW K H ds xs
 | .dt ks ds,v=>∃a xs,v=.ref a∧Rd H a (.dT (ks.zip xs))∧ks.length=xs.length∧bW K H ds xs
 | .ins C nm ds,v=>∃a dx xs,v=.ref a∧H a=some (.ins C dx (nm.zip xs))∧nm.length=xs.length∧bW K H ds xs
def bW(K:aA)(H:Hp):List D→List V→Prop
 | [],xs=>xs=[]
 | d::ds,xs=>∃y ys,xs=y::ys∧Rv K H d y∧bW K H ds ys
end
theorem aN.rd{H H':Hp}(e:aN H H'){a:Addr}{u:HO}(h:Rd H a u):Rd H' a u:=by
 rcases h with h | ⟨o,h⟩
 ·exact .inl (e _ _ h)
 ·exact .inr ⟨o,e _ _ h⟩
mutual
theorem aN.rv{K:aA}{H H':Hp}(e:aN H H'):∀(d:D)(v:V),Rv K H d v→Rv K H' d v
 | .non,v,h=>by unfold Rv at h ⊢;exact h
 | .bl _,v,h=>by unfold Rv at h ⊢;exact h
 | .int _,v,h=>by unfold Rv at h ⊢;exact h
 | .str _,v,h=>by unfold Rv at h ⊢;exact h
 | .lst ds,v,h=>by unfold Rv at h ⊢;obtain⟨a,xs,r,hq,l⟩:=h;exact⟨a,xs,r,e.seq hq,aN.Vp e ds xs l⟩
 | .tup ds,v,h=>by unfold Rv at h ⊢;obtain⟨a,xs,r,hq,l⟩:=h;exact⟨a,xs,r,e.tup hq,aN.Vp e ds xs l⟩
 | .dk ks ds,v,h=>by unfold Rv at h ⊢;obtain⟨a,xs,r,hq,hl,l⟩:=h;exact⟨a,xs,r,e.rd hq,hl,aN.Vp e ds xs l⟩
 | .dt ks ds,v,h=>by unfold Rv at h ⊢;obtain⟨a,xs,r,hq,hl,l⟩:=h;exact⟨a,xs,r,e.rd hq,hl,aN.Vp e ds xs l⟩
 | .ins C nm ds,v,h=>by unfold Rv at h ⊢;obtain⟨a,dx,xs,r,hq,hl,l⟩:=h;exact⟨a,dx,xs,r,e _ _ hq,hl,aN.Vp e ds xs l⟩
theorem aN.Vp{K:aA}{H H':Hp}(e:aN H H'):∀(ds:List D)(xs:List V),bW K H ds xs→bW K H' ds xs
 | [],xs,h=>by unfold bW at h ⊢;exact h
 | d::ds,xs,h=>by unfold bW at h ⊢;obtain⟨y,ys,r,h1,h2⟩:=h;exact⟨y,ys,r,aN.rv e d y h1,aN.Vp e ds ys h2⟩
end
theorem bW.length{K:aA}{H:Hp}:∀{ds:List D} {xs:List V},bW K H ds xs→xs.length=ds.length
 | [],xs,h=>by unfold bW at h;subst h;rfl
 | d::ds,xs,h=>by unfold bW at h;obtain⟨y,ys,rfl,_,h2⟩:=h;rw[E7,E7,bW.length h2]
theorem bW.get{K:aA}{H:Hp}:∀{ds:List D} {xs:List V} {i:Nat} {d:D},bW K H ds xs→ds[i]?=some d→∃x,xs[i]?=some x∧Rv K H d x
 | [],xs,i,d,h,e=>by simp at e
 | d'::ds,xs,0,d,h,e=>by unfold bW at h;obtain⟨y,ys,rfl,h1,_⟩:=h;simp at e;subst e;exact⟨y,rfl,h1⟩
 | d'::ds,xs,i+1,d,h,e=>by
  unfold bW at h
  obtain⟨y,ys,rfl,_,h2⟩:=h
  obtain⟨x,e1,e2⟩:=bW.get (i:=i) (d:=d) h2 (by simpa using e)
  exact⟨x,by simpa using e1,e2⟩
theorem bW.of{K:aA}{H:Hp}:∀{ds:List D} {xs:List V},xs.length=ds.length→(∀(i:Nat)(d:D)(x:V),ds[i]?=some d→xs[i]?=some x→Rv K H d x)→bW K H ds xs
 | [],xs,hl,_=>by unfold bW;exact K4 hl
 | d::ds,[],hl,_=>by simp at hl
 | d::ds,x::xs,hl,h=>by
  unfold bW
  exact⟨x,xs,rfl,h 0 d x rfl rfl,bW.of (by simpa using hl) λi e y h1 h2=>h (i+1) e y (by simpa using h1) (by simpa using h2)⟩
theorem bW.snoc{K:aA}{H:Hp}{ds:List D}{xs:List V}{d:D}{x:V}(h:bW K H ds xs)(h1:Rv K H d x):bW K H (ds++[d]) (xs++[x]):=by
 induction ds generalizing xs with
 | nil=>unfold bW at h;subst h;rw[P6,P6];unfold bW;exact⟨x,[],rfl,h1,by unfold bW;rfl⟩
 | cons e es ih=>unfold bW at h;obtain⟨y,ys,rfl,h2,h3⟩:=h;rw[K7,K7];unfold bW;exact⟨y,_,rfl,h2,ih h3⟩
def gZ{α β:Type}(R:α→Fp→β→Prop):List α→Fp→List β→Prop
 | [],A,ys=>None A∧ys=[]
 | d::ds,A,ys=>∃y yt A1 A2,ys=y::yt∧Apart A1 A2∧Is A (jA A1 A2)∧R d A1 y∧gZ R ds A2 yt
section
variable{α β:Type}{R R':α→Fp→β→Prop}
theorem gZ.congr:∀{ds:List α} {A A':Fp} {ys:List β},gZ R ds A ys→Is A A'→gZ R ds A' ys
 | [],A,A',ys,h,e=>⟨λx q=>h.1 x ((e x).mpr q),h.2⟩
 | d::ds,A,A',ys,⟨y,yt,A1,A2,h1,h2,h3,h4⟩,e=>⟨y,yt,A1,A2,h1,h2,λx=>((e x).symm).trans (h3 x),h4⟩
theorem gZ.mono:∀{ds:List α} {A:Fp} {ys:List β},gZ R ds A ys→(∀e B z,(∀x,B x→A x)→R e B z→R' e B z)→gZ R' ds A ys
 | [],A,ys,h,_=>h
 | d::ds,A,ys,⟨y,yt,A1,A2,h1,h2,h3,h4,h5⟩,m=>
  ⟨y,yt,A1,A2,h1,h2,h3,m _ _ _ (λx q=>(h3 x).mpr (.inl q)) h4,h5.mono λe B z hb=>m e B z λx q=>(h3 x).mpr (.inr (hb x q))⟩
theorem gZ.focus:∀{ds:List α} {A:Fp} {ys:List β} {i:Nat} {d:α},gZ R ds A ys→ds[i]?=some d→∃y A1 C,ys[i]?=some y∧Apart A1 C∧Is A (jA A1 C)∧R d A1 y ∧
    ∀(R':α→Fp→β→Prop),(∀e B z,(∀x,B x→C x)→R e B z→R' e B z)→∀d' y' KH,Apart KH C→R' d' KH y'→gZ R' (ds.set i d') (jA KH C) (ys.set i y')
  | [],A,ys,i,d,h,e=>by simp at e
  | d0::ds,A,ys,0,d,⟨y,yt,A1,A2,h1,h2,h3,h4,h5⟩,e=>by
    simp at e
    subst e h1
    exact⟨y,A1,A2,rfl,h2,h3,h4,λR' m d' y' KH ap r=>⟨y',yt,KH,A2,rfl,ap,λx=>Iff.rfl,r,h5.mono m⟩⟩
  | d0::ds,A,ys,i+1,d,⟨y,yt,A1,A2,h1,h2,h3,h4,h5⟩,e=>by
    subst h1
    obtain⟨z,B1,C,e1,ap,hA,r,k⟩:=gZ.focus (i:=i) (d:=d) h5 (by simpa using e)
    refine⟨z,B1,jA A1 C,by simpa using e1,?_,?_,r,λR' m d' y' KH ap' r'=>?_⟩
    · intro x hx hc
      rcases hc with hc | hc
      · exact h2 x hc ((hA x).mpr (.inl hx))
      · exact ap x hx hc
    · intro x
      rw[h3 x]
      constructor
      · rintro(q | q)
        · exact .inr (.inl q)
        · rcases(hA x).mp q with q | q
          · exact .inl q
          · exact .inr (.inr q)
      · rintro(q | q | q)
        · exact .inr ((hA x).mpr (.inl q))
        · exact .inl q
        · exact .inr ((hA x).mpr (.inr q))
    · refine⟨y,_,A1,jA KH C,rfl,?_,?_,m _ _ _ (λx q=>.inl q) h4,k R' (λe B z hb=>m e B z λx q=>.inr (hb x q)) d' y' KH (λx q q'=>ap' x q (.inr q')) r'⟩
      · intro x q q'
        rcases q' with q' | q'
        · exact ap' x q' (.inl q)
        · exact h2 x q ((hA x).mpr (.inr q'))
      · intro x
        show (KH x∨A1 x∨C x)↔(A1 x∨KH x∨C x)
        constructor
        · rintro(q | q | q)
          · exact .inr (.inl q)
          · exact .inl q
          · exact .inr (.inr q)
        · rintro(q | q | q)
          · exact .inr (.inl q)
          · exact .inl q
          · exact .inr (.inr q)
theorem gZ.snoc:∀{ds:List α} {A A1:Fp} {ys:List β} {d:α} {y:β},gZ R ds A ys→R d A1 y→Apart A A1→gZ R (ds++[d]) (jA A A1) (ys++[y])
 | [],A,A1,ys,d,y,h,r,ap=>by
  rw[h.2]
  exact⟨y,[],A1,λ_=>False,rfl,λ_ _ z=>z,λx=>⟨λq=>q.elim (λq=>absurd q (h.1 x)) .inl,λq=>q.elim .inr False.elim⟩,r,λ_ z=>z,rfl⟩
 | d0::ds,A,A1,ys,d,y,⟨y0,yt,B1,B2,h1,h2,h3,h4,h5⟩,r,ap=>by
  subst h1
  refine⟨y0,yt++[y],B1,jA B2 A1,rfl,?_,?_,h4,gZ.snoc h5 r λx q=>ap x ((h3 x).mpr (.inr q))⟩
  ·intro x q q'
   rcases q' with q' | q'
   ·exact h2 x q q'
   ·exact ap x ((h3 x).mpr (.inl q)) q'
  ·intro x
   show (A x∨A1 x)↔(B1 x∨B2 x∨A1 x)
   rw[h3 x]
   exact or_assoc
end
mutual
def Ow(K:aA)(H:Hp):D→Fp→V→Prop
 | .non,A,v=>None A∧v=.non
 | .bl b,A,v=>None A∧v=.bl b
 | .int i,A,v=>None A∧v=.int i
 | .str x,A,v=>None A∧v=.str x
 | .lst ds,A,v=>∃a xs B,v=.ref a∧H a=some (.lst xs)∧¬B a∧Is A (jA (·=a) B)∧dU K H ds B xs
 | .tup ds,A,v=>∃a xs,v=.ref a∧mO K H a xs∧dU K H ds A xs
 | .dk ks ds,A,v=>∃a xs B,v=.ref a∧H a=some (.dK (ks.zip xs))∧ks.length=xs.length∧¬B a∧Is A (jA (·=a) B)∧dU K H ds B xs
 | .dt ks ds,A,v=>∃a xs B,v=.ref a∧H a=some (.dT (ks.zip xs))∧ks.length=xs.length∧¬B a∧Is A (jA (·=a) B)∧dU K H ds B xs
 | .ins C nm ds,A,v=>∃a dx xs B,v=.ref a∧H a=some (.ins C dx (nm.zip xs))∧H dx=some (.own a)∧nm.length=xs.length∧¬B a∧¬B dx∧Is A (jA (λx=>x=a∨x=dx) B)∧dU K H ds B xs
def dU(K:aA)(H:Hp):List D→Fp→List V→Prop
 | [],A,ys=>None A∧ys=[]
 | d::ds,A,ys=>∃y yt A1 A2,ys=y::yt∧Apart A1 A2∧Is A (jA A1 A2)∧Ow K H d A1 y∧dU K H ds A2 yt
end
theorem gJ{K:aA}{H:Hp}:∀{ds:List D} {A:Fp} {ys:List V},dU K H ds A ys↔gZ (Ow K H) ds A ys
 | [],A,ys=>by unfold dU gZ;exact Iff.rfl
 | d::ds,A,ys=>by
  unfold dU gZ
  constructor
  ·rintro⟨y,yt,A1,A2,h1,h2,h3,h4,h5⟩;exact⟨y,yt,A1,A2,h1,h2,h3,h4,gJ.mp h5⟩
  ·rintro⟨y,yt,A1,A2,h1,h2,h3,h4,h5⟩;exact⟨y,yt,A1,A2,h1,h2,h3,h4,gJ.mpr h5⟩
def xX(K:aA)(H H':Hp):Prop:=∀a xs,mO K H a xs→mO K H' a xs
theorem aN.tk{K:aA}{H H':Hp}(e:aN H H'):xX K H H':=λ_ _ h=>e.tup h
theorem Ow.congr{K:aA}{H:Hp}{d:D}{A A':Fp}{v:V}(h:Ow K H d A v)(e:Is A A'):Ow K H d A' v:=by
 cases d with
 | non=>unfold Ow at h ⊢;exact⟨λx q=>h.1 x ((e x).mpr q),h.2⟩
 | bl b=>unfold Ow at h ⊢;exact⟨λx q=>h.1 x ((e x).mpr q),h.2⟩
 | int b=>unfold Ow at h ⊢;exact⟨λx q=>h.1 x ((e x).mpr q),h.2⟩
 | str b=>unfold Ow at h ⊢;exact⟨λx q=>h.1 x ((e x).mpr q),h.2⟩
 | lst ds=>unfold Ow at h ⊢;obtain⟨a,xs,B,h1,h2,h3,h4,h5⟩:=h;exact⟨a,xs,B,h1,h2,h3,λx=>(e x).symm.trans (h4 x),h5⟩
 | tup ds=>unfold Ow at h ⊢;obtain⟨a,xs,h1,h2,h3⟩:=h;exact⟨a,xs,h1,h2,gJ.mpr ((gJ.mp h3).congr e)⟩
 | dk ks ds=>unfold Ow at h ⊢;obtain⟨a,xs,B,h1,h2,h2',h3,h4,h5⟩:=h;exact⟨a,xs,B,h1,h2,h2',h3,λx=>(e x).symm.trans (h4 x),h5⟩
 | dt ks ds=>unfold Ow at h ⊢;obtain⟨a,xs,B,h1,h2,h2',h3,h4,h5⟩:=h;exact⟨a,xs,B,h1,h2,h2',h3,λx=>(e x).symm.trans (h4 x),h5⟩
 | ins C nm ds=>unfold Ow at h ⊢;obtain⟨a,dx,xs,B,h1,h2,h2',h3,h3',h3'',h4,h5⟩:=h;exact⟨a,dx,xs,B,h1,h2,h2',h3,h3',h3'',λx=>(e x).symm.trans (h4 x),h5⟩
mutual
theorem Ow.frame{K:aA}{H H':Hp}(t:xX K H H'):∀(d:D)(A:Fp)(v:V),Ow K H d A v→(∀a,A a→H' a=H a)→Ow K H' d A v
 | .non,A,v,h,f=>by unfold Ow at h ⊢;exact h
 | .bl _,A,v,h,f=>by unfold Ow at h ⊢;exact h
 | .int _,A,v,h,f=>by unfold Ow at h ⊢;exact h
 | .str _,A,v,h,f=>by unfold Ow at h ⊢;exact h
 | .lst ds,A,v,h,f=>by
  unfold Ow at h ⊢
  obtain⟨a,xs,B,h1,h2,h3,h4,h5⟩:=h
  exact⟨a,xs,B,h1,(f a ((h4 a).mpr (.inl rfl))).trans h2,h3,h4,dU.frame t ds B xs h5 λb q=>f b ((h4 b).mpr (.inr q))⟩
 | .tup ds,A,v,h,f=>by unfold Ow at h ⊢;obtain⟨a,xs,h1,h2,h3⟩:=h;exact⟨a,xs,h1,t _ _ h2,dU.frame t ds A xs h3 f⟩
 | .dk ks ds,A,v,h,f=>by
  unfold Ow at h ⊢
  obtain⟨a,xs,B,h1,h2,h2',h3,h4,h5⟩:=h
  exact⟨a,xs,B,h1,(f a ((h4 a).mpr (.inl rfl))).trans h2,h2',h3,h4,dU.frame t ds B xs h5 λb q=>f b ((h4 b).mpr (.inr q))⟩
 | .dt ks ds,A,v,h,f=>by
  unfold Ow at h ⊢
  obtain⟨a,xs,B,h1,h2,h2',h3,h4,h5⟩:=h
  exact⟨a,xs,B,h1,(f a ((h4 a).mpr (.inl rfl))).trans h2,h2',h3,h4,dU.frame t ds B xs h5 λb q=>f b ((h4 b).mpr (.inr q))⟩
 | .ins C nm ds,A,v,h,f=>by
  unfold Ow at h ⊢
  obtain⟨a,dx,xs,B,h1,h2,h2',h3,h3',h3'',h4,h5⟩:=h
  exact⟨a,dx,xs,B,h1,(f a ((h4 a).mpr (.inl (.inl rfl)))).trans h2,(f dx ((h4 dx).mpr (.inl (.inr rfl)))).trans h2',h3,h3',h3'',h4,dU.frame t ds B xs h5 λb q=>f b ((h4 b).mpr (.inr q))⟩
theorem dU.frame{K:aA}{H H':Hp}(t:xX K H H'):∀(ds:List D)(A:Fp)(ys:List V),dU K H ds A ys→(∀a,A a→H' a=H a)→dU K H' ds A ys
 | [],A,ys,h,f=>by unfold dU at h ⊢;exact h
 | d::ds,A,ys,h,f=>by
  unfold dU at h ⊢
  obtain⟨y,yt,A1,A2,h1,h2,h3,h4,h5⟩:=h
  exact⟨y,yt,A1,A2,h1,h2,h3,Ow.frame t d A1 y h4 λb q=>f b ((h3 b).mpr (.inl q)),dU.frame t ds A2 yt h5 λb q=>f b ((h3 b).mpr (.inr q))⟩
end
mutual
theorem Ow.rv{K:aA}{H:Hp}:∀(d:D)(A:Fp)(v:V),Ow K H d A v→Rv K H d v
 | .non,A,v,h=>by unfold Ow at h;unfold Rv;exact h.2
 | .bl _,A,v,h=>by unfold Ow at h;unfold Rv;exact h.2
 | .int _,A,v,h=>by unfold Ow at h;unfold Rv;exact h.2
 | .str _,A,v,h=>by unfold Ow at h;unfold Rv;exact h.2
 | .lst ds,A,v,h=>by unfold Ow at h;unfold Rv;obtain⟨a,xs,B,h1,h2,h3,h4,h5⟩:=h;exact⟨a,xs,h1,lH.of h2,dU.rv ds B xs h5⟩
 | .tup ds,A,v,h=>by unfold Ow at h;unfold Rv;obtain⟨a,xs,h1,h2,h3⟩:=h;exact⟨a,xs,h1,h2,dU.rv ds A xs h3⟩
 | .dk ks ds,A,v,h=>by unfold Ow at h;unfold Rv;obtain⟨a,xs,B,h1,h2,h2',h3,h4,h5⟩:=h;exact⟨a,xs,h1,.inl h2,h2',dU.rv ds B xs h5⟩
 | .dt ks ds,A,v,h=>by unfold Ow at h;unfold Rv;obtain⟨a,xs,B,h1,h2,h2',h3,h4,h5⟩:=h;exact⟨a,xs,h1,.inl h2,h2',dU.rv ds B xs h5⟩
 | .ins C nm ds,A,v,h=>by unfold Ow at h;unfold Rv;obtain⟨a,dx,xs,B,h1,h2,h2',h3,h3',h3'',h4,h5⟩:=h;exact⟨a,dx,xs,h1,h2,h3,dU.rv ds B xs h5⟩
theorem dU.rv{K:aA}{H:Hp}:∀(ds:List D)(A:Fp)(ys:List V),dU K H ds A ys→bW K H ds ys
 | [],A,ys,h=>by unfold dU at h;unfold bW;exact h.2
 | d::ds,A,ys,h=>by unfold dU at h;unfold bW;obtain⟨y,yt,A1,A2,h1,h2,h3,h4,h5⟩:=h;exact⟨y,yt,h1,Ow.rv d A1 y h4,dU.rv ds A2 yt h5⟩
end
def qK(H:Hp)(a:Addr):Prop:=(∃o,H a=some o)∧tE H a
mutual
theorem Ow.cells{K:aA}{H:Hp}:∀(d:D)(A:Fp)(v:V),Ow K H d A v→∀a,A a→qK H a
 | .non,A,v,h,a,q=>by unfold Ow at h;exact absurd q (h.1 a)
 | .bl _,A,v,h,a,q=>by unfold Ow at h;exact absurd q (h.1 a)
 | .int _,A,v,h,a,q=>by unfold Ow at h;exact absurd q (h.1 a)
 | .str _,A,v,h,a,q=>by unfold Ow at h;exact absurd q (h.1 a)
 | .lst ds,A,v,h,a,q=>by
  unfold Ow at h
  obtain⟨p,xs,B,h1,h2,h3,h4,h5⟩:=h
  rcases(h4 a).mp q with z | z
  ·cases z;exact⟨⟨_,h2⟩,rO h2⟩
  ·exact dU.cells ds B xs h5 a z
 | .tup ds,A,v,h,a,q=>by unfold Ow at h;obtain⟨p,xs,h1,h2,h3⟩:=h;exact dU.cells ds A xs h3 a q
 | .dk ks ds,A,v,h,a,q=>by
  unfold Ow at h
  obtain⟨p,xs,B,h1,h2,h2',h3,h4,h5⟩:=h
  rcases(h4 a).mp q with z | z
  ·cases z;exact⟨⟨_,h2⟩,zM h2⟩
  ·exact dU.cells ds B xs h5 a z
 | .dt ks ds,A,v,h,a,q=>by
  unfold Ow at h
  obtain⟨p,xs,B,h1,h2,h2',h3,h4,h5⟩:=h
  rcases(h4 a).mp q with z | z
  ·cases z;exact⟨⟨_,h2⟩,λys e=>(by rw[h2]at e;cases e),λo ys e=>(by rw[h2]at e;cases e)⟩
  ·exact dU.cells ds B xs h5 a z
 | .ins C nm ds,A,v,h,a,q=>by
  unfold Ow at h
  obtain⟨p,dx,xs,B,h1,h2,h2',h3,h3',h3'',h4,h5⟩:=h
  rcases(h4 a).mp q with (z | z) | z
  ·cases z;exact⟨⟨_,h2⟩,λys e=>(by rw[h2]at e;cases e),λo ys e=>(by rw[h2]at e;cases e)⟩
  ·cases z;exact⟨⟨_,h2'⟩,λys e=>(by rw[h2']at e;cases e),λo ys e=>(by rw[h2']at e;cases e)⟩
  ·exact dU.cells ds B xs h5 a z
theorem dU.cells{K:aA}{H:Hp}:∀(ds:List D)(A:Fp)(ys:List V),dU K H ds A ys→∀a,A a→qK H a
 | [],A,ys,h,a,q=>by unfold dU at h;exact absurd q (h.1 a)
 | d::ds,A,ys,h,a,q=>by
  unfold dU at h
  obtain⟨y,yt,A1,A2,h1,h2,h3,h4,h5⟩:=h
  rcases(h3 a).mp q with z | z
  ·exact Ow.cells d A1 y h4 a z
  ·exact dU.cells ds A2 yt h5 a z
end
mutual
def D.fU:D→Bool
  | .non=>true | .bl _=>true | .int _=>true | .str _=>true
  | .tup ds=>D.bB ds
  | _=>false
def D.bB:List D→Bool
  | []=>true
  | d::ds=>D.fU d&&D.bB ds
end
abbrev nil:Fp:=λ_=>False
mutual
theorem vU{K:aA}{H:Hp}:∀(d:D)(v:V),d.fU=true→Rv K H d v→Ow K H d nil v
 | .non,v,_,h=>by unfold Rv at h;unfold Ow;exact⟨λ_ z=>z,h⟩
 | .bl _,v,_,h=>by unfold Rv at h;unfold Ow;exact⟨λ_ z=>z,h⟩
 | .int _,v,_,h=>by unfold Rv at h;unfold Ow;exact⟨λ_ z=>z,h⟩
 | .str _,v,_,h=>by unfold Rv at h;unfold Ow;exact⟨λ_ z=>z,h⟩
 | .tup ds,v,i,h=>by unfold D.fU at i;unfold Rv at h;unfold Ow;obtain⟨a,xs,h1,h2,h3⟩:=h;exact⟨a,xs,h1,h2,rP ds xs i h3⟩
 | .lst ds,v,i,h=>by unfold D.fU at i;cases i
 | .dk _ ds,v,i,h=>by unfold D.fU at i;cases i
 | .dt _ ds,v,i,h=>by unfold D.fU at i;cases i
 | .ins _ _ ds,v,i,h=>by unfold D.fU at i;cases i
theorem rP{K:aA}{H:Hp}:∀(ds:List D)(ys:List V),D.bB ds=true→bW K H ds ys→dU K H ds nil ys
 | [],ys,_,h=>by unfold bW at h;unfold dU;exact⟨λ_ z=>z,h⟩
 | d::ds,ys,i,h=>by
  unfold D.bB at i
  rw[D7]at i
  unfold bW at h
  unfold dU
  obtain⟨y,yt,h1,h2,h3⟩:=h
  exact⟨y,yt,nil,nil,h1,λ_ z _=>z,λx=>⟨False.elim,λz=>z.elim id id⟩,vU d y i.1 h2,rP ds yt i.2 h3⟩
end
open Classical in
noncomputable def out(H:Hp)(A:Fp):Hp:=λa=>if A a then none else H a
theorem jw{H:Hp}{A:Fp}{a:Addr}(h:¬A a):out H A a=H a:=by unfold out;rw[if_neg h]
theorem bK{H:Hp}{A:Fp}{a:Addr}{o:HO}:out H A a=some o↔¬A a∧H a=some o:=by
 unfold out
 split
 ·rename_i h;exact⟨λz=>(by cases z),λz=>absurd h z.1⟩
 ·rename_i h;exact⟨λz=>⟨h,z⟩,λz=>z.2⟩
theorem gA(H:Hp)(A:Fp):aN (out H A) H:=λb o h=>(bK.mp h).2
theorem Ys{K:aA}{H:Hp}{A:Fp}(h:∀a,A a→tE H a):xX K H (out H A):=λa xs q=>by
 rcases q with (q | ⟨o,q⟩) | q
 ·exact .inl (.inl (bK.mpr ⟨λz=>(h a z).1 _ q,q⟩))
 ·exact .inl (.inr ⟨o,bK.mpr ⟨λz=>(h a z).2 _ _ q,q⟩⟩)
 ·exact .inr q
theorem Ow.out{K:aA}{H:Hp}{d:D}{A A':Fp}{v:V}(h:Ow K H d A' v)(ap:Apart A' A)(c:∀a,A a→tE H a):Rv K (out H A) d v:=
 Ow.rv d A' v (Ow.frame (Ys c) d A' v h λa q=>jw (ap a q))
end L2


namespace L2
open PySem PySem.Spec PyProof.Rows
abbrev DE:=List (Option D)
abbrev FE:=DE→Option D
abbrev FA:=DE→Option (List D)
abbrev FT:=DE→Option Bool
def sX(K:aA)(H:Hp)(e:DE)(σ:St):Prop:=∀(i:Nat)(d:D),e[i]?=some (some d)→∃v,σ[i]?=some (some v)∧Rv K H d v
theorem sX.same{K:aA}{H H':Hp}{e:DE}{σ:St}(h:sX K H e σ)(s:aN H H'):sX K H' e σ:=λi d q=>let ⟨v,h1,h2⟩:=h i d q;⟨v,h1,s.rv _ _ h2⟩
structure Zn(K:aA)(N:Fp)(Z H:Hp):Prop where
 sm:aN Z H
 tk:xX K H Z
 no:∀a,N a→Z a=none∧¬H a=none
theorem Zn.self(K:aA)(H:Hp):Zn K nil H H:=⟨aN.refl _,λ_ _ h=>h,λ_ z=>z.elim⟩
theorem xX.trans{K:aA}{H H1 H2:Hp}(a:xX K H H1)(b:xX K H1 H2):xX K H H2:=λp xs h=>b p xs (a p xs h)
theorem Ow.same{K:aA}{H H':Hp}{d:D}{A:Fp}{v:V}(h:Ow K H d A v)(s:aN H H'):Ow K H' d A v:=
 Ow.frame s.tk d A v h λa q=>by
  obtain⟨⟨o,e⟩,_⟩:=Ow.cells d A v h a q
  rw[e];exact s a o e
theorem dU.same{K:aA}{H H':Hp}{ds:List D}{A:Fp}{vs:List V}(h:dU K H ds A vs)(s:aN H H'):dU K H' ds A vs:=
 dU.frame s.tk ds A vs h λa q=>by
  obtain⟨⟨o,e⟩,_⟩:=dU.cells ds A vs h a q
  rw[e];exact s a o e
def Gm(K:aA)(H H':Hp)(d:D)(v:V):Prop:=∃A,Ow K H' d A v∧∀a,A a→H a=none
def Cr(K:aA)(H H':Hp)(ds:List D)(vs:List V):Prop:=∃A,dU K H' ds A vs∧∀a,A a→H a=none
theorem Gm.rv{K:aA}{H H':Hp}{d:D}{v:V}(h:Gm K H H' d v):Rv K H' d v:=let ⟨A,o,_⟩:=h;Ow.rv d A v o
theorem Cr.rv{K:aA}{H H':Hp}{ds:List D}{vs:List V}(h:Cr K H H' ds vs):bW K H' ds vs:=let ⟨A,o,_⟩:=h;dU.rv ds A vs o
theorem Gm.back{K:aA}{H0 H H':Hp}{d:D}{v:V}(h:Gm K H H' d v)(s:aN H0 H):Gm K H0 H' d v:=let ⟨A,o,f⟩:=h;⟨A,o,λa q=>s.free (f a q)⟩
theorem Gm.fU{K:aA}{H H':Hp}{d:D}{v:V}(i:d.fU=true)(h:Rv K H' d v):Gm K H H' d v:=⟨nil,vU d v i h,λ_ z=>z.elim⟩
theorem Cr.bB{K:aA}{H H':Hp}{ds:List D}{vs:List V}(i:D.bB ds=true)(h:bW K H' ds vs):Cr K H H' ds vs:=⟨nil,rP ds vs i h,λ_ z=>z.elim⟩
open Classical in
noncomputable def Gn(Z H H':Hp):Hp:=λa=>if H a=none then H' a else Z a
theorem uL{Z H H':Hp}{a:Addr}(h:H a=none):Gn Z H H' a=H' a:=by unfold Gn;rw[if_pos h]
theorem zO{Z H H':Hp}{a:Addr}(h:¬H a=none):Gn Z H H' a=Z a:=by unfold Gn;rw[if_neg h]
theorem vV{K:aA}{N:Fp}{Z H H':Hp}(z:Zn K N Z H):aN Z (Gn Z H H'):=λb o e=>by
 rw[zO (by rw[z.sm b o e];intro q;cases q)];exact e
theorem Gp{K:aA}{N:Fp}{Z H H':Hp}(z:Zn K N Z H)(s:aN H H'):Zn K N (Gn Z H H') H' where
  sm:=λb o e=>by
    by_cases c:H b=none
    · rw[uL c]at e;exact e
    · rw[zO c]at e;exact s b o (z.sm b o e)
  tk:=λa xs h=>by
    by_cases c:H a=none
    · rcases h with (h | ⟨o,h⟩) | h
      · exact .inl (.inl (by rw[uL c];exact h))
      · exact .inl (.inr ⟨o,by rw[uL c];exact h⟩)
      · exact .inr h
    · have q:mO K H a xs:=by
        rcases h with (h | ⟨o,h⟩) | h
        · cases e:H a with
          | none=>exact absurd e c
          | some o=>have:=s a o e;rw[h]at this;cases this;exact .inl (.inl e)
        · cases e:H a with
          | none=>exact absurd e c
          | some o=>have:=s a o e;rw[h]at this;cases this;exact .inl (.inr ⟨_,e⟩)
        · exact .inr h
      exact(vV z).tup (z.tk a xs q)
  no:=λa q=>⟨by rw[zO (z.no a q).2];exact(z.no a q).1,λh=>(z.no a q).2 (s.free h)⟩
theorem Gm.zone{K:aA}{N:Fp}{Z H H':Hp}{d:D}{v:V}(h:Gm K H H' d v)(z:Zn K N Z H)(s:aN H H'):Rv K (Gn Z H H') d v:=by
 obtain⟨A,o,f⟩:=h
 exact Ow.rv d A v (Ow.frame (Gp z s).tk d A v o λa q=>uL (f a q))
def Iz(K:aA)(t:TE)(f:FE):Prop:=∀{N:Fp}(σ:St)(H Z:Hp)(e:DE)(d:D)(Q:VK),Zn K N Z H→sX K Z e σ→f e=some d →
 (∀v H' Z',aN H H'→aN Z Z'→Zn K N Z' H'→Rv K Z' d v→Q v H')→t σ H Q
def Gq(K:aA)(t:TE)(f:FE):Prop:=∀(σ:St)(H:Hp)(e:DE)(d:D)(Q:VK),sX K H e σ→f e=some d →
 (∀v H',aN H H'→Gm K H H' d v→Q v H')→t σ H Q
def Ob(K:aA)(t:TT)(f:FT):Prop:=∀(σ:St)(H:Hp)(e:DE)(b:Bool)(Q:Bool→Hp→Prop),sX K H e σ→f e=some b→(∀H',aN H H'→Q b H')→t σ H Q
def wk(K:aA)(t:TA)(f:FA):Prop:=∀{N:Fp}(σ:St)(H Z:Hp)(e:DE)(ds:List D)(Q:List V→Hp→Prop),Zn K N Z H→sX K Z e σ→f e=some ds →
 (∀vs H' Z',aN H H'→aN Z Z'→Zn K N Z' H'→bW K Z' ds vs→Q vs H')→t σ H Q
def wu(K:aA)(t:TA)(f:FA):Prop:=∀(σ:St)(H:Hp)(e:DE)(ds:List D)(Q:List V→Hp→Prop),sX K H e σ→f e=some ds →
 (∀vs H',aN H H'→Cr K H H' ds vs→Q vs H')→t σ H Q
theorem Gq.r{K:aA}{t:TE}{f:FE}(h:Gq K t f):Iz K t f:=λσ H Z e d Q z r q k=>
 h σ H e d Q (r.same z.sm) q λv H' s n=>k v H' (Gn Z H H') s (vV z) (Gp z s) (n.zone z s)
def cC(f:FE):FE:=λe=>(f e).bind λd=>if d.fU=true then some d else none
theorem Dz{f:FE}{e:DE}{d:D}:cC f e=some d↔f e=some d∧d.fU=true:=by
 unfold cC
 cases q:f e with
 | none=>simp
 | some a=>
  simp only[C3]
  split
  ·rename_i h;constructor
   ·intro z;cases z;exact⟨rfl,h⟩
   ·rintro⟨z,_⟩;exact z
  ·rename_i h;constructor
   ·intro z;cases z
   ·rintro⟨z,z2⟩;cases z;exact absurd z2 h
theorem Iz.n{K:aA}{t:TE}{f:FE}(h:Iz K t f):Gq K t (cC f):=λσ H e d Q r q k=>by
 obtain⟨q1,q2⟩:=Dz.mp q
 exact h σ H H e d Q (Zn.self K H) r q1 λv H' Z' s1 s2 z' rv=>k v H' s1 (.fU q2 (z'.sm.rv _ _ rv))
def aB(i:Nat):FE:=λe=>(e[i]?).getD none
theorem jx{K:aA}(i:Nat):Iz K (sS i) (aB i):=λσ H Z e d Q z r q k=>by
 have e1:e[i]?=some (some d):=by
  unfold aB at q
  cases h:e[i]? with
  | none=>rw[h]at q;cases q
  | some o=>rw[h]at q;cases q;rfl
 obtain⟨v,h1,h2⟩:=r i d e1
 exact⟨v,h1,k v H Z (aN.refl _) (aN.refl _) z h2⟩
def fC(d:D):FE:=λ_=>some d
theorem Yt{K:aA}(i:Int):Gq K (tC (.int i)) (fC (.int i)):=λσ H e d Q r q k=>by cases q;exact k _ H (aN.refl _) (.fU rfl (by unfold Rv;rfl))
theorem aAe{K:aA}(i:Bool):Gq K (tC (.bl i)) (fC (.bl i)):=λσ H e d Q r q k=>by cases q;exact k _ H (aN.refl _) (.fU rfl (by unfold Rv;rfl))
def f2(φ:D→D→Option D)(f g:FE):FE:=λe=>(f e).bind λa=>(g e).bind λb=>φ a b
theorem uM{φ:D→D→Option D}{f g:FE}{e:DE}{d:D}(h:f2 φ f g e=some d):∃a b,f e=some a∧g e=some b∧φ a b=some d:=by
 unfold f2 at h
 obtain⟨a,h1,h2⟩:=aV h
 obtain⟨b,h3,h4⟩:=aV h2
 exact⟨a,b,h1,h3,h4⟩
def OpD(K:aA)(r:R2)(φ:D→D→Option D):Prop:=∀{N:Fp}(x y:V)(H Z:Hp)(a b d:D)(Q:VK),Zn K N Z H→Rv K Z a x→Rv K Z b y→φ a b=some d →
 (∀v H' Z',aN H H'→aN Z Z'→Zn K N Z' H'→Rv K Z' d v→Q v H')→r x y H Q
def Yu(K:aA)(r:R2)(φ:D→D→Option D):Prop:=∀(x y:V)(H:Hp)(a b d:D)(Q:VK),Rv K H a x→Rv K H b y→φ a b=some d →
 (∀v H',aN H H'→Gm K H H' d v→Q v H')→r x y H Q
theorem aAf{K:aA}{r:R2}{φ:D→D→Option D}{ta tb:TE}{f g:FE}(o:OpD K r φ)(ha:Iz K ta f)(hb:Iz K tb g):Iz K (Fv r ta tb) (f2 φ f g):=λσ H Z e d Q z re q k=>by
 obtain⟨a,b,h1,h2,h3⟩:=uM q
 refine ha σ H Z e a _ z re h1 λx H1 Z1 s1 t1 z1 rx=>hb σ H1 Z1 e b _ z1 (re.same t1) h2 λy H2 Z2 s2 t2 z2 ry=>?_
 exact o x y H2 Z2 a b d Q z2 (t2.rv _ _ rx) ry h3 λv H3 Z3 s3 t3 z3 rv=>k v H3 Z3 (s1.trans (s2.trans s3)) (t1.trans (t2.trans t3)) z3 rv
theorem Yv{K:aA}{r:R2}{φ:D→D→Option D}{ta tb:TE}{f g:FE}(o:Yu K r φ)(ha:Iz K ta f)(hb:Iz K tb g):Gq K (Fv r ta tb) (f2 φ f g):=λσ H e d Q re q k=>by
 obtain⟨a,b,h1,h2,h3⟩:=uM q
 refine ha σ H H e a _ (Zn.self K H) re h1 λx H1 Z1 s1 t1 z1 rx=>hb σ H1 Z1 e b _ z1 (re.same t1) h2 λy H2 Z2 s2 t2 z2 ry=>?_
 exact o x y H2 a b d Q (z2.sm.rv _ _ (t2.rv _ _ rx)) (z2.sm.rv _ _ ry) h3 λv H3 s3 n=>k v H3 (s1.trans (s2.trans s3)) (n.back (s1.trans s2))
def yH(C:Int→Int→Prop) [∀i j,Decidable (C i j)] (g:Int→Int→D):D→D→Option D
 | .int i,.int j=>if C i j then some (g i j)else none
 | _,_=>none
theorem zP{C:Int→Int→Prop} [∀i j,Decidable (C i j)] {g:Int→Int→D} {a b d:D} (h:yH C g a b=some d):∃i j,a=.int i∧b=.int j∧C i j∧d=g i j:=by
 unfold yH at h
 split at h
 ·split at h
  ·rename_i i j c;cases h;exact⟨i,j,rfl,rfl,c,rfl⟩
  ·cases h
 ·cases h
theorem zQ{K:aA}{C:Int→Int→Prop} [∀i j,Decidable (C i j)] {C':Int→Int→Prop} (hC:∀i j,C i j→C' i j) {g:Int→Int→Int}:Yu K (rI C' λi j=>.int (g i j)) (yH C λi j=>.int (g i j)):=λx y H a b d Q ra rb q k=>by
 obtain⟨i,j,rfl,rfl,c,rfl⟩:=zP q
 unfold Rv at ra rb
 exact⟨i,j,ra,rb,hC i j c,k _ H (aN.refl _) (.fU rfl (by unfold Rv;rfl))⟩
theorem QW{K:aA}{g:Int→Int→Int}:Yu K (Xl λi j=>.int (g i j)) (yH (λ_ _=>True) λi j=>.int (g i j)):=λx y H a b d Q ra rb q k=>by
 obtain⟨i,j,rfl,rfl,c,rfl⟩:=zP q
 unfold Rv at ra rb
 exact⟨i,j,ra,rb,k _ H (aN.refl _) (.fU rfl (by unfold Rv;rfl))⟩
theorem lN{K:aA}{g:Int→Int→Bool}:Yu K (Xl λi j=>.bl (g i j)) (yH (λ_ _=>True) λi j=>.bl (g i j)):=λx y H a b d Q ra rb q k=>by
 obtain⟨i,j,rfl,rfl,c,rfl⟩:=zP q
 unfold Rv at ra rb
 exact⟨i,j,ra,rb,k _ H (aN.refl _) (.fU rfl (by unfold Rv;rfl))⟩
def aM:FA:=λ_=>some []
def aC(f:FE)(fs:FA):FA:=λe=>(f e).bind λa=>(fs e).bind λr=>some (a::r)
theorem xK{f:FE}{fs:FA}{e:DE}{ds:List D}(h:aC f fs e=some ds):∃a r,f e=some a∧fs e=some r∧ds=a::r:=by
 unfold aC at h
 obtain⟨a,h1,h2⟩:=aV h
 obtain⟨b,h3,h4⟩:=aV h2
 cases h4
 exact⟨a,b,h1,h3,rfl⟩
theorem jy{K:aA}:wk K vO aM:=λσ H Z e ds Q z re q k=>by cases q;exact k [] H Z (aN.refl _) (aN.refl _) z (by unfold bW;rfl)
theorem QX{K:aA}{te:TE}{t:TA}{f:FE}{fs:FA}(h:Iz K te f)(hs:wk K t fs):wk K (mR te t) (aC f fs):=λσ H Z e ds Q z re q k=>by
 obtain⟨a,r,h1,h2,rfl⟩:=xK q
 refine h σ H Z e a _ z re h1 λx H1 Z1 s1 t1 z1 rx=>hs σ H1 Z1 e r _ z1 (re.same t1) h2 λvs H2 Z2 s2 t2 z2 rs=>?_
 exact k _ H2 Z2 (s1.trans s2) (t1.trans t2) z2 (by unfold bW;exact⟨x,vs,rfl,t2.rv _ _ rx,rs⟩)
theorem jz{K:aA}:wu K vO aM:=λσ H e ds Q re q k=>by cases q;exact k [] H (aN.refl _) (.bB rfl (by unfold bW;rfl))
theorem QZ{K:aA}{te:TE}{t:TA}{f:FE}{fs:FA}(h:Gq K te f)(hs:wu K t fs):wu K (mR te t) (aC f fs):=λσ H e ds Q re q k=>by
 obtain⟨a,r,h1,h2,rfl⟩:=xK q
 refine h σ H e a _ re h1 λx H1 s1 n1=>hs σ H1 e r _ (re.same s1) h2 λvs H2 s2 n2=>?_
 refine k _ H2 (s1.trans s2) ?_
 obtain⟨A,oA,fA⟩:=n1
 obtain⟨B,oB,fB⟩:=n2
 refine⟨jA A B,?_,λp q=>q.elim (fA p) λz=>s1.free (fB p z)⟩
 unfold dU
 refine⟨x,vs,A,B,rfl,λp qa qb=>?_,λ_=>Iff.rfl,oA.same s2,oB⟩
 obtain⟨⟨o,e1⟩,_⟩:=Ow.cells _ _ _ oA p qa
 rw[fB p qb]at e1;cases e1
def cap(n:Nat)(d:D):Option D:=if n≤100000 then some d else none
theorem zR{n:Nat}{d d':D}(h:cap n d=some d'):n≤100000∧d'=d:=by
 unfold cap at h
 split at h
 ·rename_i c;cases h;exact⟨c,rfl⟩
 ·cases h
theorem Ry{n:Nat}(h:n≤100000):n≤sizeLine:=by rw[sizeLine_eq];omega
theorem Yw{n:Nat}(h:n≤100000):n<sizeLine:=by rw[sizeLine_eq];omega
def iV(fs:FA):FE:=λe=>(fs e).bind λds=>cap ds.length (.lst ds)
def Cu(fs:FA):FE:=λe=>(fs e).bind λds=>cap ds.length (.tup ds)
theorem mU{K:aA}{H H1:Hp}{ds:List D}{xs:List V}{p:Addr}(s:aN H H1)(n:Cr K H H1 ds xs)(hp:H1 p=none):Gm K H (upd H1 p (.lst xs)) (.lst ds) (.ref p):=by
 obtain⟨A,o,f⟩:=n
 refine⟨jA (·=p) A,?_,λa q=>q.elim (λz=>by cases z;exact s.free hp) (f a)⟩
 unfold Ow
 refine⟨p,xs,A,rfl,aX,λz=>?_,λ_=>Iff.rfl,o.same (bF hp _)⟩
 obtain⟨⟨u,e⟩,_⟩:=dU.cells _ _ _ o p z
 rw[hp]at e;cases e
theorem Gr{K:aA}{H H1:Hp}{ds:List D}{xs:List V}{p:Addr}(n:Cr K H H1 ds xs)(hp:H1 p=none):Gm K H (upd H1 p (.tup xs)) (.tup ds) (.ref p):=by
 obtain⟨A,o,f⟩:=n
 refine⟨A,?_,f⟩
 unfold Ow
 exact⟨p,xs,rfl,mO.of aX,o.same (bF hp _)⟩
theorem kh{K:aA}{t:TA}{fs:FA}(h:wu K t fs):Gq K (Yb t) (iV fs):=λσ H e d Q re q k=>by
 unfold iV at q
 obtain⟨ds,h1,h2⟩:=aV q
 obtain⟨hc,rfl⟩:=zR h2
 refine h σ H e ds _ re h1 λxs H1 s1 n=>⟨Ry (by rw[n.rv.length];exact hc),λp hp=>?_⟩
 exact k _ _ (s1.trans (bF hp _)) (mU s1 n hp)
theorem lg{K:aA}{t:TA}{fs:FA}(h:wu K t fs):Gq K (ig t) (Cu fs):=λσ H e d Q re q k=>by
 unfold Cu at q
 obtain⟨ds,h1,h2⟩:=aV q
 obtain⟨hc,rfl⟩:=zR h2
 refine h σ H e ds _ re h1 λxs H1 s1 n=>⟨Ry (by rw[n.rv.length];exact hc),λp hp=>?_⟩
 exact k _ _ (s1.trans (bF hp _)) (Gr n hp)
theorem Yx{K:aA}{N:Fp}{Z H:Hp}{p:Addr}{o:HO}(z:Zn K N Z H)(hp:H p=none):aN Z (upd Z p o)∧Zn K N (upd Z p o) (upd H p o):=by
 have hz:Z p=none:=z.sm.free hp
 refine⟨bF hz o,⟨λb u e=>?_,λa xs h=>?_,λa q=>?_⟩⟩
 ·by_cases c:b=p
  ·subst c;rw[aX]at e;rw[aX];exact e
  ·rw[aQ c]at e;rw[aQ c];exact z.sm b u e
 ·by_cases c:a=p
  ·subst c
   rcases h with (h | ⟨u,h⟩) | h
   ·rw[aX]at h;exact .inl (.inl (by rw[aX];exact h))
   ·rw[aX]at h;exact .inl (.inr ⟨u,by rw[aX];exact h⟩)
   ·exact .inr h
  ·have q:mO K H a xs:=by
    rcases h with (h | ⟨u,h⟩) | h
    ·rw[aQ c]at h;exact .inl (.inl h)
    ·rw[aQ c]at h;exact .inl (.inr ⟨u,h⟩)
    ·exact .inr h
   exact(bF hz o).tup (z.tk a xs q)
 ·have c:a≠p:=λz'=>(z.no a q).2 (by rw[z'];exact hp)
  rw[aQ c,aQ c];exact z.no a q
theorem lq{K:aA}{t:TA}{fs:FA}(h:wk K t fs):Iz K (Yb t) (iV fs):=λσ H Z e d Q z re q k=>by
 unfold iV at q
 obtain⟨ds,h1,h2⟩:=aV q
 obtain⟨hc,rfl⟩:=zR h2
 refine h σ H Z e ds _ z re h1 λxs H1 Z1 s1 t1 z1 rs=>⟨Ry (by rw[rs.length];exact hc),λp hp=>?_⟩
 obtain⟨a1,a2⟩:=Yx (o:=.lst xs) z1 hp
 exact k _ _ _ (s1.trans (bF hp _)) (t1.trans a1) a2 (by unfold Rv;exact⟨p,xs,rfl,lH.of aX,a1.Vp _ _ rs⟩)
end L2


namespace L2
open PySem PySem.Spec PyProof.Rows
structure XR(K:aA)(X:Cx)(e:Expr)(t:TE)(f:FE):Prop where
 hk:X.K=K
 pe:PE X e t
 ev:Iz K t f
structure XN(K:aA)(X:Cx)(e:Expr)(t:TE)(f:FE):Prop where
 hk:X.K=K
 pe:PE X e t
 ev:Gq K t f
structure XT(K:aA)(X:Cx)(e:Expr)(t:TT)(f:FT):Prop where
 hk:X.K=K
 pt:PT X e t
 ev:Ob K t f
structure XW(K:aA)(X:Cx)(e:Expr)(t:TT)(f:FT):Prop where
 hk:X.K=K
 pw:PW X e t
 ev:Ob K t f
structure XA(K:aA)(X:Cx)(es:List Expr)(t:TA)(f:FA):Prop where
 hk:X.K=K
 pa:PA X es t
 ev:wk K t f
structure XB(K:aA)(X:Cx)(es:List Expr)(t:TA)(f:FA):Prop where
 hk:X.K=K
 pa:PA X es t
 ev:wu K t f
section
variable{K:aA}{X:Cx}{e a b c:Expr}{es:List Expr}{t ta tb:TE}{f g:FE}{tA:TA}{fs:FA}{pos:Pos}
theorem XN.r(h:XN K X e t f):XR K X e t f:=⟨h.hk,h.pe,h.ev.r⟩
theorem XR.n(h:XR K X e t f):XN K X e t (cC f):=⟨h.hk,h.pe,Iz.n h.ev⟩
theorem aH{i:Nat}(h:PE X e (sS i))(hk:X.K=K:=by rfl):XR K X e (sS i) (aB i):=⟨hk,h,jx i⟩
theorem aK{i:Int}{j:Nat}(hk:X.K=K:=by rfl):XN K X (.Constant (.int i) j pos) (tC (.int i)) (fC (.int i)):=⟨hk,bf,Yt i⟩
theorem oK{i:Bool}{j:Nat}(hk:X.K=K:=by rfl):XN K X (.Constant (.bool i) j pos) (tC (.bl i)) (fC (.bl i)):=⟨hk,yc,aAe i⟩
theorem zT{op:Operator}{r:R2}{φ:D→D→Option D}(ho:sU X (binaryOp op) r)(hd:Yu K r φ)(ha:XR K X a ta f)(hb:XR K X b tb g):XN K X (.BinOp a op b pos) (Fv r ta tb) (f2 φ f g):=⟨ha.hk,ym ho ha.pe hb.pe,Yv hd ha.ev hb.ev⟩
def zU:D→D→Option D:=yH (λ_ _=>True) λi j=>.int (i-j)
instance (i j:Int):Decidable (Ci i j):=by unfold Ci;exact inferInstance
instance (i j:Int):Decidable (Ux i j):=by unfold Ux;exact inferInstance
instance (i j:Int):Decidable (Uy i j):=by unfold Uy;exact inferInstance
def xY:D→D→Option D:=yH Ci λi j=>.int (i*j)
def nM:D→D→Option D:=yH Ux λi j=>.int (i/j)
def fG:D→D→Option D:=yH (λ_ j=>0<j) λi j=>.int (i%j)
def Jx:D→D→Option D:=yH Uy λi j=>.int (i ^ j.toNat)
theorem vW(ha:XR K X a ta f)(hb:XR K X b tb g):XN K X (.BinOp a .Sub b pos) (Fv (Xl λi j=>.int (i-j)) ta tb) (f2 zU f g):=zT fu QW ha hb
theorem qL(ha:XR K X a ta f)(hb:XR K X b tb g):XN K X (.BinOp a .Mult b pos) (Fv (rI Ci λi j=>.int (i*j)) ta tb) (f2 xY f g):=zT gj (zQ λ_ _ h=>h) ha hb
theorem lO(ha:XR K X a ta f)(hb:XR K X b tb g):XN K X (.BinOp a .FloorDiv b pos) (Fv (rI Ux λi j=>.int (i/j)) ta tb) (f2 nM f g):=zT MN (zQ λ_ _ h=>h) ha hb
theorem cD(ha:XR K X a ta f)(hb:XR K X b tb g):XN K X (.BinOp a .Mod b pos) (Fv (rI (λ_ j=>0<j) λi j=>.int (i%j)) ta tb) (f2 fG f g):=zT gn (zQ λ_ _ h=>h) ha hb
theorem Oc(ha:XR K X a ta f)(hb:XR K X b tb g):XN K X (.BinOp a .Pow b pos) (Fv (rI Uy λi j=>.int (i ^ j.toNat)) ta tb) (f2 Jx f g):=zT gq (zQ λ_ _ h=>h) ha hb
theorem Od{op:CmpOp}{r:R2}{φ:D→D→Option D}(ho:sU X (compareOp op) r)(hd:Yu K r φ)(ha:XR K X a ta f)(hb:XR K X b tb g)(hm:behindInMarks op b=false):XN K X (.Compare a [op] [b] pos) (Fv r ta tb) (f2 φ f g):=⟨ha.hk,MT ho ha.pe hb.pe hm,Yv hd ha.ev hb.ev⟩
def fB(f:FE):FT:=λe=>(f e).bind λd=>match d with | .bl b=>some b | _=>none
theorem yI{f:FE}{e:DE}{b:Bool}(h:fB f e=some b):f e=some (.bl b):=by
 unfold fB at h
 obtain⟨d,h1,h2⟩:=aV h
 split at h2
 ·cases h2;exact h1
 ·cases h2
theorem RB(h:Iz K t f):Ob K (Xz t) (fB f):=λσ H e b Q re q k=>h σ H H e _ _ (Zn.self K H) re (yI q) λv H' Z' s1 s2 z rv=>by
 unfold Rv at rv
 exact⟨b,rv,k H' s1⟩
theorem YG(h:Iz K t f):Ob K (tB t) (fB f):=λσ H e b Q re q k=>h σ H H e _ _ (Zn.self K H) re (yI q) λv H' Z' s1 s2 z rv=>by
 unfold Rv at rv
 exact⟨b,rv,k H' s1⟩
theorem bY{op:CmpOp}{r:R2}{φ:D→D→Option D}(ho:sU X (compareOp op) r)(hd:Yu K r φ)(ha:XR K X a ta f)(hb:XR K X b tb g)(hm:behindInMarks op b=false):XT K X (.Compare a [op] [b] pos) (Xz (Fv r ta tb)) (fB (f2 φ f g)):=⟨ha.hk,NB ho ha.pe hb.pe hm,RB (Yv hd ha.ev hb.ev).r⟩
theorem Oe(h:XR K X e t f)(he:∀whole,isTrue e X.env whole=(do let v ←whole;standAt e.pos;holding [v] (truthy v)):=by intro _;rfl):XT K X e (tB t) (fB f):=⟨h.hk,bj h.pe he,YG h.ev⟩
def KJ:D→D→Option D:=yH (λ_ _=>True) λi j=>.bl (decide (i<j))
def dLe:D→D→Option D:=yH (λ_ _=>True) λi j=>.bl (decide (i≤j))
def Rz:D→D→Option D:=yH (λ_ _=>True) λi j=>.bl (decide (j<i))
def dGe:D→D→Option D:=yH (λ_ _=>True) λi j=>.bl (decide (j≤i))
def toV:D→Option V
  | .non=>some .non | .bl b=>some (.bl b) | .int i=>some (.int i) | .str x=>some (.str x)
  | _=>none
theorem vX{H:Hp}{d:D}{v x:V}(h:toV d=some v)(r:Rv K H d x):x=v:=by
 cases d<;>unfold toV at h<;>first | (cases h;unfold Rv at r;exact r) | cases h
mutual
def cF:D→Option DV
 | .int i=>some (.int i)
 | .non=>some .non
 | .lst ds=>(dC ds).map DV.lst
 | .tup ds=>(dC ds).map DV.tup
 | _=>none
def dC:List D→Option (List DV)
 | []=>some []
 | d::ds=>(cF d).bind λx=>(dC ds).bind λxs=>some (x::xs)
end
mutual
theorem pG{H:Hp}:∀(d:D)(x:DV)(v:V),cF d=some x→Rv K H d v→Reads K H x v
 | .int i,x,v,h,r=>by unfold cF at h;cases h;unfold Rv at r;unfold Reads;exact r
 | .lst ds,x,v,h,r=>by
  unfold cF at h
  obtain⟨xs,h1,rfl⟩:=iT h
  unfold Rv at r;unfold Reads
  obtain⟨a,vs,r1,r2,r3⟩:=r
  exact⟨a,vs,r1,r2,zV ds xs vs h1 r3⟩
 | .tup ds,x,v,h,r=>by
  unfold cF at h
  obtain⟨xs,h1,rfl⟩:=iT h
  unfold Rv at r;unfold Reads
  obtain⟨a,vs,r1,r2,r3⟩:=r
  exact⟨a,vs,r1,r2,zV ds xs vs h1 r3⟩
 | .non,x,v,h,r=>by unfold cF at h;cases h;unfold Rv at r;unfold Reads;exact r
 | .bl _,x,v,h,r=>by unfold cF at h;cases h
 | .str _,x,v,h,r=>by unfold cF at h;cases h
 | .dk _ _,x,v,h,r=>by unfold cF at h;cases h
 | .dt _ _,x,v,h,r=>by unfold cF at h;cases h
 | .ins _ _ _,x,v,h,r=>by unfold cF at h;cases h
theorem zV{H:Hp}:∀(ds:List D)(xs:List DV)(vs:List V),dC ds=some xs→bW K H ds vs→bO K H xs vs
 | [],xs,vs,h,r=>by unfold dC at h;cases h;unfold bW at r;unfold bO;exact r
 | d::ds,xs,vs,h,r=>by
  unfold dC at h
  obtain⟨x,h1,h2⟩:=aV h
  obtain⟨xt,h3,h4⟩:=aV h2
  cases h4
  unfold bW at r;unfold bO
  obtain⟨y,ys,r1,r2,r3⟩:=r
  exact⟨y,ys,r1,pG d x y h1 r2,zV ds xt ys h3 r3⟩
end
mutual
theorem Yy:∀(d e:D)(x:DV),cF d=some x→cF e=some x→d=e
 | .int i,e,x,h,h'=>by
  unfold cF at h;cases h
  cases e<;>unfold cF at h'<;>first | (cases h';rfl) | cases h' | (obtain⟨xs,q1,q2⟩:=iT h';cases q2)
 | .lst ds,e,x,h,h'=>by
  unfold cF at h
  obtain⟨xs,h1,rfl⟩:=iT h
  cases e with
  | lst es=>unfold cF at h';obtain⟨ys,q1,q2⟩:=iT h';cases q2;rw[vY ds es xs h1 q1]
  | tup es=>unfold cF at h';obtain⟨ys,q1,q2⟩:=iT h';cases q2
  | _=>unfold cF at h';cases h'
 | .tup ds,e,x,h,h'=>by
  unfold cF at h
  obtain⟨xs,h1,rfl⟩:=iT h
  cases e with
  | tup es=>unfold cF at h';obtain⟨ys,q1,q2⟩:=iT h';cases q2;rw[vY ds es xs h1 q1]
  | lst es=>unfold cF at h';obtain⟨ys,q1,q2⟩:=iT h';cases q2
  | _=>unfold cF at h';cases h'
 | .non,e,x,h,h'=>by
  unfold cF at h;cases h
  cases e<;>unfold cF at h'<;>first | (cases h';rfl) | cases h' | (obtain⟨xs,q1,q2⟩:=iT h';cases q2)
 | .bl _,e,x,h,h'=>by unfold cF at h;cases h
 | .str _,e,x,h,h'=>by unfold cF at h;cases h
 | .dk _ _,e,x,h,h'=>by unfold cF at h;cases h
 | .dt _ _,e,x,h,h'=>by unfold cF at h;cases h
 | .ins _ _ _,e,x,h,h'=>by unfold cF at h;cases h
theorem vY:∀(ds es:List D)(xs:List DV),dC ds=some xs→dC es=some xs→ds=es
 | [],[],xs,h,h'=>rfl
 | [],e::es,xs,h,h'=>by
  unfold dC at h h'
  cases h
  obtain⟨x,h1,h2⟩:=aV h'
  obtain⟨xt,h3,h4⟩:=aV h2
  cases h4
 | d::ds,[],xs,h,h'=>by
  unfold dC at h h'
  cases h'
  obtain⟨x,h1,h2⟩:=aV h
  obtain⟨xt,h3,h4⟩:=aV h2
  cases h4
 | d::ds,e::es,xs,h,h'=>by
  unfold dC at h h'
  obtain⟨x,h1,h2⟩:=aV h
  obtain⟨xt,h3,h4⟩:=aV h2
  cases h4
  obtain⟨y,k1,k2⟩:=aV h'
  obtain⟨yt,k3,k4⟩:=aV k2
  cases k4
  rw[Yy d e x h1 k1,vY ds es xt h3 k3]
end
noncomputable def yJ(a b:D):Option D:=match toV a,toV b with
 | some x,some y=>if MP x y=true then some (.bl (decide (x=y)))else none
 | _,_=>match cF a,cF b with
  | some x,some y=>if x.depth≤32 then some (.bl (qJ x y))else none
  | _,_=>none
theorem oM:Yu K (λx y H Q=>rEq x y H Q∨jm K false x y H Q) yJ:=λx y H a b d Q ra rb q k=>by
 unfold yJ at q
 split at q
 ·rename_i u v h1 h2
  split at q
  ·rename_i hs
   cases q
   rw[vX h1 ra,vX h2 rb]
   exact .inl ⟨hs,k _ H (aN.refl _) (.fU rfl (by unfold Rv;rfl))⟩
  ·cases q
 ·split at q
  ·rename_i u v h1 h2
   split at q
   ·rename_i hs
    cases q
    exact .inr ⟨u,v,pG a u x h1 ra,pG b v y h2 rb,hs,k _ H (aN.refl _) (.fU rfl (by unfold Rv;rfl))⟩
   ·cases q
  ·cases q
noncomputable def Nf(a b:D):Option D:=match toV a,toV b with
 | some x,some y=>if MP x y=true then some (.bl (!decide (x=y)))else none
 | _,_=>match cF a,cF b with
  | some (.lst x),some (.lst y)=>if bC x≤32 then some (.bl (!qJ (.lst x) (.lst y)))else none
  | some (.tup x),some (.tup y)=>if bC x≤32 then some (.bl (!qJ (.tup x) (.tup y)))else none
  | _,_=>none
def aAg(K:aA):R2:=λx y H Q=>rNe x y H Q∨(∃ds es,Reads K H (.lst ds) x∧Reads K H (.lst es) y∧bC ds≤32∧Q (.bl (!qJ (.lst ds) (.lst es))) H)∨(∃ds es,Reads K H (.tup ds) x∧Reads K H (.tup es) y∧bC ds≤32∧Q (.bl (!qJ (.tup ds) (.tup es))) H)
theorem Jy:Yu K (aAg K) Nf:=λx y H a b d Q ra rb q k=>by
 unfold Nf at q
 split at q
 ·rename_i u v h1 h2
  split at q
  ·rename_i hs
   cases q
   rw[vX h1 ra,vX h2 rb]
   exact .inl ⟨hs,k _ H (aN.refl _) (.fU rfl (by unfold Rv;rfl))⟩
  ·cases q
 ·split at q
  ·rename_i u v h1 h2
   split at q
   ·rename_i hs
    cases q
    exact .inr (.inl ⟨u,v,pG a _ x h1 ra,pG b _ y h2 rb,hs,k _ H (aN.refl _) (.fU rfl (by unfold Rv;rfl))⟩)
   ·cases q
  ·rename_i u v h1 h2
   split at q
   ·rename_i hs
    cases q
    exact .inr (.inr ⟨u,v,pG a _ x h1 ra,pG b _ y h2 rb,hs,k _ H (aN.refl _) (.fU rfl (by unfold Rv;rfl))⟩)
   ·cases q
  ·cases q
theorem or_eq(hu:X.A.units+64<cLine)(hk:X.K=K):sU X (compareOp .Eq) (λx y H Q=>rEq x y H Q∨jm K false x y H Q):=by subst hk;exact yr.or (jn hu)
theorem Jz(hu:X.A.units+64<cLine)(hk:X.K=K):sU X (compareOp .NotEq) (aAg K):=by subst hk;exact yu.or ((jo hu).or (ju hu))
def Ka:List D→Option (List V)
 | []=>some []
 | d::ds=>(toV d).bind λx=>(Ka ds).bind λxs=>some (x::xs)
theorem Sd{H:Hp}:∀{ds:List D} {vs xs:List V},Ka ds=some vs→bW K H ds xs→xs=vs
 | [],vs,xs,h,r=>by unfold Ka at h;cases h;unfold bW at r;exact r
 | d::ds,vs,xs,h,r=>by
  unfold Ka at h
  obtain⟨x,h1,h2⟩:=aV h
  obtain⟨xt,h3,h4⟩:=aV h2
  cases h4
  unfold bW at r
  obtain⟨y,ys,rfl,r2,r3⟩:=r
  rw[vX h1 r2,Sd h3 r3]
def pZ:D→Option (List D)
 | .lst ds=>some ds
 | .tup ds=>some ds
 | _=>none
theorem yK{H:Hp}{d:D}{ds:List D}{v:V}(h:pZ d=some ds)(r:Rv K H d v):∃p xs,v=.ref p∧(lH K H p xs∨mO K H p xs)∧bW K H ds xs:=by
 cases d with
 | lst es=>unfold pZ at h;cases h;unfold Rv at r;obtain⟨p,xs,r1,r2,r3⟩:=r;exact⟨p,xs,r1,.inl r2,r3⟩
 | tup es=>unfold pZ at h;cases h;unfold Rv at r;obtain⟨p,xs,r1,r2,r3⟩:=r;exact⟨p,xs,r1,.inr r2,r3⟩
 | _=>unfold pZ at h;cases h
def wy(neg:Bool)(a b:D):Option D:=(toV a).bind λx=>(pZ b).bind λds=>(Ka ds).bind λxs=>if qI x=true∧xs.all qI=true then some (.bl (if neg then !inV x xs else inV x xs))else none
theorem aAh(neg:Bool):Yu K (rIn K neg) (wy neg):=λx y H a b d Q ra rb q k=>by
 unfold wy at q
 obtain⟨u,h1,q⟩:=aV q
 obtain⟨ds,h2,q⟩:=aV q
 obtain⟨us,h3,q⟩:=aV q
 split at q
 ·rename_i c
  cases q
  obtain⟨p,xs,rfl,r2,r3⟩:=yK h2 rb
  have:=Sd h3 r3
  subst this
  rw[vX h1 ra]
  exact⟨p,xs,rfl,r2,c.1,c.2,k _ H (aN.refl _) (.fU rfl (by unfold Rv;rfl))⟩
 ·cases q
theorem aAi(hk:X.K=K):sU X (compareOp .In) (rIn K false):=by subst hk;exact Ve
end
section
variable{κ:Type} [DecidableEq κ] {K:aA} {H:Hp}
def posK:List κ→κ→Option Nat
 | [],_=>none
 | a::ks,k=>if a=k then some 0 else(posK ks k).map (·+1)
theorem qM:∀{ks:List κ} {xs:List V} {k:κ},ks.length=xs.length→sV (ks.zip xs) k=(posK ks k).bind λj=>xs[j]?
 | [],xs,k,h=>by unfold posK;rfl
 | a::ks,[],k,h=>by simp at h
 | a::ks,x::xs,k,h=>by
  have ih:=qM (ks:=ks) (xs:=xs) (k:=k) (by simpa using h)
  unfold posK
  rw[Q1]
  unfold sV at ih ⊢
  rw[N0]
  by_cases c:a=k
  ·rw[if_pos c,decide_eq_true c];rfl
  ·rw[if_neg c,decide_eq_false c]
   show Option.map _ (List.find? _ (ks.zip xs))=_
   rw[ih]
   cases posK ks k<;>rfl
theorem Gs:∀{ks:List κ} {k:κ} {j:Nat},posK ks k=some j→j<ks.length∧ks[j]?=some k
 | [],k,j,h=>by unfold posK at h;cases h
 | a::ks,k,j,h=>by
  unfold posK at h
  split at h
  ·rename_i c;cases h;exact⟨by simp,by simp[c]⟩
  ·obtain⟨i,h1,rfl⟩:=iT h
   obtain⟨a1,a2⟩:=Gs h1
   exact⟨by simpa using a1,by simpa using a2⟩
theorem vZ:∀{ks:List κ} {k:κ},posK ks k=none↔k∉ks
  | [],k=>by unfold posK;simp
  | a::ks,k=>by
    unfold posK
    have ih:=vZ (ks:=ks) (k:=k)
    split
    · rename_i c;simp[c]
    · rename_i c
      rw[Option.map_eq_none_iff,ih,C4]
      constructor
      · rintro h (q | q)
        · exact c q.symm
        · exact h q
      · intro h q;exact h (.inr q)
def zW(ks:List κ)(k:κ):List κ:=if(posK ks k).isSome then ks else ks++[k]
def putD{β:Type}(ks:List κ)(ds:List β)(k:κ)(d:β):List β:=if(posK ks k).isSome then T4 (λk' d'=>if k'=k then d else d') ks ds else ds++[d]
theorem Kc{β:Type}{ks:List κ}{ds:List β}{k:κ}{d:β}(h:ks.length=ds.length):(zW ks k).length=(putD ks ds k d).length:=by
 unfold zW putD
 split
 ·rw[List.length_zipWith,h,R3]
 ·rw[C7,C7,h];rfl
theorem Yz{ks:List κ}{xs:List V}{k:κ}{v:V}(h:ks.length=xs.length):putK (ks.zip xs) k v=(zW ks k).zip (putD ks xs k v):=by
 have ha:((ks.zip xs).any λkv=>decide (kv.1=k))=(posK ks k).isSome:=by
  rw[zG,qM h]
  cases q:posK ks k with
  | none=>rfl
  | some j=>
   obtain⟨h1,h2⟩:=Gs q
   rw[C3,B0 (by omega)]
   rfl
 unfold putK zW putD
 rw[ha]
 by_cases c:(posK ks k).isSome=true
 ·rw[if_pos c,if_pos c,if_pos c]
  clear ha c
  induction ks generalizing xs with
  | nil=>rfl
  | cons a ks ih=>
   cases xs with
   | nil=>simp at h
   | cons x xs=>
    rw[Q1,D4,L6,Q1,ih (by simpa using h)]
    split<;>rfl
 ·rw[if_neg c,if_neg c,if_neg c,List.zip_append h]
  rfl
end
def Vq:D→Option Key
 | .int i=>some (.inl i)
 | .str x=>some (.inr x)
 | _=>none
theorem Gu{K:aA}{H:Hp}{d:D}{k:Key}{v:V}(h:Vq d=some k)(r:Rv K H d v):v=kV k:=by
 cases d<;>unfold Vq at h<;>first | (cases h;unfold Rv at r;exact r) | cases h
def kD:Key→D
 | .inl i=>.int i
 | .inr x=>.str x
section
variable{K:aA}{X:Cx}{e a b c:Expr}{es:List Expr}{t ta tb:TE}{f g:FE}{pos:Pos}
def iB(neg:Bool)(k d:D):Option D:=match d with
 | .dk ks ds=>(Vq k).bind λk=>some (.bl (if neg then !(posK ks k).isSome else(posK ks k).isSome))
 | _=>none
def Vr(d k:D):Option D:=match d with
 | .dk ks ds=>(Vq k).bind λk=>(posK ks k).bind λj=>ds[j]?
 | _=>none
theorem Og{ks:List Key}{xs:List V}{k:Key}(h:ks.length=xs.length):(sV (ks.zip xs) k).isSome=(posK ks k).isSome:=by
 rw[qM h]
 cases q:posK ks k with
 | none=>rfl
 | some j=>
  obtain⟨h1,h2⟩:=Gs q
  rw[C3,B0 (by omega)]
  rfl
theorem Kd{H:Hp}{x y:V}{ka d r:D}{neg:Bool}(h:iB neg ka d=some r)(rk:Rv K H ka y)(rd:Rv K H d x):∃p o,x=.ref p∧Jp H p y o∧r=.bl (if neg then !o.isSome else o.isSome):=by
 unfold iB at h
 split at h
 ·rename_i ks ds
  obtain⟨k,h1,h2⟩:=aV h
  cases h2
  unfold Rv at rd
  obtain⟨p,xs,r1,r2,r3,r4⟩:=rd
  refine⟨p,sV (ks.zip xs) k,r1,.inl ⟨_,k,r2,Gu h1 rk,rfl⟩,?_⟩
  rw[Og r3]
 ·cases h
theorem lr(hu:X.A.units+1<cLine)(ha:XR K X a ta f)(hb:XR K X b tb g)(h1:behindInMarks .In b=false:=by first | exact nobehind _ (by decide) (by decide) | rfl):XN K X (.Compare a [.In] [b] pos) (ji ta tb) (f2 (iB false) f g):=
 ⟨ha.hk,Xq (Yj hu ha.pe hb.pe) h1,λσ H e d Q re q k=>by
  obtain⟨da,db,q1,q2,q3⟩:=uM q
  refine ha.ev σ H H e da _ (Zn.self K H) re q1 λx H1 Z1 s1 t1 z1 rx=>hb.ev σ H1 Z1 e db _ z1 (re.same t1) q2 λy H2 Z2 s2 t2 z2 ry=>?_
  obtain⟨p,o,e1,e2,e3⟩:=Kd q3 (z2.sm.rv _ _ (t2.rv _ _ rx)) (z2.sm.rv _ _ ry)
  subst e3
  exact⟨p,o,e1,e2,k _ H2 (s1.trans s2) (.fU rfl (by unfold Rv;rfl))⟩⟩
theorem Ea(hu:X.A.units+1<cLine)(ha:XR K X a ta f)(hb:XR K X b tb g)(h1:behindInMarks .NotIn b=false:=by first | exact nobehind _ (by decide) (by decide) | rfl):XN K X (.Compare a [.NotIn] [b] pos) (Gd ta tb) (f2 (iB true) f g):=
 ⟨ha.hk,Xq (Du hu ha.pe hb.pe) h1,λσ H e d Q re q k=>by
  obtain⟨da,db,q1,q2,q3⟩:=uM q
  refine ha.ev σ H H e da _ (Zn.self K H) re q1 λx H1 Z1 s1 t1 z1 rx=>hb.ev σ H1 Z1 e db _ z1 (re.same t1) q2 λy H2 Z2 s2 t2 z2 ry=>?_
  obtain⟨p,o,e1,e2,e3⟩:=Kd q3 (z2.sm.rv _ _ (t2.rv _ _ rx)) (z2.sm.rv _ _ ry)
  subst e3
  exact⟨p,o,e1,e2,k _ H2 (s1.trans s2) (.fU rfl (by unfold Rv;rfl))⟩⟩
theorem YH{op:CmpOp}(h:XN K X (.Compare a [op] [b] pos) t f)(pc:PC X op a b t)(h1:behindInMarks op b=false):XT K X (.Compare a [op] [b] pos) (tB t) (fB f):=⟨h.hk,bh pc h1,YG h.ev.r⟩
theorem Oh(hu:X.A.units+1<cLine)(ha:XR K X a ta f)(hb:XR K X b tb g)(h1:behindInMarks .In b=false:=by first | exact nobehind _ (by decide) (by decide) | rfl):XT K X (.Compare a [.In] [b] pos) (tB (ji ta tb)) (fB (f2 (iB false) f g)):=YH (lr hu ha hb h1) (Yj hu ha.pe hb.pe) h1
theorem fW(hu:X.A.units+1<cLine)(ha:XR K X a ta f)(hb:XR K X b tb g)(h1:behindInMarks .NotIn b=false:=by first | exact nobehind _ (by decide) (by decide) | rfl):XT K X (.Compare a [.NotIn] [b] pos) (tB (Gd ta tb)) (fB (f2 (iB true) f g)):=YH (Ea hu ha hb h1) (Du hu ha.pe hb.pe) h1
theorem RC(hu:X.A.units+1<cLine)(ha:XR K X a ta f)(hb:XR K X b tb g)(hs:jh b):XR K X (.Subscript a b pos) (XX ta tb) (f2 Vr f g):=
 ⟨ha.hk,QF hu ha.pe hb.pe hs,λσ H Z e d Q z re q k=>by
  obtain⟨da,db,q1,q2,q3⟩:=uM q
  refine ha.ev σ H Z e da _ z re q1 λx H1 Z1 s1 t1 z1 rx=>hb.ev σ H1 Z1 e db _ z1 (re.same t1) q2 λy H2 Z2 s2 t2 z2 ry=>?_
  have rx2:=t2.rv _ _ rx
  unfold Vr at q3
  split at q3
  ·rename_i ks ds
   obtain⟨kk,h1,h2⟩:=aV q3
   obtain⟨j,h3,h4⟩:=aV h2
   unfold Rv at rx2
   obtain⟨p,xs,r1,r2,r3,r4⟩:=rx2
   obtain⟨v,e1,e2⟩:=r4.get h4
   refine⟨p,v,r1,.inl ⟨_,kk,z2.sm.rd r2,Gu h1 ry,?_⟩,k v H2 Z2 (s1.trans s2) (t1.trans t2) z2 e2⟩
   rw[qM r3,h3]
   exact e1.symm
  ·cases q3⟩
def dD(a i:D):Option D:=match i with
 | .int i=>(pZ a).bind λds=>Ye ds i
 | _=>none
theorem YJ{H:Hp}{ds:List D}{xs:List V}{i:Int}{d:D}(r:bW K H ds xs)(h:Ye ds i=some d):∃v,Ye xs i=some v∧Rv K H d v:=by
 unfold Ye at h ⊢
 obtain⟨j,h1,h2⟩:=aV h
 rw[r.length,h1]
 exact r.get h2
theorem aAj(hk:X.K=K):KC X (rIx K):=by subst hk;exact jd
theorem bD(ha:XR K X a ta f)(hb:XR K X b tb g)(hs:Rq b):XR K X (.Subscript a b pos) (Fv (rIx K) ta tb) (f2 dD f g):=
 ⟨ha.hk,zb (aAj ha.hk) ha.pe hb.pe hs,aAf (λx y H Z da db d Q z ra rb q k=>by
  unfold dD at q
  split at q
  ·rename_i i
   obtain⟨ds,h1,h2⟩:=aV q
   unfold Rv at rb
   cases da with
   | lst es=>
    unfold pZ at h1;cases h1
    unfold Rv at ra
    obtain⟨p,xs,r1,r2,r3⟩:=ra
    obtain⟨v,e1,e2⟩:=YJ r3 h2
    exact .inl ⟨p,xs,i,v,r1,rb,z.sm.seq r2,e1,k v H Z (aN.refl _) (aN.refl _) z e2⟩
   | tup es=>
    unfold pZ at h1;cases h1
    unfold Rv at ra
    obtain⟨p,xs,r1,r2,r3⟩:=ra
    obtain⟨v,e1,e2⟩:=YJ r3 h2
    exact .inr (.inl ⟨p,xs,i,v,r1,rb,z.sm.tup r2,e1,k v H Z (aN.refl _) (aN.refl _) z e2⟩)
   | _=>unfold pZ at h1;cases h1
  ·cases q) ha.ev hb.ev⟩
end
end L2


namespace L2
open PySem PySem.Spec PyProof.Rows
section
variable{K:aA}{X:Cx}{e a b c:Expr}{es rest:List Expr}{t ta tb:TE}{f g:FE}{tA:TA}{fs:FA}{pos:Pos}{tc:TT}{fc fd:FT}{td:TT}
theorem aO(hk:X.K=K:=by rfl):XA K X [] vO aM:=⟨hk,iZ,jy⟩
theorem aG(h:XR K X e t f)(hs:XA K X es tA fs)(hst:starEach (e::es) X.env=(false,eval e X.env)::starEach es X.env:=by rfl):XA K X (e::es) (mR t tA) (aC f fs):=⟨h.hk,eQ h.pe hs.pa hst,QX h.ev hs.ev⟩
theorem lQ(hk:X.K=K:=by rfl):XB K X [] vO aM:=⟨hk,iZ,jz⟩
theorem eV(h:XN K X e t f)(hs:XB K X es tA fs)(hst:starEach (e::es) X.env=(false,eval e X.env)::starEach es X.env:=by rfl):XB K X (e::es) (mR t tA) (aC f fs):=⟨h.hk,eQ h.pe hs.pa hst,QZ h.ev hs.ev⟩
theorem qN(h:XB K X es tA fs):XN K X (.List es pos) (Yb tA) (iV fs):=⟨h.hk,Yc h.pa,kh h.ev⟩
theorem lR(h:XA K X es tA fs):XR K X (.List es pos) (Yb tA) (iV fs):=⟨h.hk,Yc h.pa,lq h.ev⟩
theorem Oi{x1:Nat}(h:XB K X es tA fs):XN K X (.Tuple es x1 pos) (ig tA) (Cu fs):=⟨h.hk,il h.pa,lg h.ev⟩
theorem RD:Gq K Nr (fC (.dk [] [])):=λσ H e d Q re q k=>by
 cases q
 intro p hp
 refine k _ _ (bF hp _) ⟨(·=p),?_,λa q=>by cases q;exact hp⟩
 unfold Ow
 exact⟨p,[],nil,rfl,aX,rfl,λz=>z,λx=>⟨.inl,λz=>z.elim id False.elim⟩,by unfold dU;exact⟨λ_ z=>z,rfl⟩⟩
theorem uN(hk:X.K=K:=by rfl):XN K X (.Dict [] [] pos) Nr (fC (.dk [] [])):=⟨hk,Yl,RD⟩
def pH(f g:FT):FT:=λe=>(f e).bind λc=>if c=true then g e else some false
def YK(f g:FT):FT:=λe=>(f e).bind λc=>if c=true then some true else g e
def Ke(f:FT):FT:=λe=>(f e).map λc=>!c
theorem lu(h1:Ob K tc fc)(h2:Ob K td fd):Ob K (bu tc td) (pH fc fd):=λσ H e b Q re q k=>by
 unfold pH at q
 obtain⟨c,q1,q2⟩:=aV q
 refine h1 σ H e c _ re q1 λH1 s1=>?_
 cases c with
 | true=>rw[if_pos rfl]at q2 ⊢;exact h2 σ H1 e b Q (re.same s1) q2 λH2 s2=>k H2 (s1.trans s2)
 | false=>rw[if_neg (by decide)]at q2 ⊢;cases q2;exact k H1 s1
theorem aAk(h1:Ob K tc fc)(h2:Ob K td fd):Ob K (tOr tc td) (YK fc fd):=λσ H e b Q re q k=>by
 unfold YK at q
 obtain⟨c,q1,q2⟩:=aV q
 refine h1 σ H e c _ re q1 λH1 s1=>?_
 cases c with
 | false=>rw[if_neg (by decide)]at q2 ⊢;exact h2 σ H1 e b Q (re.same s1) q2 λH2 s2=>k H2 (s1.trans s2)
 | true=>rw[if_pos rfl]at q2 ⊢;cases q2;exact k H1 s1
theorem lz(h1:Ob K tc fc):Ob K (bw tc) (Ke fc):=λσ H e b Q re q k=>by
 unfold Ke at q
 obtain⟨c,q1,rfl⟩:=iT q
 exact h1 σ H e c _ re q1 k
theorem XW.xt(h:XW K X e tc fc):XT K X e tc fc:=⟨h.hk,h.pw.pt,h.ev⟩
theorem mV(h:XT K X a tc fc):XW K X (.BoolOp .And [a] pos) tc fc:=⟨h.hk,LQ h.pt,h.ev⟩
theorem Za(h:XT K X a tc fc):XW K X (.BoolOp .Or [a] pos) tc fc:=⟨h.hk,cg h.pt,h.ev⟩
theorem qO(h:XT K X a tc fc)(h2:XW K X (.BoolOp .And (b::rest) pos) td fd):XW K X (.BoolOp .And (a::b::rest) pos) (bu tc td) (pH fc fd):=⟨h.hk,cj h.pt h2.pw,lu h.ev h2.ev⟩
theorem Zb(h:XT K X a tc fc)(h2:XW K X (.BoolOp .Or (b::rest) pos) td fd):XW K X (.BoolOp .Or (a::b::rest) pos) (tOr tc td) (YK fc fd):=⟨h.hk,ye h.pt h2.pw,aAk h.ev h2.ev⟩
theorem Oj(h:XT K X a tc fc):XT K X (.UnaryOp .Not a pos) (bw tc) (Ke fc):=⟨h.hk,cu h.pt,lz h.ev⟩
def xM(f g:FE):FE:=λe=>(fB f e).bind λc=>if c=true then g e else some (.bl false)
def Kf(f:FE):FE:=λe=>(fB f e).map λc=>.bl (!c)
theorem Sg{op:BoolOp}(h:XN K X a t f):XN K X (.BoolOp op [a] pos) t f:=⟨h.hk,cz h.pe,h.ev⟩
theorem Zc(h:XR K X a ta f)(h2:XN K X (.BoolOp .And (b::rest) pos) tb g):XN K X (.BoolOp .And (a::b::rest) pos) (WX ta tb) (xM f g):=⟨h.hk,dg h.pe h2.pe,λσ H e d Q re q k=>by
 unfold xM at q
 obtain⟨c,q1,q2⟩:=aV q
 refine h.ev σ H H e _ _ (Zn.self K H) re (yI q1) λv H1 Z1 s1 t1 z1 rv=>?_
 unfold Rv at rv
 refine⟨c,rv,?_⟩
 cases c with
 | true=>rw[if_pos rfl]at q2 ⊢;exact h2.ev σ H1 e d Q (re.same s1) q2 λv H2 s2 n=>k v H2 (s1.trans s2) (n.back s1)
 | false=>rw[if_neg (by decide)]at q2 ⊢;cases q2;exact k _ H1 s1 (.fU rfl (by unfold Rv;rfl))⟩
theorem mj(h:XR K X a ta f):XN K X (.UnaryOp .Not a pos) (WY ta) (Kf f):=⟨h.hk,dh h.pe,λσ H e d Q re q k=>by
 unfold Kf at q
 obtain⟨c,q1,rfl⟩:=iT q
 refine h.ev σ H H e _ _ (Zn.self K H) re (yI q1) λv H1 Z1 s1 t1 z1 rv=>?_
 unfold Rv at rv
 exact⟨c,rv,k _ H1 s1 (.fU rfl (by unfold Rv;rfl))⟩⟩
theorem mq(ha:XR K X a ta f):XN K X (.UnaryOp .USub a pos) (du (rU λi=>.int (-i)) ta) (λe=>(f e).bind λd=>match d with | .int i=>some (.int (-i)) | _=>none):=⟨ha.hk,yo gr ha.pe,λσ H e d Q re q k=>by
 obtain⟨c,q1,q2⟩:=aV q
 split at q2
 ·rename_i i
  cases q2
  refine ha.ev σ H H e _ _ (Zn.self K H) re q1 λv H1 Z1 s1 t1 z1 rv=>?_
  unfold Rv at rv
  exact⟨i,rv,k _ H1 s1 (.fU rfl (by unfold Rv;rfl))⟩
 ·cases q2⟩
def fL(φ:List D→Option D)(fs:FA):FE:=λe=>(fs e).bind φ
def pY(K:aA)(r:List V→Hp→VK→Prop)(φ:List D→Option D):Prop:=∀(vs:List V)(H:Hp)(ds:List D)(d:D)(Q:VK),bW K H ds vs→φ ds=some d →
 (∀v H',aN H H'→Gm K H H' d v→Q v H')→r vs H Q
theorem YL{r:List V→Hp→VK→Prop}{φ:List D→Option D}(o:pY K r φ)(h:wk K tA fs):Gq K (vy r tA) (fL φ fs):=λσ H e d Q re q k=>by
 obtain⟨ds,q1,q2⟩:=aV q
 exact h σ H H e ds _ (Zn.self K H) re q1 λvs H1 Z1 s1 t1 z1 rs=>o vs H1 ds d Q (z1.sm.Vp _ _ rs) q2 λv H2 s2 n=>k v H2 (s1.trans s2) (n.back s1)
theorem iC{r:List V→Hp→VK→Prop}{φ:List D→Option D}{x:Str}{id:String}{p:Pos}(o:pY K r φ)(hc:gW X (.builtin id) r)(hg:Gl X x)(hm:X.mg x=none)(hv:bootBuiltins x=some (.builtin id))(ha:XA K X (e::es) tA fs)(hn:x ≠ "__name__" := by decide) (hdb:(x==("__debug__" : Str))=false:=by decide)
  (he:starEach (e::es) X.env=(false,eval e X.env)::starEach es X.env:=by rfl) (hpl:(backTo pos (starEach es X.env)).any (·.1)=false:=by rfl):XN K X (.Call (.Name x p) (e::es) [] pos) (vy r tA) (fL φ fs):=⟨ha.hk,Jl hc hg hm hv ha.pa hn hdb he hpl,YL o ha.ev⟩
theorem qP{r:List V→Hp→VK→Prop}{φ:List D→Option D}{x:Str}{id:String}{p:Pos}(o:pY K r φ)(hc:gW X (.type id) r)(hg:Gl X x)(hm:X.mg x=none)(hv:bootBuiltins x=some (.type id))(ha:XA K X (e::es) tA fs)(hn:x ≠ "__name__" := by decide) (hdb:(x==("__debug__" : Str))=false:=by decide)
  (he:starEach (e::es) X.env=(false,eval e X.env)::starEach es X.env:=by rfl) (hpl:(backTo pos (starEach es X.env)).any (·.1)=false:=by rfl):XN K X (.Call (.Name x p) (e::es) [] pos) (vy r tA) (fL φ fs):=⟨ha.hk,Vd hc hg hm hv ha.pa hn hdb he hpl,YL o ha.ev⟩
theorem lU{H:Hp}{d:D}{vs:List V}(h:bW K H [d] vs):∃v,vs=[v]∧Rv K H d v:=by
 unfold bW at h
 obtain⟨y,ys,rfl,h1,h2⟩:=h
 unfold bW at h2
 subst h2
 exact⟨y,rfl,h1⟩
theorem Ol{H:Hp}{d d':D}{vs:List V}(h:bW K H [d,d'] vs):∃v v',vs=[v,v']∧Rv K H d v∧Rv K H d' v':=by
 unfold bW at h
 obtain⟨y,ys,rfl,h1,h2⟩:=h
 obtain⟨v,rfl,h3⟩:=lU h2
 exact⟨y,v,rfl,h1,h3⟩
def jV:List D→Option D
 | [d]=>(pZ d).map λds=>.int ds.length
 | _=>none
def aAl(K:aA):List V→Hp→VK→Prop:=λxs H Q=>∃p ys,xs=[.ref p]∧(lH K H p ys∨mO K H p ys)∧Q (.int ys.length) H
theorem iD:pY K (aAl K) jV:=λvs H ds d Q rs q k=>by
 unfold jV at q
 split at q
 ·rename_i d0
  obtain⟨es,q1,rfl⟩:=iT q
  obtain⟨v,rfl,r⟩:=lU rs
  obtain⟨p,xs,rfl,r2,r3⟩:=yK q1 r
  refine⟨p,xs,rfl,r2,k _ H (aN.refl _) (.fU rfl ?_)⟩
  rw[r3.length];unfold Rv;rfl
 ·cases q
theorem iG(hk:X.K=K):gW X (.builtin "len") (aAl K):=by subst hk;exact Ga
def dList:List D→Option D
 | [d]=>(pZ d).bind λds=>if D.bB ds=true then some (.lst ds)else none
 | _=>none
def YM(K:aA):List V→Hp→VK→Prop:=λxs H Q=>∃p ys,xs=[.ref p]∧(lH K H p ys∨mO K H p ys)∧∀l,H l=none→Q (.ref l) (upd H l (.lst ys))
theorem Gv:pY K (YM K) dList:=λvs H ds d Q rs q k=>by
 unfold dList at q
 split at q
 ·rename_i d0
  obtain⟨es,q1,q2⟩:=aV q
  split at q2
  ·rename_i hi
   cases q2
   obtain⟨v,rfl,r⟩:=lU rs
   obtain⟨p,xs,rfl,r2,r3⟩:=yK q1 r
   exact⟨p,xs,rfl,r2,λl hl=>k _ _ (bF hl _) (mU (aN.refl _) (.bB hi r3) hl)⟩
  ·cases q2
 ·cases q
theorem Gw(hk:X.K=K):gW X (.type "list") (YM K):=by subst hk;exact Gb
def wA:List D→Option D
 | [.dk ks ds]=>some (.lst (ks.map kD))
 | _=>none
theorem Eb:∀ks:List Key,D.bB (ks.map kD)=true
 | []=>by rw[G5];unfold D.bB;rfl
 | k::ks=>by rw[D4];unfold D.bB;rw[Eb ks];cases k<;>(unfold kD D.fU;rfl)
theorem Kg{H:Hp}:∀ks:List Key,bW K H (ks.map kD) (ks.map kV)
 | []=>by rw[G5,G5];unfold bW;rfl
 | k::ks=>by rw[D4,D4];unfold bW;exact⟨_,_,rfl,by cases k<;>(unfold kD kV Rv;rfl),Kg ks⟩
def mz:List V→Hp→VK→Prop:=λxs H Q=>∃p kvs,xs=[.ref p]∧Rd H p (.dK kvs)∧∀l,H l=none→Q (.ref l) (upd H l (.lst (kvs.map λkv=>kV kv.1)))
theorem Zd{ks:List Key}{xs:List V}(h:ks.length=xs.length):((ks.zip xs).map λkv=>kV kv.1)=ks.map kV:=by
 have:((ks.zip xs).map λkv=>kV kv.1)=((ks.zip xs).map Prod.fst).map kV:=by rw[J0];rfl
 rw[this,T5 (by omega)]
theorem zX:pY K mz wA:=λvs H ds d Q rs q k=>by
 unfold wA at q
 split at q
 ·rename_i ks es
  cases q
  obtain⟨v,rfl,r⟩:=lU rs
  unfold Rv at r
  obtain⟨p,xs,rfl,r2,r3,r4⟩:=r
  refine⟨p,_,rfl,r2,λl hl=>?_⟩
  rw[Zd r3]
  exact k _ _ (bF hl _) (mU (aN.refl _) (.bB (Eb ks) (Kg ks)) hl)
 ·cases q
def zY:List D→Option D
 | [d]=>(pZ d).bind λds=>if D.bB ds=true then some (.tup ds)else none
 | _=>none
def Ze(K:aA):List V→Hp→VK→Prop:=λxs H Q=>∃p ys,xs=[.ref p]∧((lH K H p ys∧∀l,H l=none→Q (.ref l) (upd H l (.tup ys)))∨(mO K H p ys∧Q (.ref p) H))
theorem Zf:pY K (Ze K) zY:=λvs H ds d Q rs q k=>by
 unfold zY at q
 split at q
 ·rename_i d0
  obtain⟨es,q1,q2⟩:=aV q
  split at q2
  ·rename_i hi
   cases q2
   obtain⟨v,rfl,r⟩:=lU rs
   obtain⟨p,xs,rfl,r2,r3⟩:=yK q1 r
   refine⟨p,xs,rfl,?_⟩
   rcases r2 with r2 | r2
   ·exact .inl ⟨r2,λl hl=>k _ _ (bF hl _) (Gr (.bB hi r3) hl)⟩
   ·exact .inr ⟨r2,k _ H (aN.refl _) (.fU (by unfold D.fU;exact hi) (by unfold Rv;exact⟨p,xs,rfl,r2,r3⟩))⟩
  ·cases q2
 ·cases q
theorem Zg(hk:X.K=K):gW X (.type "tuple") (Ze K):=by subst hk;exact Ck
def intsOf:List D→Option (List Int)
 | []=>some []
 | .int i::ds=>(intsOf ds).map (i::·)
 | _=>none
theorem jB:∀ns:List Int,intsOf (ns.map D.int)=some ns
 | []=>rfl
 | n::ns=>by rw[D4];unfold intsOf;rw[jB ns];rfl
theorem qQ:∀{ds:List D} {ns:List Int},intsOf ds=some ns→ds=ns.map D.int
 | [],ns,h=>by unfold intsOf at h;cases h;rfl
 | d::ds,ns,h=>by
  cases d with
  | int i=>
   unfold intsOf at h
   obtain⟨ms,h1,rfl⟩:=iT h
   rw[D4,←qQ h1]
  | _=>unfold intsOf at h;cases h
theorem iH{H:Hp}:∀{ns:List Int} {xs:List V},bW K H (ns.map D.int) xs↔xs=ns.map V.int
 | [],xs=>by rw[G5,G5];unfold bW;rfl
 | n::ns,xs=>by
  rw[D4,D4]
  unfold bW
  constructor
  ·rintro⟨y,ys,rfl,h1,h2⟩
   unfold Rv at h1
   rw[h1,iH.mp h2]
  ·rintro rfl
   exact⟨_,_,rfl,by unfold Rv;rfl,iH.mpr rfl⟩
theorem bR:∀ns:List Int,D.bB (ns.map D.int)=true
 | []=>by rw[G5];unfold D.bB;rfl
 | n::ns=>by rw[D4];unfold D.bB D.fU;rw[bR ns];rfl
theorem uO{H:Hp}{ds:List D}{ns:List Int}{v:V}(h:intsOf ds=some ns)(r:Rv K H (.lst ds) v):∃p,v=.ref p∧lH K H p (ns.map V.int):=by
 rw[qQ h]at r
 unfold Rv at r
 obtain⟨p,xs,r1,r2,r3⟩:=r
 rw[iH.mp r3]at r2
 exact⟨p,r1,r2⟩
def sortI(ns:List Int):List Int:=ns.mergeSort λa b=>decide (a≤b)
theorem jZ(ns:List Int):rising ns (sortI ns):=⟨W2 _ _,by
 have h:=U0 (le:=λa b:Int=>decide (a≤b)) (λa b c h1 h2=>decide_eq_true (Int.le_trans (of_decide_eq_true h1) (of_decide_eq_true h2))) (λa b=>by
  rw[P5,decide_eq_true_iff,decide_eq_true_iff];exact Int.le_total a b) ns
 exact h.imp λh=>of_decide_eq_true h⟩
theorem Ec:∀{l m:List Int},l.Pairwise (·≤·)→m.Pairwise (·≤·)→l.Perm m→l=m
  | [],m,_,_,p=>(Z0 p)
  | a::l,[],_,_,p=>absurd p.symm (by simp)
  | a::l,b::m,h1,h2,p=>by
    obtain⟨wg,h1b⟩:=E6.mp h1
    obtain⟨wj,h2b⟩:=E6.mp h2
    have e:a=b:=by
      have q1:a∈b::m:=p.mem_iff.mp B9
      have q2:b∈a::l:=p.mem_iff.mpr B9
      rcases C4.mp q1 with q1 | q1
      · exact q1
      · rcases C4.mp q2 with q2 | q2
        · exact q2.symm
        · have:=wg b q2
          have:=wj a q1
          omega
    subst e
    rw[Ec h1b h2b (X4 p)]
theorem Gx{ns ms:List Int}(h:rising ns ms):ms=sortI ns:=Ec h.2 (jZ ns).2 (h.1.trans (jZ ns).1.symm)
def aCe:List D→Option D
 | [.int i,.int j]=>some (.int (if j > i then j else i))
 | _=>none
def Kh:List D→Option D
 | [.int i,.int j]=>some (.int (if j<i then j else i))
 | _=>none
theorem RG:pY K (λxs H Q=>∃i j,xs=[.int i,.int j]∧Q (.int (if j<i then j else i)) H) Kh:=λvs H ds d Q rs q k=>by
 unfold Kh at q
 split at q
 ·cases q
  obtain⟨v,w,rfl,r1,r2⟩:=Ol rs
  unfold Rv at r1 r2
  exact⟨_,_,by rw[r1,r2],k _ H (aN.refl _) (.fU rfl (by unfold Rv;rfl))⟩
 ·cases q
end
end L2


namespace L2
open PySem PySem.Spec PyProof.Rows
section
variable{K:aA}{X:Cx}{e a b c:Expr}{es rest:List Expr}{t ta tb:TE}{f g:FE}{tA:TA}{fs:FA}{pos:Pos}{tc:TT}{fc fd:FT}{td:TT}
abbrev FO:=DE→Option (Option Int)
def EvO(K:aA)(t:TO)(f:FO):Prop:=∀(σ:St)(H:Hp)(e:DE)(o:Option Int)(Q:Option Int→Hp→Prop),sX K H e σ→f e=some o→(∀H',aN H H'→Q o H')→t σ H Q
structure XO(K:aA)(X:Cx)(e:Option Expr)(t:TO)(f:FO):Prop where
 po:PO X e t
 ev:EvO K t f
def zZ:FO:=λ_=>some none
def nO(f:FE):FO:=λe=>(f e).bind λd=>match d with | .int i=>some (some i) | _=>none
theorem yL:XO K X none Rp zZ:=⟨OJ,λσ H e o Q re q k=>by cases q;exact k H (aN.refl _)⟩
theorem rQ(h:XR K X e t f):XO K X (some e) (XQ t) (nO f):=⟨PB h.pe,λσ H e o Q re q k=>by
 unfold nO at q
 obtain⟨d,q1,q2⟩:=aV q
 split at q2
 ·rename_i i
  cases q2
  refine h.ev σ H H e _ _ (Zn.self K H) re q1 λv H1 Z1 s1 t1 z1 rv=>?_
  unfold Rv at rv
  exact⟨i,rv,k H1 s1⟩
 ·cases q2⟩
def kE{α:Type}(xs:List α)(lo hi:Option Int):List α:=(xs.drop (HT.fM xs.length 0 lo)).take (HT.fM xs.length xs.length hi-HT.fM xs.length 0 lo)
theorem bW.drop{H:Hp}:∀{ds:List D} {xs:List V} (n:Nat),bW K H ds xs→bW K H (ds.drop n) (xs.drop n)
 | ds,xs,0,h=>h
 | [],xs,n+1,h=>by unfold bW at h;subst h;simp;unfold bW;rfl
 | d::ds,xs,n+1,h=>by unfold bW at h;obtain⟨y,ys,rfl,_,h2⟩:=h;simpa using bW.drop n h2
theorem bW.take{H:Hp}:∀{ds:List D} {xs:List V} (n:Nat),bW K H ds xs→bW K H (ds.take n) (xs.take n)
 | ds,xs,0,h=>by simp;unfold bW;rfl
 | [],xs,n+1,h=>by unfold bW at h;subst h;simp;unfold bW;rfl
 | d::ds,xs,n+1,h=>by unfold bW at h;obtain⟨y,ys,rfl,h1,h2⟩:=h;rw[R7,R7];unfold bW;exact⟨y,_,rfl,h1,bW.take n h2⟩
theorem Gy{H:Hp}{ds:List D}{xs:List V}(lo hi:Option Int)(h:bW K H ds xs):bW K H (kE ds lo hi) (yZ xs lo hi):=by
 unfold kE yZ
 rw[h.length]
 exact(h.drop _).take _
def Zh(fU:Bool)(f:FE)(l h:FO):FE:=λe=>(f e).bind λd=>(l e).bind λlo=>(h e).bind λhi=>match d with
 | .lst ds=>if fU=false∨D.bB (kE ds lo hi)=true then some (.lst (kE ds lo hi))else none
 | _=>none
theorem Kl{fU:Bool}{f:FE}{l h:FO}{e:DE}{d:D}(q:Zh fU f l h e=some d):∃ds lo hi,f e=some (.lst ds)∧l e=some lo∧h e=some hi∧(fU=false∨D.bB (kE ds lo hi)=true)∧d=.lst (kE ds lo hi):=by
 unfold Zh at q
 obtain⟨d0,q1,q⟩:=aV q
 obtain⟨lo,q2,q⟩:=aV q
 obtain⟨hi,q3,q⟩:=aV q
 split at q
 ·split at q
  ·rename_i c;cases q;exact⟨_,lo,hi,q1,q2,q3,c,rfl⟩
  ·cases q
 ·cases q
theorem Sh(hk:X.K=K):yx X (PQ K):=by subst hk;exact PX
variable{lo hi:Option Expr}{tl th:TO}{fl fh:FO}{p2:Pos}
theorem Aa(h:XR K X e t f)(hl:XO K X lo tl fl)(hu:XO K X hi th fh):XR K X (.Subscript e (.Slice lo hi none p2) pos) (tSl (PQ K) t tl th) (Zh false f fl fh):=⟨h.hk,yX (Sh h.hk) h.pe hl.po hu.po,λσ H Z e d Q z re q k=>by
 obtain⟨ds,lo,hi,q1,q2,q3,_,rfl⟩:=Kl q
 refine h.ev σ H Z e _ _ z re q1 λv H1 Z1 s1 t1 z1 rv=>hl.ev σ H1 e lo _ (re.same (z.sm.trans s1)) q2 λH2 s2=>hu.ev σ H2 e hi _ (re.same (z.sm.trans (s1.trans s2))) q3 λH3 s3=>?_
 have z3:=Gp z1 (s2.trans s3)
 have t3:aN Z1 (Gn Z1 H1 H3):=vV z1
 unfold Rv at rv
 obtain⟨p,xs,rfl,r2,r3⟩:=rv
 refine⟨p,xs,rfl,z3.sm.seq (t3.seq r2),λl hl=>?_⟩
 obtain⟨a1,a2⟩:=Yx (o:=.lst (yZ xs lo hi)) z3 hl
 exact k _ _ _ (s1.trans (s2.trans (s3.trans (bF hl _)))) (t1.trans (t3.trans a1)) a2 (by unfold Rv;exact⟨l,_,rfl,lH.of aX,a1.Vp _ _ (t3.Vp _ _ (Gy lo hi r3))⟩)⟩
theorem Zi(h:XR K X e t f)(hl:XO K X lo tl fl)(hu:XO K X hi th fh):XN K X (.Subscript e (.Slice lo hi none p2) pos) (tSl (PQ K) t tl th) (Zh true f fl fh):=⟨h.hk,yX (Sh h.hk) h.pe hl.po hu.po,λσ H e d Q re q k=>by
 obtain⟨ds,lo,hi,q1,q2,q3,qi,rfl⟩:=Kl q
 refine h.ev σ H H e _ _ (Zn.self K H) re q1 λv H1 Z1 s1 t1 z1 rv=>hl.ev σ H1 e lo _ (re.same s1) q2 λH2 s2=>hu.ev σ H2 e hi _ (re.same (s1.trans s2)) q3 λH3 s3=>?_
 have wz:=(z1.sm.trans (s2.trans s3)).rv _ _ rv
 unfold Rv at wz
 obtain⟨p,xs,rfl,r2,r3⟩:=wz
 refine⟨p,xs,rfl,r2,λl hl=>?_⟩
 have Zj:=s1.trans (s2.trans s3)
 exact k _ _ (Zj.trans (bF hl _)) (mU Zj (.bB (qi.resolve_left (by decide)) (Gy lo hi r3)) hl)⟩
def Zk(K:aA):R2:=λx y H Q=>∃l b xs zs,x=.ref l∧y=.ref b∧lH K H l xs∧lH K H b zs∧xs.length+zs.length≤sizeLine∧∀p,H p=none→Q (.ref p) (upd H p (.lst (xs++zs)))
theorem RJ(hk:X.K=K):sU X (binaryOp .Add) (Zk K):=by
 subst hk
 intro pins s σ H x y v u Q I rx ry h
 obtain⟨l,b,xs,zs,rfl,rfl,h1,h2,hz,q⟩:=h
 cases rx
 cases ry
 obtain⟨its,r,pl,_⟩:=I.list h1
 obtain⟨its2,r2,Ju,_⟩:=I.list h2
 obtain⟨⟨cl,dd,da,sl⟩,ho,hc,n,hd⟩:=pl.isList
 obtain⟨⟨cl2,dd2,da2,sl2⟩,ho2,hc2,n2,hd2⟩:=Ju.isList
 dsimp only at hc hd hc2 hd2
 subst hc hd hc2 hd2
 have hlen:its.toArray.size+its2.toArray.size≤sizeLine:=by rw[B6,B6,←r.length,←r2.length];exact hz
 have ea:its.toArray++its2.toArray=(its++its2).toArray:=by simp
 refine concat_meets ⟨_,ho,rfl⟩ ⟨_,ho2,rfl⟩ noFill_list_add seq_list_add PySem.F.slot_list_add PySem.F.entry_list_add (PySem.F.args_list_add_2 _ _)
  (list_addW l b its.toArray its2.toArray n n2 dd dd2 sl sl2 hlen) ⟨ho,ho2,?_⟩
 rw[ea]
 exact⟨.ref _,_,I.zm (t':=s.toks) (r.append r2) (by rw[C7];exact hz),rfl,q _ I.fresh⟩
def dJ(a b:D):Option D:=match a,b with
 | .int i,.int j=>some (.int (i+j))
 | .lst x,.lst y=>if D.bB (x++y)=true∧x.length+y.length≤100000 then some (.lst (x++y))else none
 | _,_=>none
theorem bW.append{H:Hp}:∀{ds es:List D} {xs ys:List V},bW K H ds xs→bW K H es ys→bW K H (ds++es) (xs++ys)
 | [],es,xs,ys,h,h'=>by unfold bW at h;subst h;exact h'
 | d::ds,es,xs,ys,h,h'=>by unfold bW at h;obtain⟨y,yt,rfl,h1,h2⟩:=h;rw[K7,K7];unfold bW;exact⟨y,_,rfl,h1,bW.append h2 h'⟩
theorem RK:Yu K (λx y H Q=>Xl (λi j=>.int (i+j)) x y H Q∨Zk K x y H Q) dJ:=λx y H a b d Q ra rb q k=>by
 unfold dJ at q
 split at q
 ·cases q;unfold Rv at ra rb;exact .inl ⟨_,_,ra,rb,k _ H (aN.refl _) (.fU rfl (by unfold Rv;rfl))⟩
 ·split at q
  ·rename_i c
   cases q
   unfold Rv at ra rb
   obtain⟨p,xs,rfl,r2,r3⟩:=ra
   obtain⟨p',xs',rfl,r2',r3'⟩:=rb
   refine .inr ⟨p,p',xs,xs',rfl,rfl,r2,r2',Ry (by rw[r3.length,r3'.length];exact c.2),λl hl=>?_⟩
   exact k _ _ (bF hl _) (mU (aN.refl _) (.bB c.1 (r3.append r3')) hl)
  ·cases q
 ·cases q
theorem dB(ha:XR K X a ta f)(hb:XR K X b tb g):XN K X (.BinOp a .Add b pos) (Fv (λx y H Q=>Xl (λi j=>.int (i+j)) x y H Q∨Zk K x y H Q) ta tb) (f2 dJ f g):=zT (fj.or (RJ ha.hk)) RK ha hb
def EvI(K:aA)(wi:TI)(fi:FA):Prop:=∀{N:Fp}(σ:St)(H Z:Hp)(e:DE)(ds:List D)(R:It→Hp→Prop),Zn K N Z H→sX K Z e σ→fi e=some ds →
 (∀J H' Z' P vs,aN H H'→aN Z Z'→Zn K N Z' H'→jl J P vs→(∀H2,aN Z' H2→P H2)→bW K Z' ds vs→R J H')→wi σ H R
structure XI(K:aA)(X:Cx)(tg iter:Expr)(wi:TI)(fi:FA):Prop where
 hk:X.K=K
 pi:PI X tg iter wi
 ev:EvI K wi fi
def cM(f:FE):FA:=λe=>(f e).bind pZ
def ni(K:aA)(t:TE):TI:=λσ H R=>XD K t σ H R∨yl K t σ H R
theorem cN{tg:Expr}(h:XR K X e t f):XI K X tg e (ni K t) (cM f):=⟨h.hk,by
 have hk:=h.hk
 subst hk
 exact λpins s σ H R I q=>q.elim (MK h.pe pins s σ H R I) (dq h.pe pins s σ H R I),λσ H Z e ds R z re q k=>by
 unfold cM at q
 obtain⟨d,q1,q2⟩:=aV q
 cases d with
 | lst es=>
  unfold pZ at q2;cases q2
  refine .inl (h.ev σ H Z e _ _ z re q1 λv H1 Z1 s1 t1 z1 rv=>?_)
  unfold Rv at rv
  obtain⟨p,xs,rfl,r2,r3⟩:=rv
  exact⟨p,rfl,⟨xs,z1.sm.seq r2⟩,k _ H1 Z1 _ xs s1 t1 z1 Jt (λH2 s=>s.seq r2) r3⟩
 | tup es=>
  unfold pZ at q2;cases q2
  refine .inr (h.ev σ H Z e _ _ z re q1 λv H1 Z1 s1 t1 z1 rv=>?_)
  unfold Rv at rv
  obtain⟨p,xs,rfl,r2,r3⟩:=rv
  exact⟨p,rfl,⟨xs,z1.sm.tup r2⟩,k _ H1 Z1 _ xs s1 t1 z1 QQ (λH2 s=>s.tup r2) r3⟩
 | _=>unfold pZ at q2;cases q2⟩
def dR(lo:Int)(n:Nat):List D:=(D6 n).map λi:Nat=>D.int (lo+(i:Int))
theorem wB{H:Hp}(lo:Int)(n:Nat):bW K H (dR lo n) ((D6 n).map λi:Nat=>V.int (lo+(i:Int))):=by
 unfold dR
 refine bW.of (by simp) λi d x h1 h2=>?_
 rw[C8]at h1 h2
 cases q:(D6 n)[i]? with
 | none=>rw[q]at h1;cases h1
 | some j=>rw[q]at h1 h2;cases h1;cases h2;unfold Rv;rfl
def lim(i:Int):Bool:=decide (-100000≤i∧i≤100000)
def jL(fs:FA):FA:=λe=>(fs e).bind λds=>match ds with
 | [.int n]=>if lim n=true then some (dR 0 n.toNat)else none
 | _=>none
def Ed(fs:FA):FA:=λe=>(fs e).bind λds=>match ds with
 | [.int i,.int j]=>if lim i=true∧lim j=true then some (dR i (j-i).toNat)else none
 | _=>none
theorem wC{i:Int}(h:lim i=true):-100000≤i∧i≤100000:=of_decide_eq_true h
theorem Ef{tg:Expr}{p:Pos}(hg:Gl X "range") (hm:X.mg "range" = none) (ha:XA K X [a] tA fs) (hs:starEach [a] X.env=[(false,eval a X.env)]:=by rfl):XI K X tg (.Call (.Name "range" p) [a] [] pos) (Xw tA) (jL fs):=⟨ha.hk,Dl hg hm ha.pa hs,λσ H Z e ds R z re q k=>by
 unfold jL at q
 obtain⟨es,q1,q2⟩:=aV q
 split at q2
 ·rename_i n
  split at q2
  ·rename_i hl
   cases q2
   have hl:=wC hl
   refine ha.ev σ H Z e _ _ z re q1 λvs H1 Z1 s1 t1 z1 rs=>?_
   obtain⟨v,rfl,r⟩:=lU rs
   unfold Rv at r
   subst r
   exact⟨n,rfl,by omega,by omega,k _ H1 Z1 _ _ s1 t1 z1 vQ (λ_ _=>True.intro) (wB 0 n.toNat)⟩
  ·cases q2
 ·cases q2⟩
def jW(e:DE)(fr:List Nat):DE:=fr.map λi=>(e[i]?).getD none
theorem Sq{H:Hp}{e:DE}{σ:St}{fr:List Nat}{d:D}{x:V}(re:sX K H e σ)(r:Rv K H d x):sX K H (some d::jW e fr) (some x::uJ σ fr):=λi d' h=>by
 cases i with
 | zero=>simp at h;subst h;exact⟨x,rfl,r⟩
 | succ i=>
  rw[U1]at h ⊢
  unfold jW at h
  unfold uJ
  rw[C8]at h ⊢
  cases q:fr[i]? with
  | none=>rw[q]at h;cases h
  | some j=>
   rw[q]at h
   have h:(e[j]?).getD none=some d':=F5 h
   have h2:e[j]?=some (some d'):=by
    cases q2:e[j]? with
    | none=>rw[q2]at h;cases h
    | some o=>rw[q2]at h;rw[show o=some d' from h]
   obtain⟨v,h3,h4⟩:=re j d' h2
   refine⟨v,?_,h4⟩
   show some (σ.getD j none)=_
   rw[B3,h3]
   rfl
def qR(c:D→Option Bool)(el:D→Option D):List D→Option (List D)
 | []=>some []
 | x::xs=>(c x).bind λb=>if b=true then(el x).bind λy=>(qR c el xs).map (y::·)else qR c el xs
def dF(fi:FA)(fr:List Nat)(fc:FT)(fe:FE):FE:=λe=>(fi e).bind λxs=>if xs.length≤100000 then(qR (λx=>fc (some x::jW e fr)) (λx=>fe (some x::jW e fr)) xs).map D.lst else none
theorem Ab{H:Hp}{p:Addr}{o:HO}(n:tE H p):xX K H (upd H p o):=λa xs h=>h.upd n
theorem Ss{wi:TI}{fi:FA}{fr:List Nat}{te:TE}{fe:FE}(hi:EvI K wi fi)(hc:Ob K tc fc)(he:Gq K te fe):Gq K (Jr wi 1 fr (dI 0) tc te) (dF fi fr fc fe):=by
 intro σ H e d Q re q k
 unfold dF at q
 obtain⟨xs,q1,q⟩:=aV q
 split at q
 ·rename_i hlen
  obtain⟨ds,q2,rfl⟩:=iT q
  refine hi σ H H e xs _ (Zn.self K H) re q1 λJ H1 Z1 P vs s1 t1 z1 hJ hP rvs=>?_
  intro D0 hD
  have hl:=rvs.length
  have hHD:H D0=none:=s1.free hD
  generalize hcc:(λx=>fc (some x::jW e fr))=cc at q2
  generalize hel:(λx=>fe (some x::jW e fr))=el at q2
  refine⟨λi m ys H2=>∃xf ds2 A,m=vs.length-i∧i≤vs.length∧ds=xf++ds2∧qR cc el (xs.drop i)=some ds2∧aN H1 H2∧H2 D0=some (.lst ys)∧dU K H2 xf A ys∧(∀a,A a→H1 a=none∧a≠D0)∧ys.length≤i,
   ⟨vs.length,[],ds,nil,by simp,G9 _,rfl,by simpa using q2,bF hD _,aX,by unfold dU;exact⟨λ_ z=>z,rfl⟩,λ_ z=>z.elim,B4 _⟩,?_⟩
  rintro i m ys H2 ⟨xf,ds2,A,rfl,hi',hds,hcl,s2,hD2,ow,fr2,hyl⟩
  obtain⟨j1,j2,j3⟩:=hJ i H2 (hP H2 (z1.sm.trans s2))
  refine⟨hD2,?_⟩
  by_cases hlt:i<vs.length
  ·refine .inr ⟨j1 hlt,λx H' y=>?_⟩
   obtain⟨e1,ex⟩:=j2 x H' y
   subst e1
   have hx:=ex hlt
   have hxi:i<xs.length:=by omega
   have hxs:xs.drop i=xs[i]::xs.drop (i+1):=N4 hxi
   obtain⟨x',hx',rx⟩:=rvs.get (B0 hxi)
   rw[hx]at hx'
   cases hx'
   rw[hxs]at hcl
   unfold qR at hcl
   obtain⟨bb,c1,c2⟩:=aV hcl
   show Kp 1 σ fr (some x::uJ σ fr)∧_
   refine⟨⟨by simp[blk],λj v hv=>?_⟩,?_⟩
   ·cases j with
    | zero=>simp[blk]at hv
    | succ j=>simpa[blk]using hv
   have re2:sX K H' (some xs[i]::jW e fr) (some x::uJ σ fr):=Sq (re.same (s1.trans s2)) ((z1.sm.trans s2).rv _ _ rx)
   refine hc _ H' _ bb _ re2 (by rw[←hcc]at c1;exact c1) λH3 s3=>?_
   have hD3:=s3 _ _ hD2
   cases bb with
   | false=>
    rw[if_neg (by decide)]at c2 ⊢
    exact⟨vs.length-(i+1),by omega,xf,ds2,A,rfl,by omega,hds,c2,s2.trans s3,hD3,ow.same s3,fr2,by omega⟩
   | true=>
    rw[if_pos rfl]at c2 ⊢
    obtain⟨dy,c3,c4⟩:=aV c2
    obtain⟨ds3,c5,rfl⟩:=iT c4
    refine he _ H3 _ dy _ (re2.same s3) (by rw[←hel]at c3;exact c3) λyv H4 s4 n4=>?_
    have hD4:=s4 _ _ hD3
    refine⟨hD4,Yw (by omega),vs.length-(i+1),by omega,xf++[dy],ds3,?_⟩
    obtain⟨B,oB,fB⟩:=n4
    have hB:∀a,B a→H1 a=none∧a≠D0:=λa qa=>⟨(s2.trans s3).free (fB a qa),λz=>by have q0:=fB a qa;rw[z,hD3]at q0;cases q0⟩
    refine⟨jA A B,rfl,by omega,by rw[hds];simp,c5,λb o eb=>?_,aX,?_,λa qa=>qa.elim (fr2 a) (hB a),by rw[C7];simp;exact hyl⟩
    ·rw[aQ (bH eb hD)]
     exact(s2.trans (s3.trans s4)) b o eb
    ·have o4:=(ow.same s3).same s4
     have ap:Apart A B:=λa qa qb=>by
      obtain⟨⟨u,eu⟩,_⟩:=dU.cells _ _ _ (ow.same s3) a qa
      rw[fB a qb]at eu;cases eu
     have all:dU K H4 (xf++[dy]) (jA A B) (ys++[yv]):=gJ.mpr ((gJ.mp o4).snoc oB ap)
     exact dU.frame (Ab (rO hD4)) _ _ _ all λa qa=>aQ (qa.elim (λz=>(fr2 a z).2) λz=>(hB a z).2)
  ·have ei:i=vs.length:=by omega
   subst ei
   have:xs.drop vs.length=[]:=List.drop_eq_nil_of_le (by omega)
   rw[this]at hcl
   unfold qR at hcl
   cases hcl
   rw[U4]at hds
   subst hds
   refine .inl ⟨j3 (B4 _),k _ H2 (s1.trans s2) ⟨jA (·=D0) A,?_,λa qa=>qa.elim (λz=>by cases z;exact hHD) λz=>s1.free (fr2 a z).1⟩⟩
   unfold Ow
   exact⟨D0,ys,A,rfl,hD2,λz=>(fr2 D0 z).2 rfl,λ_=>Iff.rfl,ow⟩
 ·cases q
def qT:FT:=λ_=>some true
structure XTs(K:aA)(X:Cx)(ifs:List Expr)(t:TT)(f:FT):Prop where
 pts:jk X ifs t
 ev:Ob K t f
theorem yM:XTs K X [] aAb qT:=⟨QH,λσ H e b Q re q k=>by cases q;exact k H (aN.refl _)⟩
theorem iI(h:XT K X c tc fc):XTs K X [c] tc fc:=⟨QJ h.pt,h.ev⟩
theorem iJ{tg elt iter:Expr}{ifs:List Expr}{scope:Scope}{wi:TI}{fi:FA}{te:TE}{fe:FE}(N:List Str)(fr:List Nat)(hcalm:X.calm=true)(B:fO X.env.scope scope X.N N 1 fr)(hi:XI K X tg iter wi fi)
  (hg:∀cl fp s H C,PG (eG X scope N cl fp s H C) tg (dI 0)) (hc:∀cl fp s H C,XTs K (eG X scope N cl fp s H C) ifs tc fc) (he:∀cl fp s H C,XN K (eG X scope N cl fp s H C) elt te fe)
  (hs:∀x,foldedSetIterable iter X.env x=pure x:=by intro _;rfl):XN K X (.ListComp elt [⟨tg,iter,ifs,0⟩] scope pos) (Jr wi 1 fr (dI 0) tc te) (dF fi fr fc fe):=
 ⟨hi.hk,QL N 1 fr hcalm B hi.pi hg (λcl fp s H C=>(hc cl fp s H C).pts) (λcl fp s H C=>(he cl fp s H C).pe) hs,
  Ss hi.ev (hc [] [] X.s₀ X.H₀ 0).ev (he [] [] X.s₀ X.H₀ 0).ev⟩
def iW(K:aA)(n:Nat)(F:List D→Option D):Sp:=λvs H Q _=>∃ds d,ds.length=n∧bW K H ds vs∧F ds=some d∧∀v H',aN H H'→Gm K H H' d v→Q v H'
def bI(n:Nat)(F:List D→Option D)(fs:FA):FE:=λe=>(fs e).bind λds=>if ds.length=n then F ds else none
theorem bT{x:Str}{k n:Nat}{F:List D→Option D}{p:Pos}(C:iU X.prog X.w X.K X.mg X.base x k n (iW K n F))(hr:jU k X.A)(hg:Gl X x)(ha:XA K X (e::es) tA fs)(hdb:(x==("__debug__" : Str))=false:=by decide)
  (he:starEach (e::es) X.env=(false,eval e X.env)::starEach es X.env:=by rfl) (hpl:(backTo pos (starEach es X.env)).any (·.1)=false:=by rfl):XN K X (.Call (.Name x p) (e::es) [] pos) (Jj (iW K n F) [] E0 tA) (bI n F fs):=
 ⟨ha.hk,jr C hr hg ha.pa hdb he hpl,λσ H e d Q re q k=>by
  unfold bI at q
  obtain⟨ds,q1,q2⟩:=aV q
  split at q2
  ·rename_i hl
   refine call_of (ha.ev σ H H e ds _ (Zn.self K H) re q1 λvs H1 Z1 s1 t1 z1 rs=>?_)
   exact⟨ds,d,hl,z1.sm.Vp _ _ rs,q2,λv H2 s2 n=>k v H2 (s1.trans s2) (n.back s1)⟩
  ·cases q2⟩
end
end L2


namespace L2
open PySem PySem.Spec PyProof.Rows
inductive SD where
  | no | fro (d:D) | own (d:D) | inn (v:V) (d:D)
def SD.z:SD→Option D
 | .fro d=>some d
 | .own d=>if d.fU=true then some d else none
 | .inn _ d=>if d.fU=true then some d else none
 | .no=>none
def SD.r:SD→Option D
 | .fro d=>some d
 | .own d=>some d
 | .inn _ d=>some d
 | .no=>none
abbrev EN:=List SD
def zE(env:EN):DE:=env.map SD.z
def rE(env:EN):DE:=env.map SD.r
def jX(K:aA)(H Z:Hp):SD→Fp→Option V→Prop
 | .no,A,_=>None A
 | .fro d,A,y=>None A∧∃v,y=some v∧Rv K Z d v
 | .own d,A,y=>∃v,y=some v∧Ow K H d A v
 | .inn v d,A,y=>y=some v∧Ow K H d A v
def Rel(K:aA)(B:Hp)(env:EN)(σ:St)(H:Hp):Prop:=∃A,gZ (jX K H (out H A)) env A σ∧aN B (out H A)
section
variable{K:aA}{B B' H H' Z Z':Hp}{env:EN}{σ:St}{A:Fp}
theorem gZ.all{α β:Type}{R:α→Fp→β→Prop}{Pr:Addr→Prop}:∀{ds:List α} {A:Fp} {ys:List β},gZ R ds A ys→(∀d B y,R d B y→∀a,B a→Pr a)→∀a,A a→Pr a
 | [],A,ys,h,_,a,q=>absurd q (h.1 a)
 | d::ds,A,ys,⟨y,yt,A1,A2,h1,h2,h3,h4,h5⟩,m,a,q=>((h3 a).mp q).elim (m _ _ _ h4 a) (gZ.all h5 m a)
theorem jX.cells{s:SD}{y:Option V}(h:jX K H Z s A y):∀a,A a→qK H a:=by
 cases s with
 | no=>exact λa q=>absurd q (h a)
 | fro d=>exact λa q=>absurd q (h.1 a)
 | own d=>obtain⟨v,_,o⟩:=h;exact Ow.cells d A v o
 | inn v d=>exact Ow.cells d A v h.2
theorem fX(h:gZ (jX K H Z) env A σ):∀a,A a→qK H a:=gZ.all h λ_ _ _ q=>q.cells
theorem Rel.mono(h:Rel K B' env σ H)(s:aN B B'):Rel K B env σ H:=let ⟨A,a,b⟩:=h;⟨A,a,s.trans b⟩
theorem gB{A A':Fp}(s:aN H H')(h:∀a,A' a→A a∨H a=none):aN (out H A) (out H' A'):=λb o e=>by
 obtain⟨e1,e2⟩:=bK.mp e
 refine bK.mpr ⟨λq=>?_,s b o e2⟩
 rcases h b q with q | q
 ·exact e1 q
 ·rw[q]at e2;cases e2
theorem jX.same{s:SD}{y:Option V}(h:jX K H Z s A y)(e:aN H H')(z:aN Z Z'):jX K H' Z' s A y:=by
 cases s with
 | no=>exact h
 | fro d=>obtain⟨h1,v,h2,h3⟩:=h;exact⟨h1,v,h2,z.rv _ _ h3⟩
 | own d=>obtain⟨v,h1,h2⟩:=h;exact⟨v,h1,h2.same e⟩
 | inn v d=>exact⟨h.1,h.2.same e⟩
theorem Rel.same(h:Rel K B env σ H)(s:aN H H'):Rel K B env σ H':=by
 obtain⟨A,a,b⟩:=h
 have g:aN (out H A) (out H' A):=gB s λa q=>.inl q
 exact⟨A,a.mono λe C z _ q=>q.same s g,b.trans g⟩
theorem Gz(h:gZ (jX K H (out H A)) env A σ):Zn K A (out H A) H:=⟨gA H A,Ys λa q=>(fX h a q).2,λa q=>⟨by
 unfold out;rw[if_pos q],λz=>by obtain⟨⟨o,e⟩,_⟩:=fX h a q;rw[z]at e;cases e⟩⟩
theorem Rel.r(h:Rel K B env σ H):sX K H (rE env) σ:=λi d q=>by
 obtain⟨A,a,b⟩:=h
 unfold rE at q
 rw[C8]at q
 cases e:env[i]? with
 | none=>rw[e]at q;cases q
 | some s=>
  rw[e]at q
  obtain⟨y,A1,C,h1,h2,h3,h4,_⟩:=a.focus e
  cases s with
  | no=>cases q
  | fro d0=>cases q;obtain⟨_,v,rfl,h5⟩:=h4;exact⟨v,h1,(gA H A).rv _ _ h5⟩
  | own d0=>cases q;obtain⟨v,rfl,h5⟩:=h4;exact⟨v,h1,Ow.rv _ _ _ h5⟩
  | inn v d0=>cases q;obtain⟨rfl,h5⟩:=h4;exact⟨v,h1,Ow.rv _ _ _ h5⟩
theorem aAm(a:gZ (jX K H (out H A)) env A σ):sX K (out H A) (zE env) σ:=λi d q=>by
 unfold zE at q
 rw[C8]at q
 cases e:env[i]? with
 | none=>rw[e]at q;cases q
 | some s=>
  rw[e]at q
  obtain⟨y,A1,C,h1,h2,h3,h4,_⟩:=a.focus e
  cases s with
  | no=>cases q
  | fro d0=>cases q;obtain⟨_,v,rfl,h5⟩:=h4;exact⟨v,h1,h5⟩
  | own d0=>
   obtain⟨v,rfl,h5⟩:=h4
   have q:(if d0.fU=true then some d0 else none)=some d:=F5 q
   split at q
   ·rename_i im
    cases q
    exact⟨v,h1,(vU _ v im (Ow.rv _ _ _ h5)).out (λ_ z=>z.elim) λx hx=>(fX a x hx).2⟩
   ·cases q
  | inn v d0=>
   obtain⟨rfl,h5⟩:=h4
   have q:(if d0.fU=true then some d0 else none)=some d:=F5 q
   split at q
   ·rename_i im
    cases q
    exact⟨v,h1,(vU _ v im (Ow.rv _ _ _ h5)).out (λ_ z=>z.elim) λx hx=>(fX a x hx).2⟩
   ·cases q
theorem Rel.own{i:Nat}{d:D}{v:V}(h:Rel K B env σ H)(hi:i<env.length)(s:aN H H')(n:Gm K H H' d v):Rel K B (env.set i (.own d)) (σ.set i (some v)) H':=by
 obtain⟨A,a,b⟩:=h
 obtain⟨N,o,f⟩:=n
 have cl:=fX a
 obtain⟨y,A1,C,h1,h2,h3,h4,k⟩:=a.focus (B0 hi)
 have g:aN (out H A) (out H' (jA N C)):=gB s λx q=>q.elim (λq=>.inr (f x q)) λq=>.inl ((h3 x).mpr (.inr q))
 refine⟨jA N C,k (jX K H' (out H' (jA N C))) (λe D z _ q=>q.same s g) (.own d) (some v) N (λx q c=>?_) ⟨v,rfl,o⟩,b.trans g⟩
 obtain⟨⟨u,e⟩,_⟩:=cl x ((h3 x).mpr (.inr c))
 rw[f x q]at e;cases e
theorem Hf{i:Nat}{d:D}{v:V}(a:gZ (jX K H (out H A)) env A σ)(b:aN B (out H A))(hi:i<env.length)(s:aN H H')(t:aN (out H A) Z')(z:Zn K A Z' H')(r:Rv K Z' d v):Rel K B (env.set i (.fro d)) (σ.set i (some v)) H':=by
 obtain⟨y,A1,C,h1,h2,h3,h4,k⟩:=a.focus (B0 hi)
 have hC:∀x,jA nil C x→A x:=λx q=>q.elim False.elim λq=>(h3 x).mpr (.inr q)
 have g:aN (out H A) (out H' (jA nil C)):=gB s λx q=>.inl (hC x q)
 have g2:aN Z' (out H' (jA nil C)):=λx o e=>bK.mpr ⟨λq=>(by rw[(z.no x (hC x q)).1]at e;cases e),z.sm x o e⟩
 exact⟨jA nil C,k (jX K H' (out H' (jA nil C))) (λe D z _ q=>q.same s g) (.fro d) (some v) nil (λx q c=>q) ⟨λ_ z=>z,v,rfl,g2.rv _ _ r⟩,b.trans g⟩
def Zm(env:EN)(j:Nat):EN:=match env[j]? with
 | some (.own d)=>env.set j (.fro d)
 | _=>env
def qG(js:List Nat)(env:EN):EN:=js.foldl Zm env
theorem set_same{α:Type}{l:List α}{i:Nat}{x:α}(h:l[i]?=some x):l.set i x=l:=by
 apply O3
 intro j
 rw[List.getElem?_set]
 by_cases c:i=j
 ·subst c
  rw[if_pos rfl,h]
  split
  ·rfl
  ·rename_i q;rw[F0 (by omega)]at h;cases h
 ·rw[if_neg c]
theorem Rel.Zm{j:Nat}(h:Rel K B env σ H):Rel K B (Zm env j) σ H:=by
 unfold L2.Zm
 cases e:env[j]? with
 | none=>exact h
 | some s=>
  cases s with
  | no=>exact h
  | fro d=>exact h
  | inn v d=>exact h
  | own d=>
   obtain⟨A,a,b⟩:=h
   have cl:=fX a
   obtain⟨y,A1,C,h1,h2,h3,h4,k⟩:=a.focus e
   obtain⟨v,rfl,o⟩:=h4
   have g:aN (out H A) (out H (jA nil C)):=gB (aN.refl _) λx q=>q.elim False.elim λq=>.inl ((h3 x).mpr (.inr q))
   have:=k (jX K H (out H (jA nil C))) (λe D z _ q=>q.same (aN.refl _) g) (.fro d) (some v) nil (λx q c=>q)
    ⟨λ_ z=>z,v,rfl,o.out (λx q c=>h2 x q (c.elim False.elim id)) λx q=>(cl x ((h3 x).mpr (.inr (q.elim False.elim id)))).2⟩
   rw[set_same h1]at this
   exact⟨jA nil C,this,b.trans g⟩
theorem Rel.qG{js:List Nat}(h:Rel K B env σ H):Rel K B (qG js env) σ H:=by
 unfold L2.qG
 induction js generalizing env with
 | nil=>exact h
 | cons j js ih=>exact ih h.Zm
end
inductive SR where
  | next (env:EN) | ret (d:D) | brk (env:EN) | cont (env:EN) | bad | rete (d:D) (env:EN)
def Ac(K:aA)(B:Hp)(E:Ends):SR→Prop
 | .next env=>∀σ H,Rel K B env σ H→E.nx σ H
 | .ret d=>∀v H A,aN B (out H A)→Ow K H d A v→E.rt v H
 | .brk env=>∀σ H,Rel K B env σ H→E.bk σ H
 | .cont env=>∀σ H,Rel K B env σ H→E.ct σ H
 | .bad=>False
 | .rete d env=>∀v σ H,Rel K B (env++[.own d]) (σ++[some v]) H→E.rt v H
theorem Ac.mono{K:aA}{B B':Hp}{E:Ends}{r:SR}(h:Ac K B E r)(s:aN B B'):Ac K B' E r:=by
 cases r with
 | next env=>exact λσ H q=>h σ H (q.mono s)
 | ret d=>exact λv H A q=>h v H A (s.trans q)
 | brk env=>exact λσ H q=>h σ H (q.mono s)
 | cont env=>exact λσ H q=>h σ H (q.mono s)
 | bad=>exact h
 | rete d env=>exact λv σ H q=>h v σ H (q.mono s)
abbrev GS:=EN→SR
def DS(K:aA)(t:TS)(g:GS):Prop:=∀(B:Hp)(E:Ends)(σ:St)(H:Hp)(env:EN),Rel K B env σ H→Ac K B E (g env)→t E σ H
def aAn(K:aA)(B:Hp)(E:Ends)(σ:St):SR→Prop
 | .next env=>∀H,Rel K B env σ H→E.nx σ H
 | r=>Ac K B E r
def DSs(K:aA)(t:TS)(g:GS):Prop:=∀(B:Hp)(E:Ends)(σ:St)(H:Hp)(env:EN),Rel K B env σ H→aAn K B E σ (g env)→t E σ H
theorem DSs.ds{K:aA}{t:TS}{g:GS}(h:DSs K t g):DS K t g:=λB E σ H env r p=>h B E σ H env r (by
 cases q:g env with
 | next e=>rw[q]at p;exact λH' r'=>p σ H' r'
 | ret d=>rw[q]at p;exact p
 | brk e=>rw[q]at p;exact p
 | cont e=>rw[q]at p;exact p
 | bad=>rw[q]at p;exact p
 | rete d e=>rw[q]at p;exact p)
structure YS(K:aA)(X:Cx)(st:Stmt)(t:TS)(g:GS):Prop where
 ps:PS X st t
 ev:DS K t g
structure YB(K:aA)(X:Cx)(st:List Stmt)(t:TS)(g:GS):Prop where
 ps:Iw X st t
 ev:DS K t g
section
variable{K:aA}{X:Cx}{st:Stmt}{sts:List Stmt}{t u:TS}{g g1 g2:GS}{e a b c:Expr}{te ta tb:TE}{f fa fb:FE}{tc:TT}{fc:FT}{pos:Pos}
def aU(g1 g2:GS):GS:=λenv=>match g1 env with
 | .next env'=>g2 env'
 | r=>r
theorem nq(h1:DS K t g1)(h2:DS K u g2):DS K (di t u) (aU g1 g2):=λB E σ H env r p=>by
 unfold aU at p
 refine h1 B {E with nx:=u E} σ H env r ?_
 cases q:g1 env with
 | next env'=>rw[q]at p;exact λσ' H' r'=>h2 B E σ' H' env' r' p
 | ret d=>rw[q]at p;exact p
 | brk d=>rw[q]at p;exact p
 | cont d=>rw[q]at p;exact p
 | bad=>rw[q]at p;exact p
 | rete d e=>rw[q]at p;exact p
def eX:GS:=λenv=>.next env
theorem fP:YB K X [] XC eX:=⟨LR,λB E σ H env r p=>p σ H r⟩
theorem aR(h:YS K X st t g):YB K X [st] t g:=⟨MF h.ps,h.ev⟩
theorem aL(h:YS K X st t g1)(h2:YB K X sts u g2):YB K X (st::sts) (di t u) (aU g1 g2):=⟨Xr h.ps h2.ps,nq h.ev h2.ev⟩
def bJ(i:Nat)(f:FE):GS:=λenv=>match f (rE env)with
 | some d=>if i<env.length then .next (env.set i (.own d))else .bad
 | none=>.bad
theorem Zo{i:Nat}(h:Gq K te f):DS K (Fq te (dI i)) (bJ i f):=λB E σ H env r p=>by
 unfold bJ at p
 split at p
 ·rename_i d q
  split at p
  ·rename_i hi
   exact h σ H (rE env) d _ r.r q λv H' s n=>p _ _ (r.own hi s n)
  ·exact p.elim
 ·exact p.elim
theorem aY{i:Nat}{x:Str}{pos':Pos}(h:XN K X e te f)(hp:PE X e te→PS X (.Assign [.Name x pos'] e pos) (Fq te (dI i))):YS K X (.Assign [.Name x pos'] e pos) (Fq te (dI i)) (bJ i f):=⟨hp h.pe,Zo h.ev⟩
def iK(f:FE):GS:=λenv=>match f (rE env)with
 | some d=>.ret d
 | none=>.bad
theorem cO(h:XN K X e te f):YS K X (.Return (some e) pos) (dm te) (iK f):=⟨Xu h.pe,λB E σ H env r p=>by
 unfold iK at p
 split at p
 ·rename_i d q
  refine h.ev σ H (rE env) d _ r.r q λv H' s ⟨N,o,fr⟩=>p v H' N (λx u ex=>?_) o
  obtain⟨A,a,b⟩:=r
  have h1:=(bK.mp (b x u ex)).2
  exact bK.mpr ⟨λz=>(by rw[fr x z]at h1;cases h1),s x u h1⟩
 ·exact p.elim⟩
def lV(i:Nat):GS:=λenv=>match env[i]? with
 | some (.own d)=>.ret d
 | some (.fro d)=>if d.fU=true then .ret d else .bad
 | _=>.bad
theorem mW{i:Nat}(h:PE X e (sS i)):YS K X (.Return (some e) pos) (dm (sS i)) (lV i):=⟨Xu h,λB E σ H env r p=>by
 unfold lV at p
 obtain⟨A,a,b⟩:=r
 split at p
 ·rename_i d q
  obtain⟨y,A1,C,h1,h2,h3,h4,_⟩:=a.focus q
  obtain⟨v,rfl,o⟩:=h4
  exact⟨v,h1,p v H A1 (b.trans (gB (aN.refl _) λx z=>.inl ((h3 x).mpr (.inl z)))) o⟩
 ·rename_i d q
  split at p
  ·rename_i im
   obtain⟨y,A1,C,h1,h2,h3,h4,_⟩:=a.focus q
   obtain⟨_,v,rfl,rv⟩:=h4
   exact⟨v,h1,p v H nil (b.trans (gB (aN.refl _) λx z=>z.elim)) (vU d v im ((gA H A).rv _ _ rv))⟩
  ·exact p.elim
 ·exact p.elim⟩
def rR(f:FT)(g1 g2:GS):GS:=λenv=>match f (rE env)with
 | some true=>g1 env
 | some false=>g2 env
 | none=>.bad
theorem iY{s1 s2:List Stmt}(hc:XT K X c tc fc)(h1:YB K X s1 t g1)(h2:YB K X s2 u g2):YS K X (.If c s1 s2 pos) (yf tc t u) (rR fc g1 g2):=⟨yg hc.pt h1.ps h2.ps,λB E σ H env r p=>by
 unfold rR at p
 split at p
 ·rename_i q
  refine hc.ev σ H (rE env) true _ r.r q λH' s=>?_
  rw[if_pos rfl]
  exact h1.ev B E σ H' env (r.same s) p
 ·rename_i q
  refine hc.ev σ H (rE env) false _ r.r q λH' s=>?_
  rw[if_neg (by decide)]
  exact h2.ev B E σ H' env (r.same s) p
 ·exact p.elim⟩
def qC(i:Nat)(g:GS):List D→EN→SR
 | [],env=>.next env
 | x::xs,env=>if i<env.length then match g (env.set i (.fro x))with
   | .next env'=>qC i g xs env'
   | .cont env'=>qC i g xs env'
   | .brk env'=>.next env'
   | r=>r
  else .bad
def pI(js:List Nat)(i:Nat)(fi:FA)(g:GS):GS:=λenv=>match fi (zE (qG js env))with
 | some xs=>qC i g xs (qG js env)
 | none=>.bad
theorem nu{js:List Nat}{i:Nat}{wi:TI}{fi:FA}{tb:TS}(hi:EvI K wi fi)(h:DS K tb g):DS K (Nj wi (dI i) tb) (pI js i fi g):=λB E σ H env r p=>by
 unfold pI at p
 have r':Rel K B (qG js env) σ H:=r.qG
 generalize qG js env=qD at r' p
 split at p
 ·rename_i xs q
  obtain⟨A,a,b⟩:=r'
  refine hi σ H (out H A) (zE qD) xs _ (Gz a) (aAm a) q λJ H1 Z1 P vs s t z hJ hP rvs=>?_
  have hl:=rvs.length
  have g0:aN Z1 (out H1 A):=λx o e=>bK.mpr ⟨λqa=>(by rw[(z.no x qa).1]at e;cases e),z.sm x o e⟩
  have oh:Rel K Z1 qD σ H1:=⟨A,a.mono λe D y _ qq=>qq.same s (gB s λx q=>.inl q),g0⟩
  have bz:aN B Z1:=b.trans t
  have p':=p.mono bz
  refine Gh hJ (λk σ2 H2=>∃gC,Rel K Z1 gC σ2 H2∧Ac K Z1 E (qC i g (xs.drop k) gC)) ⟨qD,oh,by simpa using p'⟩ (λk σ2 H2 _ ⟨gC,⟨A2,a2,b2⟩,_⟩=>hP H2 (b2.trans (gA H2 A2))) ?_ ?_
  ·rintro k x σ2 H2 hx ⟨gC,r2,p2⟩
   have hk:k<xs.length:=by
    have:=B8.mp hx
    obtain⟨h1,_⟩:=this
    omega
   rw[N4 hk]at p2
   unfold qC at p2
   obtain⟨x',hx',rx⟩:=rvs.get (B0 hk)
   rw[hx]at hx'
   cases hx'
   split at p2
   ·rename_i hlen
    obtain⟨A2,a2,b2⟩:=r2
    have r3:Rel K Z1 (gC.set i (.fro xs[k])) (σ2.set i (some x)) H2:=Hf a2 b2 hlen (aN.refl _) (aN.refl _) (Gz a2) (b2.rv _ _ rx)
    refine h Z1 _ _ H2 _ r3 ?_
    split at p2
    ·rename_i env' q2;rw[q2];exact λσ' H' r'=>⟨env',r',p2⟩
    ·rename_i env' q2;rw[q2];exact λσ' H' r'=>⟨env',r',p2⟩
    ·rename_i env' q2;rw[q2];exact p2
    ·rename_i n1 n2 n3
     cases q2:g (gC.set i (.fro xs[k]))with
     | next e=>exact absurd q2 (n1 e)
     | cont e=>exact absurd q2 (n2 e)
     | brk e=>exact absurd q2 (n3 e)
     | ret d=>rw[q2]at p2;exact p2
     | bad=>rw[q2]at p2;exact p2
     | rete d e=>rw[q2]at p2;exact p2
   ·exact p2.elim
  ·rintro σ2 H2 ⟨gC,r2,p2⟩
   rw[hl,T6]at p2
   exact p2 σ2 H2 r2
 ·exact p.elim
def jC(c:FT)(g:GS):Nat→EN→SR
 | 0,_=>.bad
 | n+1,env=>match c (rE env)with
  | some true=>(match g env with
   | .next env'=>jC c g n env'
   | .cont env'=>jC c g n env'
   | .brk env'=>.next env'
   | r=>r)
  | some false=>.next env
  | none=>.bad
theorem Zq{n:Nat}{tb:TS}(hc:Ob K tc fc)(h:DS K tb g):DS K (Ng tc tb) (jC fc g n):=λB E σ H env r p=>by
 refine⟨λm σ2 H2=>∃gC,Rel K B gC σ2 H2∧Ac K B E (jC fc g m gC),⟨n,env,r,p⟩,?_⟩
 rintro m σ2 H2 ⟨gC,r2,p2⟩
 cases m with
 | zero=>exact p2.elim
 | succ m=>
  unfold jC at p2
  split at p2
  ·rename_i q
   refine hc σ2 H2 (rE gC) true _ r2.r q λH3 s=>?_
   rw[if_pos rfl]
   refine⟨λσ' H'=>∃env',Rel K B env' σ' H'∧Ac K B E (jC fc g m env'),λσ' H' ⟨env',a1,a2⟩=>⟨m,M6 m,env',a1,a2⟩,?_⟩
   refine h B _ σ2 H3 gC (r2.same s) ?_
   split at p2
   ·rename_i env' q2;rw[q2];exact λσ' H' r'=>⟨env',r',p2⟩
   ·rename_i env' q2;rw[q2];exact λσ' H' r'=>⟨env',r',p2⟩
   ·rename_i env' q2;rw[q2];exact p2
   ·rename_i n1 n2 n3
    cases q2:g gC with
    | next e=>exact absurd q2 (n1 e)
    | cont e=>exact absurd q2 (n2 e)
    | brk e=>exact absurd q2 (n3 e)
    | ret d=>rw[q2]at p2;exact p2
    | bad=>rw[q2]at p2;exact p2
    | rete d e=>rw[q2]at p2;exact p2
  ·rename_i q
   refine hc σ2 H2 (rE gC) false _ r2.r q λH3 s=>?_
   rw[if_neg (by decide)]
   exact p2 σ2 H3 (r2.same s)
  ·exact p2.elim
theorem pJ{tg iter:Expr}{body:List Stmt}{wi:TI}{fi:FA}{tb:TS}{i:Nat}(js:List Nat)(hp:PassesOwn (model X.prog X.w) X.A X.env X.xe)(Zr:X.calm=true)(hi:XI K X tg iter wi fi)(hg:PG X tg (dI i))(hb:YB K X body tb g)
  (hs:∀x,foldedSetIterable iter X.env x=pure x:=by intro _;rfl):YS K X (.For tg iter body [] pos) (Nj wi (dI i) tb) (pI js i fi g):=⟨Nk hp Zr hi.pi hg hb.ps hs,nu hi.ev hb.ev⟩
theorem Km{body:List Stmt}{tb:TS}(n:Nat)(hp:PassesOwn (model X.prog X.w) X.A X.env X.xe)(hc:XT K X c tc fc)(hb:YB K X body tb g):YS K X (.While c body [] pos) (Ng tc tb) (jC fc g n):=⟨Xv hp hc.pt hb.ps,Zq hc.ev hb.ev⟩
end
end L2


namespace L2
open PySem PySem.Spec PyProof.Rows
inductive Step where
  | ix (k:Nat) | key (k:Key) | fld (C:Addr) (f:Str)
def kids:D→List D
 | .lst ds=>ds
 | .dk _ ds=>ds
 | .ins _ _ ds=>ds
 | _=>[]
def Ad:D→List D→D
 | .lst _,ds=>.lst ds
 | .dk ks _,ds=>.dk ks ds
 | .ins C nm _,ds=>.ins C nm ds
 | d,_=>d
def Hg:Step→D→Option Nat
 | .ix k,.lst ds=>some k
 | .key k,.dk ks _=>posK ks k
 | .fld C f,.ins C' nm _=>if C'=C then posK nm f else none
 | _,_=>none
def xZ:List Step→D→Option D
 | [],d=>some d
 | s::p,d=>(Hg s d).bind λj=>((kids d)[j]?).bind (xZ p)
def wD:List Step→D→D→D
 | [],_,d'=>d'
 | s::p,d,d'=>match Hg s d with
  | some j=>(match (kids d)[j]? with
   | some c=>Ad d ((kids d).set j (wD p c d'))
   | none=>d)
  | none=>d
def stepV(H:Hp)(s:Step)(v:V):Option V:=match v with
 | .ref a=>(match s,H a with
  | .ix k,some (.lst xs)=>xs[k]?
  | .key k,some (.dK kvs)=>sV kvs k
  | .fld C f,some (.ins C' _ fs)=>if C'=C then fs.lookup f else none
  | _,_=>none)
 | _=>none
def Vs(H:Hp):List Step→V→Option V
 | [],v=>some v
 | s::p,v=>(stepV H s v).bind (Vs H p)
theorem Om{H H':Hp}(e:aN H H'){s:Step}{v w:V}(h:stepV H s v=some w):stepV H' s v=some w:=by
 cases v with
 | ref a=>
  unfold stepV at h ⊢
  dsimp only at h ⊢
  cases q:H a with
  | none=>rw[q]at h;cases s<;>cases h
  | some o=>rw[e a o q];rw[q]at h;exact h
 | _=>unfold stepV at h;cases h
theorem Ko{H H':Hp}(e:aN H H'):∀{p:List Step} {v w:V},Vs H p v=some w→Vs H' p v=some w
 | [],v,w,h=>h
 | s::p,v,w,h=>by
  unfold Vs at h ⊢
  obtain⟨u,h1,h2⟩:=aV h
  rw[Om e h1]
  exact Ko e h2
theorem Oo{nm:List Str}{xs:List V}{f:Str}(h:nm.length=xs.length):(nm.zip xs).lookup f=(posK nm f).bind λj=>xs[j]?:=by
 induction nm generalizing xs with
 | nil=>unfold posK;rfl
 | cons a nm ih=>
  cases xs with
  | nil=>simp at h
  | cons x xs=>
   have ih:=ih (xs:=xs) (by simpa using h)
   unfold posK
   rw[Q1,O7]
   by_cases c:a=f
   ·subst c;simp
   ·have c2:(f==a)=false:=by
     rw[beq_eq_false_iff_ne];exact λz=>c z.symm
    rw[c2,if_neg c,ih]
    cases posK nm f<;>rfl
theorem Ow.kids{K:aA}{H:Hp}{d:D}{A:Fp}{v:V}{s:Step}{j:Nat}(h:Ow K H d A v)(q:Hg s d=some j):∃xs T Bt,(∀x,xs[j]?=some x→stepV H s v=some x)∧dU K H (kids d) Bt xs∧Is A (jA T Bt)∧Apart T Bt ∧
  ∀H' ds' B',ds'.length=(kids d).length→dU K H' ds' B' xs→(∀a,T a→H' a=H a)→Apart T B'→Ow K H' (Ad d ds') (jA T B') v:=by
 cases d with
 | lst ds=>
  unfold Ow at h
  obtain⟨a,xs,B,rfl,h2,h3,h4,h5⟩:=h
  cases s with
  | ix k=>
   unfold Hg at q
   cases q
   refine⟨xs,(·=a),B,λx hx=>?_,h5,h4,λx qx qb=>h3 (qx▸qb),λH' ds' B' hl o f ap=>?_⟩
   ·unfold stepV;dsimp only;rw[h2];exact hx
   ·show Ow K H' (.lst ds') _ _
    unfold Ow
    exact⟨a,xs,B',rfl,(f a rfl).trans h2,ap a rfl,λ_=>Iff.rfl,o⟩
  | _=>unfold Hg at q;cases q
 | dk ks ds=>
  unfold Ow at h
  obtain⟨a,xs,B,rfl,h2,h2',h3,h4,h5⟩:=h
  cases s with
  | key k=>
   have q:posK ks k=some j:=q
   refine⟨xs,(·=a),B,λx hx=>?_,h5,h4,λx qx qb=>h3 (qx▸qb),λH' ds' B' hl o f ap=>?_⟩
   ·unfold stepV;dsimp only;rw[h2];show sV (ks.zip xs) k=_;rw[qM h2',q];exact hx
   ·show Ow K H' (.dk ks ds') _ _
    unfold Ow
    exact⟨a,xs,B',rfl,(f a rfl).trans h2,h2',ap a rfl,λ_=>Iff.rfl,o⟩
  | _=>unfold Hg at q;cases q
 | ins C nm ds=>
  unfold Ow at h
  obtain⟨a,dx,xs,B,rfl,h2,h2',h3,h3',h3'',h4,h5⟩:=h
  cases s with
  | fld C0 k=>
   have q:(if C=C0 then posK nm k else none)=some j:=q
   by_cases hc:C=C0
   rotate_left
   ·rw[if_neg hc]at q;cases q
   rw[if_pos hc]at q
   refine⟨xs,(λx=>x=a∨x=dx),B,λx hx=>?_,h5,h4,λx qx qb=>qx.elim (λz=>h3' (z▸qb)) λz=>h3'' (z▸qb),λH' ds' B' hl o f ap=>?_⟩
   ·unfold stepV;dsimp only;rw[h2];show (if C=C0 then(nm.zip xs).lookup k else none)=_;rw[if_pos hc,Oo h3,q];exact hx
   ·show Ow K H' (.ins C nm ds') _ _
    unfold Ow
    exact⟨a,dx,xs,B',rfl,(f a (.inl rfl)).trans h2,(f dx (.inr rfl)).trans h2',h3,ap a (.inl rfl),ap dx (.inr rfl),λ_=>Iff.rfl,o⟩
  | _=>unfold Hg at q;cases q
 | _=>cases s<;>(unfold Hg at q;cases q)
theorem Ow.at{K:aA}{H:Hp}:∀{p:List Step} {d d1:D} {A:Fp} {v:V},Ow K H d A v→xZ p d=some d1→∃w A1 C,Vs H p v=some w∧Apart A1 C∧Is A (jA A1 C)∧Ow K H d1 A1 w ∧
    ∀H' d' A',Apart A' C→(∀a,C a→H' a=H a)→xX K H H'→Ow K H' d' A' w→Ow K H' (wD p d d') (jA A' C) v
  | [],d,d1,A,v,h,q=>by
    unfold xZ at q
    cases q
    exact⟨v,A,nil,rfl,λ_ _ z=>z,λx=>⟨.inl,λz=>z.elim id False.elim⟩,h,λH' d' A' _ _ _ o=>o.congr λx=>⟨.inl,λz=>z.elim id False.elim⟩⟩
  | s::p,d,d1,A,v,h,q=>by
    unfold xZ at q
    obtain⟨j,q1,q2⟩:=aV q
    obtain⟨c,q3,q4⟩:=aV q2
    obtain⟨xs,T,Bt,k1,k2,k3,k4,k5⟩:=h.kids q1
    obtain⟨y,B1,C1,f1,f2,f3,f4,f5⟩:=(gJ.mp k2).focus q3
    obtain⟨w,A1,C2,g1,g2,g3,g4,g5⟩:=Ow.at f4 q4
    refine⟨w,A1,jA T (jA C1 C2),?_,?_,?_,g4,λH' d' A' ap fr tk o=>?_⟩
    · unfold Vs
      rw[k1 y f1]
      exact g1
    · intro x qx qc
      have b1:B1 x:=(g3 x).mpr (.inl qx)
      rcases qc with qc | qc | qc
      · exact k4 x qc ((f3 x).mpr (.inl b1))
      · exact f2 x b1 qc
      · exact g2 x qx qc
    · intro x
      rw[k3 x]
      constructor
      · rintro(z | z)
        · exact .inr (.inl z)
        · rcases(f3 x).mp z with z | z
          · rcases(g3 x).mp z with z | z
            · exact .inl z
            · exact .inr (.inr (.inr z))
          · exact .inr (.inr (.inl z))
      · rintro(z | z | z | z)
        · exact .inr ((f3 x).mpr (.inl ((g3 x).mpr (.inl z))))
        · exact .inl z
        · exact .inr ((f3 x).mpr (.inr z))
        · exact .inr ((f3 x).mpr (.inl ((g3 x).mpr (.inr z))))
    · have o1:Ow K H' (wD p c d') (jA A' C2) y:=g5 H' d' A' (λx a b=>ap x a (.inr (.inr b))) (λa z=>fr a (.inr (.inr z))) tk o
      have ap1:Apart (jA A' C2) C1:=λx a b=>a.elim (λz=>ap x z (.inr (.inl b))) λz=>f2 x ((g3 x).mpr (.inr z)) b
      have o2:=f5 (Ow K H') (λe B z hb qq=>Ow.frame tk e B z qq λa za=>fr a (.inr (.inl (hb a za)))) (wD p c d') y (jA A' C2) ap1 o1
      rw[set_same f1]at o2
      have o3:=k5 H' ((L2.kids d).set j (wD p c d')) _ (by rw[a7]) (gJ.mpr o2) (λa z=>fr a (.inl z)) (λx a b=>by
        rcases b with (b | b) | b
        · exact ap x b (.inl a)
        · exact k4 x a ((f3 x).mpr (.inl ((g3 x).mpr (.inr b))))
        · exact k4 x a ((f3 x).mpr (.inr b)))
      have e:wD (s::p) d d'=Ad d ((L2.kids d).set j (wD p c d')):=by
        show (match Hg s d with | some j=>_ | none=>_)=_
        rw[q1]
        show (match (L2.kids d)[j]? with | some c=>_ | none=>_)=_
        rw[q3]
      rw[e]
      refine o3.congr λx=>?_
      show (T x∨(A' x∨C2 x)∨C1 x)↔(A' x∨T x∨C1 x∨C2 x)
      constructor
      · rintro(z | (z | z) | z)
        · exact .inr (.inl z)
        · exact .inl z
        · exact .inr (.inr (.inr z))
        · exact .inr (.inr (.inl z))
      · rintro(z | z | z | z)
        · exact .inr (.inl (.inl z))
        · exact .inl z
        · exact .inr (.inr z)
        · exact .inr (.inl (.inr z))
section
variable{K:aA}{B H:Hp}{env:EN}{σ:St}
theorem Rel.at{i:Nat}{p:List Step}{d0 d:D}(h:Rel K B env σ H)(e:env[i]?=some (.own d0))(q:xZ p d0=some d):∃v0 w A1 C,σ[i]?=some (some v0)∧Vs H p v0=some w∧Ow K H d A1 w∧Apart A1 C∧(∀a,C a→qK H a) ∧
    ∀H' d' A',Apart A' C→(∀a,C a→H' a=H a)→xX K H H'→Ow K H' d' A' w→aN (out H (jA A1 C)) (out H' (jA A' C))→Rel K B (env.set i (.own (wD p d0 d'))) σ H':=by
  obtain⟨A,a,b⟩:=h
  have cl:=fX a
  obtain⟨y,A1,C,h1,h2,h3,h4,k⟩:=a.focus e
  obtain⟨v0,rfl,o⟩:=h4
  obtain⟨w,B1,C1,g1,g2,g3,g4,g5⟩:=o.at q
  refine⟨v0,w,B1,jA C1 C,h1,g1,g4,λx z1 z2=>?_,λx z=>?_,λH' d' A' ap fr tk o' sm=>?_⟩
  · exact z2.elim (g2 x z1) (h2 x ((g3 x).mpr (.inl z1)))
  · exact cl x ((h3 x).mpr (z.elim (λz=>.inl ((g3 x).mpr (.inr z))) .inr))
  · have o2:=g5 H' d' A' (λx z1 z2=>ap x z1 (.inl z2)) (λx z=>fr x (.inl z)) tk o'
    have ap2:Apart (jA A' C1) C:=λx z1 z2=>z1.elim (λz=>ap x z (.inr z2)) λz=>h2 x ((g3 x).mpr (.inr z)) z2
    have hA:Is A (jA B1 (jA C1 C)):=λx=>by
      rw[h3 x]
      constructor
      · rintro(z | z)
        · exact((g3 x).mp z).elim .inl λz=>.inr (.inl z)
        · exact .inr (.inr z)
      · rintro(z | z | z)
        · exact .inl ((g3 x).mpr (.inl z))
        · exact .inl ((g3 x).mpr (.inr z))
        · exact .inr z
    have g:aN (out H A) (out H' (jA (jA A' C1) C)):=λx u ex=>by
      obtain⟨e1,e2⟩:=bK.mp ex
      have:=sm x u (bK.mpr ⟨λz=>e1 ((hA x).mpr z),e2⟩)
      obtain⟨e3,e4⟩:=bK.mp this
      exact bK.mpr ⟨λz=>e3 (z.elim (λz=>z.elim .inl λz=>.inr (.inl z)) λz=>.inr (.inr z)),e4⟩
    have s:=k (jX K H' (out H' (jA (jA A' C1) C))) (λs D z hb qq=>by
      cases s with
      | no=>exact qq
      | fro d=>obtain⟨q1,v,q2,q3⟩:=qq;exact⟨q1,v,q2,g.rv _ _ q3⟩
      | inn v d=>exact⟨qq.1,Ow.frame tk _ _ _ qq.2 λx zx=>fr x (.inr (hb x zx))⟩
      | own d=>obtain⟨v,q1,q2⟩:=qq;exact⟨v,q1,Ow.frame tk _ _ _ q2 λx zx=>fr x (.inr (hb x zx))⟩) (.own (wD p d0 d')) (some v0) (jA A' C1) ap2 ⟨v0,rfl,o2⟩
    rw[set_same h1]at s
    exact⟨_,s,b.trans g⟩
theorem Rel.aAo{i:Nat}{p:List Step}{d0:D}{ds:List D}(h:Rel K B env σ H)(e:env[i]?=some (.own d0))(q:xZ p d0=some (.lst ds)):∃v0 a xs Bs,σ[i]?=some (some v0)∧Vs H p v0=some (.ref a)∧H a=some (.lst xs)∧¬Bs a∧dU K H ds Bs xs ∧
    ∀H2 ds' xs' Bn,aN H H2→dU K H2 ds' Bn xs'→(∀b,Bn b→Bs b∨H b=none)→Rel K B (env.set i (.own (wD p d0 (.lst ds')))) σ (upd H2 a (.lst xs')):=by
  obtain⟨v0,w,A1,C,h1,h2,h3,h4,h5,h6⟩:=h.at e q
  unfold Ow at h3
  obtain⟨a,xs,Bs,rfl,o2,o3,o4,o5⟩:=h3
  refine⟨v0,a,xs,Bs,h1,h2,o2,o3,o5,λH2 ds' xs' Bn s o hb=>?_⟩
  have nBa:¬Bn a:=λz=>(hb a z).elim o3 λz=>by rw[o2]at z;cases z
  have hC:∀x,C x→¬x=a:=λx z y=>h4 x ((o4 x).mpr (.inl y)) z
  have Zt:H2 a=some (.lst xs):=s a _ o2
  refine h6 _ (.lst ds') (jA (·=a) Bn) (λx z1 z2=>?_) (λx z=>?_) (s.tk.trans (Ab (rO Zt))) ?_ (λx u ex=>?_)
  · rcases z1 with z1 | z1
    · exact hC x z2 z1
    · rcases hb x z1 with z | z
      · exact h4 x ((o4 x).mpr (.inr z)) z2
      · obtain⟨⟨u,eu⟩,_⟩:=h5 x z2
        rw[z]at eu;cases eu
  · obtain⟨⟨u,eu⟩,_⟩:=h5 x z
    rw[aQ (hC x z),eu,s x u eu]
  · unfold Ow
    refine⟨a,xs',Bn,rfl,aX,nBa,λ_=>Iff.rfl,dU.frame (Ab (rO Zt)) _ _ _ o λx zx=>aQ λy=>nBa (y▸zx)⟩
  · obtain⟨e1,e2⟩:=bK.mp ex
    have na:x≠a:=λy=>e1 (.inl ((o4 x).mpr (.inl y)))
    refine bK.mpr ⟨λz=>?_,by rw[aQ na];exact s x u e2⟩
    rcases z with (z | z) | z
    · exact na z
    · rcases hb x z with z | z
      · exact e1 (.inl ((o4 x).mpr (.inr z)))
      · rw[z]at e2;cases e2
    · exact e1 (.inr z)
theorem Rel.aBz{i:Nat}{p:List Step}{d0:D}{ks:List Key}{ds:List D}(h:Rel K B env σ H)(e:env[i]?=some (.own d0))(q:xZ p d0=some (.dk ks ds)):∃v0 a xs Bs,σ[i]?=some (some v0)∧Vs H p v0=some (.ref a)∧H a=some (.dK (ks.zip xs))∧ks.length=xs.length∧¬Bs a∧dU K H ds Bs xs ∧
    ∀H2 ks' ds' xs' Bn,aN H H2→ks'.length=xs'.length→dU K H2 ds' Bn xs'→(∀b,Bn b→Bs b∨H b=none)→Rel K B (env.set i (.own (wD p d0 (.dk ks' ds')))) σ (upd H2 a (.dK (ks'.zip xs'))):=by
  obtain⟨v0,w,A1,C,h1,h2,h3,h4,h5,h6⟩:=h.at e q
  unfold Ow at h3
  obtain⟨a,xs,Bs,rfl,o2,o2',o3,o4,o5⟩:=h3
  refine⟨v0,a,xs,Bs,h1,h2,o2,o2',o3,o5,λH2 ks' ds' xs' Bn s hl o hb=>?_⟩
  have nBa:¬Bn a:=λz=>(hb a z).elim o3 λz=>by rw[o2]at z;cases z
  have hC:∀x,C x→¬x=a:=λx z y=>h4 x ((o4 x).mpr (.inl y)) z
  have Zt:H2 a=some (.dK (ks.zip xs)):=s a _ o2
  refine h6 _ (.dk ks' ds') (jA (·=a) Bn) (λx z1 z2=>?_) (λx z=>?_) (s.tk.trans (Ab (zM Zt))) ?_ (λx u ex=>?_)
  · rcases z1 with z1 | z1
    · exact hC x z2 z1
    · rcases hb x z1 with z | z
      · exact h4 x ((o4 x).mpr (.inr z)) z2
      · obtain⟨⟨u,eu⟩,_⟩:=h5 x z2
        rw[z]at eu;cases eu
  · obtain⟨⟨u,eu⟩,_⟩:=h5 x z
    rw[aQ (hC x z),eu,s x u eu]
  · unfold Ow
    refine⟨a,xs',Bn,rfl,aX,hl,nBa,λ_=>Iff.rfl,dU.frame (Ab (zM Zt)) _ _ _ o λx zx=>aQ λy=>nBa (y▸zx)⟩
  · obtain⟨e1,e2⟩:=bK.mp ex
    have na:x≠a:=λy=>e1 (.inl ((o4 x).mpr (.inl y)))
    refine bK.mpr ⟨λz=>?_,by rw[aQ na];exact s x u e2⟩
    rcases z with (z | z) | z
    · exact na z
    · rcases hb x z with z | z
      · exact e1 (.inl ((o4 x).mpr (.inr z)))
      · rw[z]at e2;cases e2
    · exact e1 (.inr z)
end
end L2


namespace L2
open PySem PySem.Spec PyProof.Rows
abbrev FP:=DE→Option (List Step)
def EvP(K:aA)(t:TE)(i:Nat)(π:FP):Prop:=∀(σ:St)(H:Hp)(e:DE)(v0:V)(p:List Step)(v:V)(Q:VK),sX K H e σ→σ[i]?=some (some v0)→π e=some p→Vs H p v0=some v→(∀H',aN H H'→Q v H')→t σ H Q
structure XP(K:aA)(X:Cx)(e:Expr)(t:TE)(i:Nat)(π:FP):Prop where
 hk:X.K=K
 pe:PE X e t
 ev:EvP K t i π
def fH:FP:=λ_=>some []
section
variable{K:aA}{X:Cx}{e a b c:Expr}{es:List Expr}{t ta tb te:TE}{f g:FE}{tA:TA}{fs:FA}{pos:Pos}{i j:Nat}{π:FP}{st:Stmt}
theorem qU(h:PE X e (sS i))(hk:X.K=K:=by rfl):XP K X e (sS i) i fH:=⟨hk,h,λσ H e v0 p v Q re h1 h2 h3 k=>by
 cases h2
 unfold Vs at h3
 cases h3
 exact⟨v0,h1,k H (aN.refl _)⟩⟩
def sY(i:Nat)(π:FP)(f:FE):GS:=λenv=>match env[i]?,π (rE env),f (rE env)with
 | some (.own d0),some p,some d=>(match xZ p d0 with
  | some (.lst ds)=>if ds.length<100000 then .next (env.set i (.own (wD p d0 (.lst (ds++[d])))))else .bad
  | _=>.bad)
 | _,_,_=>.bad
theorem ou{H H1:Hp}{A:Fp}{ds:List D}{xs:List V}{N:Fp}(o:dU K H ds A xs)(fr:∀a,N a→H a=none):Apart A N:=λx q1 q2=>by
 obtain⟨⟨u,eu⟩,_⟩:=dU.cells _ _ _ o x q1
 rw[fr x q2]at eu;cases eu
theorem ph(h:EvP K ta i π)(he:Gq K te f):DSs K (Rh (tBM K "list" yG ta (mR te vO))) (sY i π f):=λB E σ H env r p=>by
 unfold sY at p
 split at p
 ·rename_i d0 pp d q1 q2 q3
  split at p
  ·rename_i ds q4
   split at p
   ·rename_i hl
    obtain⟨v0,a,xs,Bs,k1,k2,k3,k4,k5,k6⟩:=r.aAo q1 q4
    refine h σ H (rE env) v0 pp _ _ r.r k1 q2 k2 λH1 s1=>⟨.inl ⟨rfl,xs,lH.of (s1 _ _ k3)⟩,?_⟩
    refine he σ H1 (rE env) d _ (r.r.same s1) q3 λy H2 s2 n=>?_
    obtain⟨N,o,fr⟩:=n.back s1
    have s12:=s1.trans s2
    refine⟨a,xs,y,rfl,rfl,s12 _ _ k3,Yw (by rw[(dU.rv _ _ _ k5).length];omega),p _ ?_⟩
    exact k6 H2 (ds++[d]) (xs++[y]) (jA Bs N) s12 (gJ.mpr ((gJ.mp (k5.same s12)).snoc o (ou (H1:=H) k5 fr))) λb z=>z.imp id (fr b)
   ·exact p.elim
  ·exact p.elim
 ·exact p.elim
theorem qW{m:Str}{apos cpos:Pos}(h:XP K X a ta i π)(he:XN K X e te f)(hp:PE X a ta→PE X e te→PS X (.Expr (.Call (.Attribute a m apos) [e] [] cpos) pos) (Rh (tBM K "list" yG ta (mR te vO)))):YS K X (.Expr (.Call (.Attribute a m apos) [e] [] cpos) pos) (Rh (tBM K "list" yG ta (mR te vO))) (sY i π f):=⟨hp h.pe he.pe,(ph h.ev he.ev).ds⟩
def dX(i:Nat)(π:FP)(g f:FE):GS:=λenv=>match env[i]?,π (rE env),g (rE env),f (rE env)with
 | some (.own d0),some p,some k,some d=>(match xZ p d0,Vq k with
  | some (.dk ks ds),some k=>if d.fU=true∧ks.length<100000 then .next (env.set i (.own (wD p d0 (.dk (zW ks k) (putD ks ds k d)))))else .bad
  | _,_=>.bad)
 | _,_,_,_=>.bad
theorem Kq{H:Hp}{d:D}{v:V}(o:Ow K H d nil v)(k:Key):∀{ks:List Key} {ds:List D} {A:Fp} {xs:List V},ks.length=xs.length→dU K H ds A xs→∃A',(∀x,A' x→A x)∧dU K H (T4 (λk' d'=>if k'=k then d else d') ks ds) A' (T4 (λk' d'=>if k'=k then v else d') ks xs)
 | [],ds,A,xs,hl,h=>by
  cases xs with
  | nil=>exact⟨nil,λ_ z=>z.elim,by rw[V4,V4];unfold dU;exact⟨λ_ z=>z,rfl⟩⟩
  | cons x xs=>simp at hl
 | k0::ks,[],A,xs,hl,h=>by unfold dU at h;rw[h.2]at hl;simp at hl
 | k0::ks,d0::ds,A,xs,hl,h=>by
  unfold dU at h
  obtain⟨y,yt,A1,A2,rfl,h2,h3,h4,h5⟩:=h
  obtain⟨A',a1,a2⟩:=Kq o k (by simpa using hl) h5
  by_cases c:k0=k
  ·refine⟨A',λx q=>(h3 x).mpr (.inr (a1 x q)),?_⟩
   rw[L6,L6,if_pos c,if_pos c]
   unfold dU
   exact⟨v,_,nil,A',rfl,λ_ z=>z.elim,λx=>⟨.inr,λz=>z.elim False.elim id⟩,o,a2⟩
  ·refine⟨jA A1 A',λx q=>(h3 x).mpr (q.imp id (a1 x)),?_⟩
   rw[L6,L6,if_neg c,if_neg c]
   unfold dU
   exact⟨y,_,A1,A',rfl,λx z1 z2=>h2 x z1 (a1 x z2),λ_=>Iff.rfl,h4,a2⟩
theorem RL(h:EvP K ta i π)(hx:Iz K tb g)(he:Iz K te f):DSs K (Rt ta tb te) (dX i π g f):=λB E σ H env r p=>by
 unfold dX at p
 split at p
 ·rename_i d0 pp kd d q1 q2 q3 q3'
  split at p
  ·rename_i ks ds k q4 q5
   split at p
   ·rename_i hc
    obtain⟨v0,a,xs,Bs,k1,k2,k3,k3',k4,k5,k6⟩:=r.aBz q1 q4
    refine he σ H H (rE env) d _ (Zn.self K H) r.r q3' λy H1 Z1 s1 t1 z1 ry=>?_
    refine h σ H1 (rE env) v0 pp _ _ (r.r.same s1) k1 q2 (Ko s1 k2) λH2 s2=>hx σ H2 H2 (rE env) _ _ (Zn.self K H2) (r.r.same (s1.trans s2)) q3 λy' H3 Z3 s3 t3 z3 ry'=>?_
    have Zj:=s1.trans (s2.trans s3)
    have o:Ow K H3 d nil y:=vU d y hc.1 ((z1.sm.trans (s2.trans s3)).rv _ _ ry)
    have ek:=Gu q5 (z3.sm.rv _ _ ry')
    refine⟨a,_,rfl,.inl ⟨ks.zip xs,k,Zj _ _ k3,ek,Yw (by rw[a8];omega),rfl⟩,p _ ?_⟩
    rw[Yz k3']
    have ow3:=k5.same Zj
    have hl3:=(dU.rv _ _ _ k5).length
    by_cases c:(posK ks k).isSome=true
    ·obtain⟨A',a1,a2⟩:=Kq o k k3' ow3
     refine k6 H3 (zW ks k) (putD ks ds k d) (putD ks xs k y) A' Zj (Kc k3') ?_ λb z=>.inl (a1 b z)
     unfold putD
     rw[if_pos c,if_pos c]
     exact a2
    ·refine k6 H3 (zW ks k) (putD ks ds k d) (putD ks xs k y) (jA Bs nil) Zj (Kc k3') ?_ λb z=>z.elim .inl False.elim
     unfold putD
     rw[if_neg c,if_neg c]
     exact gJ.mpr ((gJ.mp ow3).snoc o λ_ _ z=>z)
   ·exact p.elim
  ·exact p.elim
 ·exact p.elim
theorem kI{pos':Pos}(h:XP K X a ta i π)(hx:XR K X b tb g)(he:XR K X e te f)(hp:PE X a ta→PE X b tb→PE X e te→PS X (.Assign [.Subscript a b pos'] e pos) (Rt ta tb te)):YS K X (.Assign [.Subscript a b pos'] e pos) (Rt ta tb te) (dX i π g f):=⟨hp h.pe hx.pe he.pe,(RL h.ev hx.ev he.ev).ds⟩
end
end L2


namespace L2
open PySem PySem.Spec PyProof.Rows
def aCX(K:aA)(B:Hp)(R:Fp)(env:EN)(σ:St)(H:Hp):Prop:=∃A,gZ (jX K H (out H (jA A R))) env A σ∧Apart A R∧aN B (out H (jA A R))
section
variable{K:aA}{B H H':Hp}{env:EN}{σ:St}{R R' A1:Fp}
end
section
variable{K:aA}{X:Cx}{e a b c:Expr}{es:List Expr}{t ta tb te:TE}{f g:FE}{tA:TA}{fs:FA}{pos:Pos}{i j:Nat}{π:FP}{st:Stmt}
inductive pq(K:aA)(H:Hp):V→Value→Prop where
 | bl (x:Bool):pq K H (.bl x) (.type "bool")
 | int (i:Int):pq K H (.int i) (.type "int")
 | lst {a:Addr} {xs:List V} (e:lH K H a xs):pq K H (.ref a) (.type "list")
 | tup {a:Addr} {xs:List V} (e:mO K H a xs):pq K H (.ref a) (.type "tuple")
theorem Hh:gW X (.builtin "isinstance") (λxs H Q=>∃x T t b,xs=[x,.ty T]∧pq X.K H x t∧F9 X.K t (.type T)=some b∧Q (.bl b) H):=by
 intro pins s σ H xs us Q I r h
 obtain⟨x,T,t,b,rfl,ty,hk,q⟩:=h
 obtain⟨u,w',rfl,rx,rt⟩:=vals2 r
 cases rt
 cases ty with
 | bl y=>exact Dm I rx (.bl y) hk λtk=>⟨.bl b,H,I.tok _,rfl,q⟩
 | int i=>exact Dm I rx (.int i) hk λtk=>⟨.bl b,H,I.tok _,rfl,q⟩
 | @lst a xs e=>
  cases(show u=Value.ref a from rx)
  obtain⟨its,_,pl,_⟩:=I.list e
  obtain⟨o,n,h1,h2,_⟩:=pl
  exact G3 S6 I.Di ⟨o,h1,h2⟩ hk (λz=>nomatch z) λtk=>⟨.bl b,H,I.tok _,rfl,q⟩
 | @tup a xs e=>
  cases(show u=Value.ref a from rx)
  obtain⟨its,_,pl,_⟩:=I.tuple e
  obtain⟨o,h1,h2,_⟩:=pl
  exact G3 X2 I.Di ⟨o,h1,h2⟩ hk (λz=>nomatch z) λtk=>⟨.bl b,H,I.tok _,rfl,q⟩
def Kr(T:String)(d:D):Option D:=match d with
 | .int _=>if T = "int" then some (.bl true)else if T = "bool" then some (.bl false)else none
 | .bl _=>if T = "bool" then some (.bl true)else none
 | .lst _=>if T = "list" then some (.bl true)else none
 | .tup _=>if T = "tuple" then some (.bl true)else none
 | _=>none
def Oq(T:String)(f:FE):FE:=λe=>(f e).bind (Kr T)
def aAq(K:aA):List V→Hp→VK→Prop:=λxs H Q=>∃x T t b,xs=[x,.ty T]∧pq K H x t∧F9 K t (.type T)=some b∧Q (.bl b) H
theorem qd{H:Hp}{T:String}{d r:D}{v:V}(h:Kr T d=some r)(rv:Rv K H d v):∃t b,pq K H v t∧F9 K t (.type T)=some b∧r=.bl b:=by
 cases d with
 | int i=>
  unfold Kr at h
  dsimp only at h
  unfold Rv at rv
  subst rv
  split at h
  ·rename_i c;cases h;subst c;exact⟨_,_,.int i,Jw,rfl⟩
  ·split at h
   ·rename_i c;cases h;subst c;exact⟨_,_,.int i,Gk,rfl⟩
   ·cases h
 | bl b=>
  unfold Kr at h
  dsimp only at h
  unfold Rv at rv
  subst rv
  split at h
  ·rename_i c;cases h;subst c;exact⟨_,_,.bl b,Cp,rfl⟩
  ·cases h
 | lst ds=>
  unfold Kr at h
  dsimp only at h
  unfold Rv at rv
  obtain⟨a,xs,rfl,r2,_⟩:=rv
  split at h
  ·rename_i c;cases h;subst c;exact⟨_,_,.lst r2,Cq,rfl⟩
  ·cases h
 | tup ds=>
  unfold Kr at h
  dsimp only at h
  unfold Rv at rv
  obtain⟨a,xs,rfl,r2,_⟩:=rv
  split at h
  ·rename_i c;cases h;subst c;exact⟨_,_,.tup r2,xW,rfl⟩
  ·cases h
 | _=>unfold Kr at h;cases h
theorem qe(hk:X.K=K):gW X (.builtin "isinstance") (aAq K):=by subst hk;exact Hh
theorem Ot{T:String}{p:Pos}{eT:Expr}(h:XR K X e t f)(hT:PE X eT (tC (.ty T)))(hg:Gl X "isinstance") (hm:X.mg "isinstance" = none) (hst:starEach (e::[eT]) X.env=(false,eval e X.env)::starEach [eT] X.env:=by rfl) (hst2:starEach [eT] X.env=(false,eval eT X.env)::starEach [] X.env:=by rfl)
  (hpl:(backTo pos (starEach [eT] X.env)).any (·.1)=false:=by rfl):XN K X (.Call (.Name "isinstance" p) [e,eT] [] pos) (vy (aAq K) (mR t (mR (tC (.ty T)) vO))) (Oq T f):=
 ⟨h.hk,Jl (qe h.hk) hg hm PyProof.Rows.boot_isinstance (eQ h.pe (eQ hT iZ hst2) hst) (by decide) (by decide) hst hpl,λσ H e d Q re q k=>by
  unfold Oq at q
  obtain⟨d0,q1,q2⟩:=aV q
  refine h.ev σ H H e d0 _ (Zn.self K H) re q1 λv H1 Z1 s1 t1 z1 rv=>?_
  obtain⟨ty,b,b1,b2,rfl⟩:=qd q2 (z1.sm.rv _ _ rv)
  exact⟨v,T,ty,b,rfl,b1,b2,k _ H1 s1 (.fU rfl (by unfold Rv;rfl))⟩⟩
structure uP(mg:Str→Option Value)(x:Str)(i:Int):Prop where
 ex:∃t,mg x=some (.int i t)
structure aCj(K:aA)(mg:Str→Option Value)(x:Str)(ns:List Int):Prop where
 ex:∃a,mg x=some (.ref a)∧∀H:Hp,mO K H a (ns.map V.int)
theorem Eg{x:Str}{i:Int}(G:uP X.mg x i)(hg:Gl X x)(hd:(x==("__debug__" : Str))=false:=by decide) (hk:X.K=K:=by rfl):XN K X (.Name x pos) (tC (.int i)) (fC (.int i)):=by
 obtain⟨t,h⟩:=G.ex
 exact⟨hk,LK hg h ⟨t,rfl⟩ hd,Yt i⟩
def dTup(ns:List Int):D:=.tup (ns.map D.int)
end
def fJ(n m:Nat)(g:GS):List D→Option D:=λds=>if ds.length=m then(match g (ds.map SD.fro++E8 (n-m) SD.no)with
  | .ret d=>some d
  | .next _=>some .non
  | _=>none)else none
theorem Ks{K:aA}{H Z:Hp}{k:Nat}:∀{ds:List D} {vs:List V},bW K Z ds vs→gZ (jX K H Z) (ds.map SD.fro++E8 k SD.no) nil (vs.map some++E8 k none)
 | [],vs,h=>by
  unfold bW at h
  subst h
  simp only[G5,P6]
  induction k with
  | zero=>exact⟨λ_ z=>z,rfl⟩
  | succ k ih=>
   rw[W3,W3]
   exact⟨none,_,nil,nil,rfl,λ_ z=>z.elim,λx=>⟨.inl,λz=>z.elim id id⟩,λ_ z=>z,ih⟩
 | d::ds,vs,h=>by
  unfold bW at h
  obtain⟨y,ys,rfl,h1,h2⟩:=h
  rw[D4,D4,K7,K7]
  exact⟨some y,_,nil,nil,rfl,λ_ z=>z.elim,λx=>⟨.inl,λz=>z.elim id id⟩,⟨λ_ z=>z,y,rfl,h1⟩,Ks h2⟩
theorem wF{K:aA}{H:Hp}{k:Nat}{ds:List D}{vs:List V}(h:bW K H ds vs):Rel K H (ds.map SD.fro++E8 k SD.no) (vs.map some++E8 k none) H:=by
 have g:aN H (out H nil):=λx u e=>bK.mpr ⟨λz=>z,e⟩
 exact⟨nil,Ks (g.Vp _ _ h),g⟩
theorem Raw.lW{P:Program}{w:World}{K:aA}{mg:Str→Option Value}{base:Heap}{x:Str}{st:Stmt}{N ps:List Str}{k:Nat}{g:GS}(R:Raw K mg x st)(S:aZ N ps (aJ st))
  (hb:∀(kV doc pm:Value)(an:Option Addr)(cdv ct:Value)(us:List Value),us.length=ps.length→bindArgs (G4 x x (eU st) (cA st) (aJ st) .none kV doc pm an cdv ct) ⟨us,[]⟩=pure (ps.zip us))
  (hbody:∀(f:Addr)(cdv:Value)(A:Around)(outer:List Env)(s:Shared)(H:Hp)(E:XK),jU k (A.deeper (envOfC x (aJ st) s.heap.objs.size f cdv)) →
   ∃t,YB K (yV Nu P w K mg base N x (aJ st) f cdv A outer s H E).JZ (cA st) t g):iU P w K mg base x (k+1) ps.length (iW K ps.length (fJ N.length ps.length g)):=by
 refine R.cal S (λvs H Q E h=>?_) hb (λf cdv A outer s H vs Q E hr h=>?_)
 ·obtain⟨ds,d,h1,h2,_⟩:=h
  rw[h2.length];exact h1
 obtain⟨ds,d,h1,h2,h3,kk⟩:=h
 obtain⟨t,yb⟩:=hbody f cdv A outer s H E hr
 refine⟨t,yb.ps,yb.ev H _ _ H (ds.map SD.fro++E8 (N.length-ps.length) SD.no) ?_ ?_⟩
 ·have hl:vs.length=ps.length:=by rw[h2.length];exact h1
  have:=wF (k:=N.length-ps.length) h2
  unfold start
  rw[hl]
  exact this
 ·unfold fJ at h3
  rw[if_pos h1]at h3
  cases q:g (ds.map SD.fro++E8 (N.length-ps.length) SD.no)with
  | ret d'=>
   rw[q]at h3
   cases h3
   refine λv H' A' s' o=>kk v H' (s'.trans (gA _ _)) ⟨A',o,λa qa=>?_⟩
   cases e:H a with
   | none=>rfl
   | some u=>exact absurd qa (bK.mp (s' a u e)).1
  | next env'=>
   rw[q]at h3
   cases h3
   refine λσ' H' ⟨A',_,s'⟩=>kk .non H' (s'.trans (gA _ _)) (.fU rfl (by unfold Rv;rfl))
  | brk env'=>rw[q]at h3;cases h3
  | cont env'=>rw[q]at h3;cases h3
  | bad=>rw[q]at h3;cases h3
  | rete d e=>rw[q]at h3;cases h3
end L2


namespace L2
open PySem PySem.Spec PyProof.Rows
section
variable{K:aA}{X:Cx}{e a b c:Expr}{es:List Expr}{t ta tb te:TE}{f g:FE}{tA:TA}{fs:FA}{pos:Pos}{i j:Nat}{π:FP}{st:Stmt}{gb:GS}{tc:TT}{fc:FT}
def Ou(f:FE):FE:=λe=>(f e).bind λd=>match d with | .int i=>some (.int (-i)) | _=>none
theorem Su(ha:XR K X a ta f):XN K X (.UnaryOp .USub a pos) (du (rU λi=>.int (-i)) ta) (Ou f):=mq ha
theorem yN{tg elt iter:Expr}{ifs:List Expr}{scope:Scope}{spos py:Pos}{y:Str}{wi:TI}{fi:FA}{fe:FE}(N:List Str)(fr:List Nat)(hcalm:X.calm=true)(B:fO X.env.scope scope X.N N 1 fr)(hN:X.N.Nodup)(hy:X.N[i]?=some y)(hx:Loc X.env.scope y)(hi:XI K X tg iter wi fi)
  (hg:∀cl fp s H C,PG (eG X scope N cl fp s H C) tg (dI 0)) (hc:∀cl fp s H C,XTs K (eG X scope N cl fp s H C) ifs tc fc) (he:∀cl fp s H C,XN K (eG X scope N cl fp s H C) elt te fe)
  (hsw:swapsWith (.ListComp elt [⟨tg,iter,ifs,0⟩] scope pos) (some (.Name y py)) spos.line X.env=pure true:=by rfl)
  (hs:∀x,foldedSetIterable iter X.env x=pure x:=by intro _;rfl) (hf:X.fn y=true∨X.env.scope.names.lookup y=some .local:=by first | exact .inl rfl | exact .inr rfl | assumption) :
  YS K X (.Assign [.Name y py] (.ListComp elt [⟨tg,iter,ifs,0⟩] scope pos) spos) (Fq (Jr wi 1 fr (dI 0) tc te) (dI i)) (bJ i (dF fi fr fc fe)):=
 ⟨QM N 1 fr hcalm B hN hy hx hi.pi hg (λcl fp s H C=>(hc cl fp s H C).pts) (λcl fp s H C=>(he cl fp s H C).pe) hsw hs hf,Zo (Ss hi.ev (hc [] [] X.s₀ X.H₀ 0).ev (he [] [] X.s₀ X.H₀ 0).ev)⟩
def EvJ(K:aA)(wi:TI)(fi:FA):Prop:=∀(σ:St)(H:Hp)(e:DE)(ds:List D)(R:It→Hp→Prop),sX K H e σ→fi e=some ds →
 (∀J H' P vs,aN H H'→jl J P vs→(∀H2,P H2)→(∀Z,bW K Z ds vs)→R J H')→wi σ H R
structure XJ(K:aA)(X:Cx)(tg iter:Expr)(wi:TI)(fi:FA):Prop where
 pi:PI X tg iter wi
 ev:EvJ K wi fi
theorem kY{tg:Expr}{p:Pos}(hg:Gl X "range") (hm:X.mg "range" = none) (ha:XA K X [a] tA fs) (hs:starEach [a] X.env=[(false,eval a X.env)]:=by rfl):XJ K X tg (.Call (.Name "range" p) [a] [] pos) (Xw tA) (jL fs):=⟨Dl hg hm ha.pa hs,λσ H e ds R re q k=>by
 unfold jL at q
 obtain⟨es,q1,q2⟩:=aV q
 split at q2
 ·rename_i n
  split at q2
  ·rename_i hl
   cases q2
   have hl:=wC hl
   refine ha.ev σ H H e _ _ (Zn.self K H) re q1 λvs H1 Z1 s1 t1 z1 rs=>?_
   obtain⟨v,rfl,r⟩:=lU rs
   unfold Rv at r
   subst r
   exact⟨n,rfl,by omega,by omega,k _ H1 _ _ s1 vQ (λ_=>True.intro) λZ=>wB 0 n.toNat⟩
  ·cases q2
 ·cases q2⟩
theorem Vt{tg:Expr}{p:Pos}(hp:PA X [a,b] tA→PI X tg (.Call (.Name "range" p) [a,b] [] pos) (Xx tA)) (ha:XA K X [a,b] tA fs):XJ K X tg (.Call (.Name "range" p) [a,b] [] pos) (Xx tA) (Ed fs):=⟨hp ha.pa,λσ H e ds R re q k=>by
 unfold Ed at q
 obtain⟨es,q1,q2⟩:=aV q
 split at q2
 ·rename_i i j
  split at q2
  ·rename_i hl
   cases q2
   have hl1:=wC hl.1
   have hl2:=wC hl.2
   refine ha.ev σ H H e _ _ (Zn.self K H) re q1 λvs H1 Z1 s1 t1 z1 rs=>?_
   obtain⟨v,w,rfl,r,r'⟩:=Ol rs
   unfold Rv at r r'
   subst r r'
   exact⟨i,j,rfl,⟨by omega,by omega,by omega,by omega⟩,k _ H1 _ _ s1 vQ (λ_=>True.intro) λZ=>wB i (j-i).toNat⟩
  ·cases q2
 ·cases q2⟩
def jM(i:Nat)(fi:FA)(g:GS):GS:=λenv=>match fi (rE env)with
 | some xs=>qC i g xs env
 | none=>.bad
theorem RM{wi:TI}{fi:FA}{tb:TS}(hi:EvJ K wi fi)(h:DS K tb gb):DS K (Nj wi (dI i) tb) (jM i fi gb):=λB E σ H env r p=>by
 unfold jM at p
 split at p
 ·rename_i xs q
  refine hi σ H (rE env) xs _ r.r q λJ H1 P vs s hJ hP rvs=>?_
  have hl:=(rvs H).length
  refine Gh hJ (λk σ2 H2=>∃gC,Rel K B gC σ2 H2∧Ac K B E (qC i gb (xs.drop k) gC)) ⟨env,r.same s,by simpa using p⟩ (λk σ2 H2 _ _=>hP H2) ?_ ?_
  ·rintro k x σ2 H2 hx ⟨gC,r2,p2⟩
   have hk:k<xs.length:=by
    obtain⟨h1,_⟩:=B8.mp hx
    omega
   rw[N4 hk]at p2
   unfold qC at p2
   split at p2
   ·rename_i hlen
    obtain⟨A2,a2,b2⟩:=r2
    obtain⟨x',hx',rx⟩:=(rvs (out H2 A2)).get (B0 hk)
    rw[hx]at hx'
    cases hx'
    have r3:Rel K B (gC.set i (.fro xs[k])) (σ2.set i (some x)) H2:=Hf a2 b2 hlen (aN.refl _) (aN.refl _) (Gz a2) rx
    refine h B _ _ H2 _ r3 ?_
    split at p2
    ·rename_i env' q2;rw[q2];exact λσ' H' r'=>⟨env',r',p2⟩
    ·rename_i env' q2;rw[q2];exact λσ' H' r'=>⟨env',r',p2⟩
    ·rename_i env' q2;rw[q2];exact p2
    ·rename_i n1 n2 n3
     cases q2:gb (gC.set i (.fro xs[k]))with
     | next e=>exact absurd q2 (n1 e)
     | cont e=>exact absurd q2 (n2 e)
     | brk e=>exact absurd q2 (n3 e)
     | ret d=>rw[q2]at p2;exact p2
     | bad=>rw[q2]at p2;exact p2
     | rete d e=>rw[q2]at p2;exact p2
   ·exact p2.elim
  ·rintro σ2 H2 ⟨gC,r2,p2⟩
   rw[hl,T6]at p2
   exact p2 σ2 H2 r2
 ·exact p.elim
theorem mX{tg iter:Expr}{body:List Stmt}{wi:TI}{fi:FA}{tb:TS}(hp:PassesOwn (model X.prog X.w) X.A X.env X.xe)(Zr:X.calm=true)(hi:XJ K X tg iter wi fi)(hg:PG X tg (dI i))(hb:YB K X body tb gb)
  (hs:∀x,foldedSetIterable iter X.env x=pure x:=by intro _;rfl):YS K X (.For tg iter body [] pos) (Nj wi (dI i) tb) (jM i fi gb):=⟨Nk hp Zr hi.pi hg hb.ps hs,RM hi.ev hb.ev⟩
end
theorem Ov{K:aA}{st:Stmt}{f:Addr}{fd:FuncData}(F:Xm K "law" "law" st f fd) (hb:∀(kV doc pm:Value)(an:Option Addr)(cdv ct:Value)(u:Value),bindArgs (G4 "law" "law" (eU st) (cA st) (aJ st) .none kV doc pm an cdv ct) ⟨[u],[]⟩=pure [(("script" : Str),u)]):∀(s:Shared)(u:Value),BindsTo s fd ⟨[u],[]⟩ [("script", u)]:=by
 obtain⟨oc,od,kV,doc,pm,an,cdv,ct,osl,rfl,lk,hcd⟩:=F.ex
 exact λs u=>.of_eq (hb kV doc pm an cdv ct u)
theorem Ku{K:aA}{h:Heap}{mg:Str→Option Value}{x:Str}{i:Int}{t:Tok}(X:K.In h)(G:h.Ns mainGlobals mg)(a:X3 K mainGlobals x=some (some (.int i t))):uP mg x i:=⟨t,d7 X G a⟩
end L2


namespace L2
open PySem PySem.Spec PyProof.Rows
section
variable{K:aA}{X:Cx}{e a b c:Expr}{es:List Expr}{t ta tb te:TE}{f g:FE}{tA:TA}{fs:FA}{pos:Pos}{i j:Nat}{π:FP}{st:Stmt}
def Ae(ns:List Int)(m:Int):Prop:=m∈ns∧∀a∈ns,a≤m
theorem wG(ns:List Int):∀k,k<ns.length→argBest (λi j=>decide (ns.getD i 0 > ns.getD j 0)) k≤k∧∀i,i≤k→ns.getD i 0≤ns.getD (argBest (λi j=>decide (ns.getD i 0 > ns.getD j 0)) k) 0
 | 0,_=>⟨B4 _,λi hi=>by
  have z:i=0:=by omega
  subst z
  exact P1 _⟩
 | k+1,h=>by
  obtain⟨h1,h2⟩:=wG ns k (by omega)
  unfold argBest
  split
  ·rename_i q
   have q':=of_decide_eq_true q
   refine⟨B4 _,λi hi=>?_⟩
   rcases E3 i (k+1)with z | z
   ·have:=h2 i (by omega)
    omega
   ·have z':i=k+1:=by omega
    subst z'
    exact P1 _
  ·rename_i q
   have q':=of_decide_eq_false (Bool.eq_false_iff.mpr q)
   refine⟨by omega,λi hi=>?_⟩
   rcases E3 i (k+1)with z | z
   ·exact h2 i (by omega)
   ·have z':i=k+1:=by omega
    subst z'
    omega
theorem Vu(hc:X.calm=true):gW X (.builtin "max") (λxs H Q=>∃(p:Addr)(ns:List Int),xs=[.ref p]∧lH X.K H p (ns.map V.int)∧0<ns.length∧∀m,Ae ns m→Q (.int m) H):=by
 intro pins s σ H xs us Q I r h
 obtain⟨p,ns,rfl,hq,hpos,q⟩:=h
 obtain⟨u,rfl,rx⟩:=vals1 r
 cases rx
 obtain⟨its,rv,pl,hz⟩:=I.list hq
 have hL:=pl.isList
 have hn:=rv.length
 rw[B5]at hn
 have hlt:p<s.heap.objs.size:=by obtain⟨_,e,_⟩:=hL;exact Heap.lt_size e
 have at_:∀(i:Nat)(v:Value),its.toArray[i]?=some v→∃t,v=.int (ns.getD i 0) t∧i<ns.length:=λi v e=>by
  have e':its[i]?=some v:=by simpa using e
  have hi:=(B8.mp e').1
  obtain⟨u,eu,ru⟩:=rv.get (i:=i) (x:=.int (ns.getD i 0)) (by rw[C8,B3,B0 (show i<ns.length by omega)];rfl)
  rw[e']at eu
  cases eu
  obtain⟨t,rfl⟩:=ru
  exact⟨t,rfl,by omega⟩
 refine call_max_walk (wpAny_pyIter_list hL ?_)
 refine⟨s.heap.objs.size,[s.heap.objs.size,p],[s.heap.objs.size],its.toArray.size,_,_,λi j=>decide (ns.getD i 0 > ns.getD j 0),rfl,Walks.list (A:=X.A.in1) (I.ok.hd hc) _ p (C9 hlt) _,
  ⟨⟨_,Heap.get?_push_size _ rfl,rfl,rfl⟩,hL.push _⟩,λb hb=>?_,by rw[B6];omega,λi j vi vj s' Q' E' hi hj hQ=>?_,λv h' tk hP hk=>?_⟩
 ·show b<(s.heap.push _).objs.size
  rw[Heap.size_push]
  rcases C4.mp hb with e | hb
  ·rw[e];exact M6 _
  ·rw[C6.mp hb];exact F8 hlt
 ·obtain⟨t1,rfl,_⟩:=at_ i vi hi
  obtain⟨t2,rfl,_⟩:=at_ j vj hj
  exact(W6 (by exact hQ):wpAny (model X.prog X.w) X.A.in1 (compareOp .Gt (.int _ t1) (.int _ t2)) Q' E' s')
 ·obtain⟨t,rfl,hi⟩:=at_ _ v hP
  rw[B6,←hn]at hi ⊢
  obtain⟨h1,h2⟩:=wG ns (ns.length-1) (by omega)
  refine⟨.int _,H,I.kept (Gi hk),⟨t,rfl⟩,q _ ⟨?_,λa ha=>?_⟩⟩
  ·rw[B3,B0 hi]
   exact O9 _
  ·obtain⟨i,hi',rfl⟩:=M5 ha
   have z:=h2 i (by omega)
   rw[show ns.getD i 0=ns[i]from by rw[B3,B0 hi'];rfl]at z
   exact z
def wH:List Int→Int
 | []=>0
 | [a]=>a
 | a::b::l=>let m:=wH (b::l);if a<m then m else a
theorem gP:∀{ns:List Int},0<ns.length→Ae ns (wH ns)
 | [],h=>absurd h (by simp)
 | [a],_=>⟨C6.mpr rfl,λb hb=>by rw[C6.mp hb];exact P1 _⟩
 | a::b::l,_=>by
  obtain⟨h1,h2⟩:=gP (ns:=b::l) (by simp)
  unfold wH
  dsimp only
  split
  ·rename_i c
   refine⟨B7 _ h1,λx hx=>?_⟩
   rcases C4.mp hx with q | q
   ·omega
   ·exact h2 x q
  ·rename_i c
   refine⟨B9,λx hx=>?_⟩
   rcases C4.mp hx with q | q
   ·omega
   ·have:=h2 x q;omega
theorem Eh{ns:List Int}{m:Int}(h:Ae ns m):m=wH ns:=by
 obtain⟨h1,h2⟩:=gP (List.length_pos_of_mem h.1)
 have:=h.2 _ h1
 have:=h2 _ h.1
 omega
def Af:List D→Option D
 | [.lst ds]=>(intsOf ds).bind λns=>if 0<ns.length then some (.int (wH ns))else none
 | _=>none
def YQ(K:aA):List V→Hp→VK→Prop:=λxs H Q=>∃(p:Addr)(ns:List Int),xs=[.ref p]∧lH K H p (ns.map V.int)∧0<ns.length∧∀m,Ae ns m→Q (.int m) H
theorem Hi:pY K (YQ K) Af:=λvs H ds d Q rs q k=>by
 unfold Af at q
 split at q
 ·obtain⟨ns,q1,q2⟩:=aV q
  split at q2
  ·rename_i hl
   cases q2
   obtain⟨v,rfl,r⟩:=lU rs
   obtain⟨p,rfl,r2⟩:=uO q1 r
   refine⟨p,ns,rfl,r2,hl,λm hm=>?_⟩
   rw[Eh hm]
   exact k _ H (aN.refl _) (.fU rfl (by unfold Rv;rfl))
  ·cases q2
 ·cases q
theorem Ho(hk:X.K=K)(hc:X.calm=true:=by rfl):gW X (.builtin "max") (YQ K):=by subst hk;exact Vu hc
variable{lo hi:Option Expr}{tl th:TO}{fl fh:FO}{p2:Pos}
end
end L2


namespace L2
open PySem PySem.Spec PyProof.Rows
theorem bgo(xs:Array Nat)(j:Nat):∀(fuel lo hi:Nat),hi-lo≤fuel→lo≤hi→hi≤xs.size→xs.toList.Pairwise (·<·) →
  (∀i,i<lo→xs.getD i 0<j)→(∀i,hi≤i→i<xs.size→j≤xs.getD i 0) →
  SetTable.below.go xs j fuel lo hi≤xs.size∧(∀i,i<SetTable.below.go xs j fuel lo hi→xs.getD i 0<j)∧(∀i,SetTable.below.go xs j fuel lo hi≤i→i<xs.size→j≤xs.getD i 0)
 | 0,lo,hi,h1,h2,h3,up,h4,h5=>by
  unfold SetTable.below.go
  have e:lo=hi:=by omega
  subst e
  exact⟨h3,h4,h5⟩
 | fuel+1,lo,hi,h1,h2,h3,up,h4,h5=>by
  unfold SetTable.below.go
  have mono:∀a b,a<b→b<xs.size→xs.getD a 0<xs.getD b 0:=λa b q q'=>by
   have:=G1.mp up a b (by simp;omega) (by simpa using q') q
   simp only[R4]at this
   simpa[N5,q',show a<xs.size by omega]using this
  split
  ·rename_i c
   have hm:(lo+hi)/2<xs.size:=by omega
   have e:xs.getD ((lo+hi)/2) j=xs.getD ((lo+hi)/2) 0:=by simp[N5,hm]
   dsimp only
   rw[e]
   by_cases c2:xs.getD ((lo+hi)/2) 0<j
   ·rw[if_pos c2]
    refine bgo xs j fuel ((lo+hi)/2+1) hi (by omega) (by omega) h3 up (λi hi'=>?_) h5
    rcases E3 i ((lo+hi)/2)with z | z
    ·have:=mono i _ z hm
     omega
    ·have z':i=(lo+hi)/2:=by omega
     subst z'
     exact c2
   ·rw[if_neg c2]
    refine bgo xs j fuel lo ((lo+hi)/2) (by omega) (by omega) (by omega) up h4 λi hi' hs=>?_
    rcases E3 ((lo+hi)/2) i with z | z
    ·have:=mono _ i z hs
     omega
    ·have z':i=(lo+hi)/2:=by omega
     subst z'
     omega
  ·have e:lo=hi:=by omega
   subst e
   exact⟨h3,h4,h5⟩
theorem below_at{xs:Array Nat}(up:xs.toList.Pairwise (·<·))(j:Nat) :
  SetTable.below xs j≤xs.size∧(∀i,i<SetTable.below xs j→xs.getD i 0<j)∧(∀i,SetTable.below xs j≤i→i<xs.size→j≤xs.getD i 0):=by
 unfold SetTable.below
 exact bgo xs j xs.size 0 xs.size (by omega) (G9 _) (B4 _) up (λi h=>absurd h (U6 _)) λi h h'=>by omega
def Led(b:Bool)(t:SetTable):Prop:=t.led=b∧(t.plain=true→t.place.toList.Pairwise (·<·)∧t.dummies=#[])
theorem Led.fresh(b:Bool):Led b (.fresh 0 0 b):=⟨rfl,λ_=>⟨by simp[SetTable.fresh],rfl⟩⟩
theorem Led.standIn{b:Bool}{t:SetTable}(h:Led b t)(n:Nat):Led b (t.standIn n):=⟨h.1,λq=>by simp[SetTable.standIn]at q⟩
theorem Led.off{b:Bool}{t:SetTable}(h:Led b t):Led b {t with plain:=false}:=⟨h.1,λq=>by simp at q⟩
theorem pgo{t:SetTable}(hd:t.dummies=#[]){g:Nat→Int}{h:Int}:∀(fuel:Nat)(p:SetTable.Probe)(j:Nat)(d:Option Nat),p.dummy=none→SetTable.probe.go t g h fuel p=some (.empty j d)→d=none∧t.slot j=.empty
 | 0,p,j,d,_,q=>by simp[SetTable.probe.go]at q
 | fuel+1,p,j,d,e,q=>by
  unfold SetTable.probe.go at q
  have adv:(t.advance p).dummy=none:=by
   unfold SetTable.advance
   split
   ·exact e
   ·exact e
  split at q
  ·rename_i c
   injection q with q
   injection q with q1 q2
   rw[←q1,←q2]
   exact⟨e,c⟩
  ·rename_i c
   exfalso
   unfold SetTable.slot at c
   dsimp only at c
   split at c
   ·cases c
   ·split at c
    ·rename_i z
     rw[hd]at z
     simp[SetTable.has]at z
    ·cases c
  ·split at q
   ·cases q
   ·exact pgo hd fuel _ j d adv q
theorem Ei{t:SetTable}(hd:t.dummies=#[]){h:Int}{j:Nat}{w:Bool}(q:t.freeSlot h=some (j,w)):t.slot j=.empty∧w=false:=by
 unfold SetTable.freeSlot at q
 split at q
 ·rename_i j' d e
  obtain⟨rfl,e2⟩:=pgo hd _ _ _ _ (by rfl) e
  simp at q
  obtain⟨rfl,rfl⟩:=q
  exact⟨e2,rfl⟩
 ·cases q
theorem Zu{t:SetTable}(hd:t.dummies=#[])(up:t.place.toList.Pairwise (·<·)){j:Nat}(q:t.slot j=.empty):(t.put j).1.place.toList.Pairwise (·<·)∧(t.put j).1.dummies=#[]:=by
 obtain⟨b1,b2,b3⟩:=below_at up j
 refine⟨?_,?_⟩
 ·show (SetTable.insertAt t.place (SetTable.below t.place j) j).toList.Pairwise (·<·)
  rw[SetTable.toList_insertAt]
  have ne:t.place[SetTable.below t.place j]?≠some j:=λz=>by
   unfold SetTable.slot at q
   dsimp only at q
   rw[z]at q
   simp at q
  have lo:∀x∈t.place.toList.take (SetTable.below t.place j),x<j:=λx hx=>by
   obtain⟨i,hi,rfl⟩:=M5 hx
   rw[J1]at hi
   have hs:i<t.place.size:=by simp at hi;omega
   have:=b2 i (by omega)
   simpa[N5,hs]using this
  have hi:∀x∈t.place.toList.drop (SetTable.below t.place j),j<x:=λx hx=>by
   obtain⟨i,hi,rfl⟩:=M5 hx
   rw[N8,F1]at hi
   have hs:SetTable.below t.place j+i<t.place.size:=by omega
   have h1:=b3 (SetTable.below t.place j+i) (by omega) hs
   have e:(t.place.toList.drop (SetTable.below t.place j))[i]=t.place.getD (SetTable.below t.place j+i) 0:=by simp[N5,hs]
   rw[e]
   rcases X5 i with z | z
   ·subst z
    rcases E3 j (t.place.getD (SetTable.below t.place j+0) 0)with y | y
    ·exact y
    ·refine absurd ?_ ne
     have e2:t.place.getD (SetTable.below t.place j) 0=j:=by simp only[Nat.add_zero]at y h1;omega
     rw[K1 (by omega)]
     simpa[N5,show SetTable.below t.place j<t.place.size by omega]using e2
   ·have h0:=b3 (SetTable.below t.place j) (B4 _) (by omega)
    have:=G1.mp up (SetTable.below t.place j) (SetTable.below t.place j+i) (by simp;omega) (by simpa using hs) (by omega)
    simp only[R4]at this
    have e3:t.place.getD (SetTable.below t.place j) 0<t.place.getD (SetTable.below t.place j+i) 0:=by simpa[N5,hs,show SetTable.below t.place j<t.place.size by omega]using this
    omega
  refine R5.mpr ⟨up.sublist (Y3 _ _),E6.mpr ⟨hi,up.sublist (List.drop_sublist _ _)⟩,λx hx y hy=>?_⟩
  have h1:=lo x hx
  rcases C4.mp hy with z | z
  ·omega
  ·have:=hi y z
   omega
 ·show (if SetTable.has t.dummies j then _ else t.dummies)=#[]
  rw[hd]
  simp[SetTable.has]
theorem Led.lay{b:Bool}{t:SetTable}(h:Led b t)(es:Array (Int×Value))(k:Int)(x:Value):Led b (layNew t es k x).2.1:=by
 unfold layNew
 split
 ·rename_i j w e
  dsimp only
  unfold SetTable.orStandIn
  split
  ·refine⟨h.1,λq=>?_⟩
   obtain⟨u,d⟩:=h.2 q
   exact Zu d u (Ei d e).1
  ·exact Led.standIn (t:=(t.put j).1) ⟨h.1,λq=>by
    obtain⟨u,d⟩:=h.2 q
    exact Zu d u (Ei d e).1⟩ _
 ·exact h.standIn _
theorem YT{β:Type}(f:Nat→Option β):∀l:List Nat,l.Pairwise (·<·)→((l.filterMap λj=>(f j).map λy=>(j,y)).map (·.1)).Pairwise (·<·)∧∀x∈((l.filterMap λj=>(f j).map λy=>(j,y)).map (·.1)),x∈l
 | [],_=>⟨.nil,λx h=>by simp at h⟩
 | a::l,h=>by
  obtain⟨h1,h2⟩:=E6.mp h
  obtain⟨i1,i2⟩:=YT f l h2
  rw[P2]
  cases e:f a with
  | none=>exact⟨i1,λx hx=>B7 _ (i2 x hx)⟩
  | some y=>
   refine⟨E6.mpr ⟨λx hx=>h1 x (i2 x hx),i1⟩,λx hx=>?_⟩
   rcases C4.mp hx with z | z
   ·exact z▸B9
   ·exact B7 _ (i2 x z)
theorem Led.aAr{b:Bool}{t:SetTable}(h:Led b t)(es:Array (Int×Value))(n:Nat):Led b (relayAll t es n).2.1:=by
 unfold relayAll
 split
 ·rename_i t' order e
  dsimp only
  split
  ·dsimp only
   unfold SetTable.relaid SetTable.laid at e
   obtain⟨ow,e1,e2⟩:=aV e
   injection e2 with e2
   injection e2 with e3 e4
   rw[←e3]
   exact⟨h.1,λ_=>⟨by simpa using (YT (λj=>ow.getD j none) _ List.pairwise_lt_range).1,rfl⟩⟩
  ·exact h.standIn _
 ·exact h.standIn _
theorem tU{α:Type}:∀(l:List α)(i:Nat)(h:i<l.length),(l[i]::l.eraseIdx i).Perm l
 | [],i,h=>absurd h (by simp)
 | a::l,0,h=>Q4 _
 | a::l,i+1,h=>by
  have:=tU l i (by simpa using h)
  simp only[List.getElem_cons_succ,T9]
  exact(List.Perm.swap a _ _).trans (this.cons a)
theorem Sv{α:Type}(next:Nat→Nat):∀(n:Nat)(left:List α)(k:Nat)(out:Array α),left.length=n→((pickOrder.go next n k left out).toList).Perm (out.toList++left)
 | 0,left,k,out,hn=>by
  have:left=[]:=K4 hn
  subst this
  simp[pickOrder.go]
 | n+1,left,k,out,hn=>by
  unfold pickOrder.go
  have hl:next k%left.length<left.length:=Nat.mod_lt _ (by omega)
  rw[B0 hl]
  dsimp only
  refine(Sv next n (left.eraseIdx (next k%left.length)) (k+1) _ (by rw[R9 hl];omega)).trans ?_
  rw[Y4,List.append_assoc]
  exact List.Perm.append_left _ (tU _ _ hl)
theorem Vv{α:Type}(next:Nat→Nat)(xs:Array α):(pickOrder next xs).toList.Perm xs.toList:=by
 have:=Sv next xs.size xs.toList 0 #[] (by simp)
 simpa[pickOrder]using this
end L2


namespace L2
open PySem PySem.Spec PyProof.Rows
section
variable{prog:Program}{w:World}{A:Around}{E:Value→Shared→Prop}{s:Shared}{b:Bool}
def tV(prog:Program)(w:World)(b:Bool)(h:Heap)(a:Addr)(S:Int→Bool)(n:Nat):Prop:=
 ∃o es ep t,h.get? a=some o∧o.ExactSet∧o.data=.set es ep t∧ElemsOf (intKind prog w) es.toList∧(∀k,S k=true↔∃e∈es.toList,(intKind prog w).is k e.2=true)∧es.size<scanBound∧t.fits es.size=true∧es.size=n∧Led b t
theorem tV.at_{h h':Heap}{a:Addr}{S:Int→Bool}{n:Nat}(x:tV prog w b h a S n)(e:∀o,h.get? a=some o→h'.get? a=some o):tV prog w b h' a S n:=
 let ⟨o,es,ep,t,ho,r⟩:=x;⟨o,es,ep,t,e o ho,r⟩
theorem tV.to{h:Heap}{a:Addr}{S S':Int→Bool}{n n':Nat}(x:tV prog w b h a S n)(e:∀k,S k=S' k)(en:n=n'):tV prog w b h a S' n':=by
 subst en
 have:S=S':=funext e
 rw[←this]
 exact x
theorem YW{h:Heap}{a:Addr}{o:Obj}{es es':Array (Int×Value)}{ep:Nat}{t t':SetTable}{S':Int→Bool}(ho:h.get? a=some o)(hex:o.ExactSet)(hd:o.data=.set es ep t)(hel:ElemsOf (intKind prog w) es'.toList)
  (hm:∀k,S' k=true↔∃e∈es'.toList,(intKind prog w).is k e.2=true) (hz:es'.size<scanBound) (hf:t'.fits es'.size=true) (hl:Led b t') :
  (h.update a (Obj.putSet es' t')).get? a=some {o with data:=.set es' (ep+1) t'}∧tV prog w b (h.update a (Obj.putSet es' t')) a S' es'.size:=
 have g:=(SetOf_store (knd:=intKind prog w) ho hex hd hel hm hz hf).1
 ⟨g,_,es',ep+1,t',g,hex,rfl,hel,hm,hz,hf,rfl,hl⟩
theorem Zv{g:Bool→Sem Unit}(hg:∀(c:Bool)(s₁:Shared)(Q':Unit→Shared→Prop),Q' () s₁→wpAny (model prog w) A (g c) Q' E s₁){a:Addr}{o:Obj}{es e1:Array (Int×Value)}{ep:Nat}{t t2:SetTable}{S':Int→Bool}
  (ho:s.heap.get? a=some o) (hex:o.ExactSet) (hd:o.data=.set es ep t) (hel:ElemsOf (intKind prog w) e1.toList) (hm:∀k,S' k=true↔∃e∈e1.toList,(intKind prog w).is k e.2=true) (hz:e1.size<scanBound) (hf:t2.fits e1.size=true) (hl:Led b t2)
  {wd:Bool} {R:Option Bool→Shared→Prop} (h:∀h',Heap.SameBut a s.heap h'→tV prog w b h' a S' e1.size→R (some true) {s with heap:=h'}) :
  wpAny (model prog w) A (do
    storeSet a e1 t2
    if(!wd&&t2.tooFull)=true then do
      g (relayAll t2 e1 (SetTable.grown e1.size)).2.2
      storeSet a (relayAll t2 e1 (SetTable.grown e1.size)).1 (relayAll t2 e1 (SetTable.grown e1.size)).2.1
      pure (some true)
     else pure (some true)) R E s:=by
 obtain⟨g1,s1⟩:=YW (prog:=prog) (w:=w) ho hex hd hel hm hz hf hl
 refine wpAny_bind (wpAny_storeSet_of ho hd ?_ (fits_of_scanBound hz))
 have sb:=Heap.SameBut.update s.heap a (Obj.putSet e1 t2)
 split
 ·have pm:=relayAll_perm t2 e1 (SetTable.grown e1.size)
  have ff:=relayAll_fits t2 e1 (SetTable.grown e1.size)
  have ll:=hl.aAr e1 (SetTable.grown e1.size)
  have sz:(relayAll t2 e1 (SetTable.grown e1.size)).1.size=e1.size:=by rw[←F1,pm.length_eq,F1]
  have zz:(relayAll t2 e1 (SetTable.grown e1.size)).1.size<scanBound:=by rw[sz];exact hz
  refine wpAny_bind (hg _ _ _ (wpAny_bind (wpAny_storeSet_of g1 rfl ?_ (fits_of_scanBound zz))))
  obtain⟨_,s2⟩:=YW (prog:=prog) (w:=w) (S':=S') g1 hex rfl (hel.perm pm) (λk=>(hm k).trans ⟨λ⟨e,he,q⟩=>⟨e,pm.mem_iff.mpr he,q⟩,λ⟨e,he,q⟩=>⟨e,pm.mem_iff.mp he,q⟩⟩) zz ff ll
  rw[sz]at s2
  exact wpAny_pure (h _ (sb.trans (Heap.SameBut.update _ a _)) s2)
 ·exact wpAny_pure (h _ sb s1)
theorem aAs{a:Addr}{S:Int→Bool}{n:Nat}{k:Int}{tk:Tok}{Q:Bool→Shared→Prop}(hS:tV prog w b s.heap a S n)(room:n+1<scanBound)
  (h:∀h',Heap.SameBut a s.heap h'→tV prog w b h' a (λj=>S j||decide (j=k)) (if S k then n else n+1)→Q (!S k) {s with heap:=h'}) :
  wpAny (model prog w) A (setAddHashed a (.int k tk) ((intKind prog w).hash k)) Q E s:=by
 obtain⟨o,es,ep,t,ho,hex,hd,hel,hm,hb,hf,hn,hl⟩:=hS
 have key:(intKind prog w).is k (.int k tk)=true:=intKind_is _ _ _ _
 have sc:(Value.int k tk).scannable=true:=rfl
 unfold setAddHashed setAddHashedIn
 refine wpAny_holding (wpAny_bind (wpAny_setState_of ho hd hf ?_))
 dsimp only
 rw[byScan_of sc hb hel]
 simp only[↓reduceIte]
 unfold setAddByScan
 refine wpAny_bind (wpAny_bind (wpAny_rule (wpAny_bind (wpAny_setScan_of key ho hd hf hel ?_))))
 cases hr:List.findIdx? (λe=>(intKind prog w).is k e.2) es.toList with
 | some j=>
  dsimp only
  obtain⟨hj,pj,_⟩:=List.findIdx?_eq_some_iff_getElem.mp hr
  have hk:S k=true:=(hm k).mpr ⟨es.toList[j],O9 hj,pj⟩
  have z:=h s.heap (Heap.SameBut.refl a s.heap) ⟨o,es,ep,t,ho,hex,hd,hel,λj=>by
   rw[P5,decide_eq_true_eq,←hm j]
   exact⟨λq=>q.elim id λe=>by rw[e];exact hk,.inl⟩,hb,hf,by rw[hk];exact hn,hl⟩
  rw[hk]at z
  exact wpAny_pure (wpAny_pure z)
 | none=>
  dsimp only
  have hk:S k=false:=by
   cases e:S k with
   | false=>rfl
   | true=>
    obtain⟨x,hx,px⟩:=(hm k).mp e
    have:=List.findIdx?_eq_none_iff.mp hr x hx
    rw[px]at this
    cases this
  have hgw:∀(c:Bool) {s₁:Shared} {Q':Unit→Shared→Prop},Q' () s₁→wpAny (model prog w) A (match c with | true=>rule "set.scan.the-table-gave-way" | false=>pure ()) Q' E s₁:=λc s₁ Q' q=>by
   cases c
   ·exact wpAny_pure q
   ·exact wpAny_rule q
  have pm:=layNew_perm t es ((intKind prog w).hash k) (.int k tk)
  have ff:=layNew_fits t es ((intKind prog w).hash k) (.int k tk)
  have ll:=hl.lay es ((intKind prog w).hash k) (.int k tk)
  generalize layNew t es ((intKind prog w).hash k) (.int k tk)=Y at pm ff ll ⊢
  obtain⟨e1,t1,wd,gave⟩:=Y
  dsimp only at pm ff ll ⊢
  rw[Y4]at pm
  have sz:e1.size=n+1:=by rw[←F1,pm.length_eq,C7,F1,hn];rfl
  have zz:e1.size<scanBound:=by omega
  have el1:=(hel.push key sc).perm pm
  have m1:=mem_push_iff (k:=k) key hm pm
  refine wpAny_bind (hgw _ ?_)
  have fin:∀h',Heap.SameBut a s.heap h'→tV prog w b h' a (λj=>S j||decide (j=k)) e1.size→Q true {s with heap:=h'}:=λh' q1 q2=>by
   have z:=h h' q1
   rw[hk]at z
   rw[sz]at q2
   exact z q2
  split
  ·rw[hashByValue_scannable 8 sc]
   refine wpAny_bind (wpAny_pure ?_)
   refine Zv (b:=b) (λc s₁ Q' q=>hgw c q) ho hex hd el1 m1 zz ?_ ?_ λh' q1 q2=>?_
   ·split
    ·exact ff
    ·exact SetTable.fits_plain_off ff
   ·split
    ·exact ll
    ·exact ll.off
   ·dsimp only
    exact wpAny_pure (fin h' q1 q2)
  ·refine wpAny_bind (wpAny_pure ?_)
   simp only[↓reduceIte]
   refine Zv (b:=b) (λc s₁ Q' q=>hgw c q) ho hex hd el1 m1 zz ff ll λh' q1 q2=>?_
   dsimp only
   exact wpAny_pure (fin h' q1 q2)
end
section
variable{prog:Program}{w:World}{A:Around}{R:Result→Shared→Prop}{I:Addr}{fp wr:List Addr}{G:Array GenState→Array GenState→Prop}{n:Nat}{P:Nat→Value→Prop}{St:Nat→Shared→Prop}{b:Bool}
abbrev Ox(prog:Program)(w:World)(b:Bool)(h:Heap)(a:Addr)(val:Nat→Int)(i:Nat):Prop:=tV prog w b h a (λk=>(firstMet val i).any (·==k)) (firstMet val i).length
theorem qg(W:WalksS prog w A.in1 I fp wr G n P St)(a:Addr)(hf:a∉fp)(val:Nat→Int)(hval:∀i v,P i v→∃t,v=.int (val i) t)(hz:n+1<scanBound) :
  ∀(m i:Nat)(s:Shared),n-i=m→i≤n→St i s→Ox prog w b s.heap a val i→(∀s',Moved (a::wr) G s s'→Ox prog w b s'.heap a val n→R (.ok (.ret .none)) s') →
   codeAny (model prog w) A (.builtin "set.update.loop" ⟨[.ref a,.ref I],[]⟩) R s:=by
 have hw:a∉wr:=λz=>hf (W.sub _ z)
 have sub:∀c∈wr,c∈a::wr:=λc hc=>B7 _ hc
 intro m
 induction m with
 | zero=>
  intro i s hk hi hst hS hR
  have e:i=n:=by omega
  subst e
  refine codeAny_builtin Q2 ?_
  rw[Around.under_plainId M9 _]
  show wpAny _ A.in1 (pyNext (.ref I) >>= _) _ _ s
  refine wpAny_bind (W.done s _ _ hst λs' mv=>?_)
  show wpAny _ A.in1 (ret Value.none) _ _ s'
  exact wpAny_pure (hR s' (mv.mono sub) (hS.at_ λo e=>mv.heap a o hw e))
 | succ m ih=>
  intro i s hk hi hst hS hR
  have lt:i<n:=by omega
  refine codeAny_builtin Q2 ?_
  rw[Around.under_plainId M9 _]
  show wpAny _ A.in1 (pyNext (.ref I) >>= _) _ _ s
  refine wpAny_bind (W.item i s _ _ lt hst λv s1 hP st1 mv=>?_)
  obtain⟨tk,rfl⟩:=hval i v hP
  have S1:Ox prog w b s1.heap a val i:=hS.at_ λo e=>mv.heap a o hw e
  show wpAny _ A.in1 (holding [Value.int (val i) tk] (setAdd a (.int (val i) tk)) >>= _) _ _ s1
  unfold setAdd
  refine wpAny_bind (wpAny_holding (wpAny_holding (wpAny_bind ((intKind prog w).pyHash (k:=val i) (intKind_is _ _ _ _) ?_))))
  have room:(firstMet val i).length+1<scanBound:=by have:=firstMet_length_le val i;omega
  refine aAs (s:={s1 with toks:=s1.toks+1}) S1 room λh' sb S2=>?_
  have S3:Ox prog w b h' a val (i+1):=S2.to (λj=>by rw[firstMet_succ,step_any]) (by rw[firstMet_succ,step_length])
  refine wpAny_pure ⟨plainId_quiet M9 _,ih (i+1) _ (by omega) lt (W.frame _ s1 _ _ st1 (M7 _) λc hc o e=>?_) S3 λs2 mv2 S4=>?_⟩
  ·rw[sb.2 c λz=>hf (by rw[←z];exact hc)]
   exact e
  ·refine hR s2 (Moved.trans W.gtrans ((mv.mono sub).then_heap (M7 _) λc o hc e=>?_) mv2) S4
   rw[sb.2 c λz=>hc (by rw[z];exact B9)]
   exact e
end
end L2


namespace L2
open PySem PySem.Spec PyProof.Rows
section
variable{prog:Program}{w:World}{A:Around}{E:Value→Shared→Prop}{s:Shared}
abbrev nP(b:Bool):Obj:={cls:=.type "set", dict:=none,data:=.set #[] 0 (.fresh 0 0 b)}
abbrev nQ(w:World):Bool:=!w.params.followText "set-order"
theorem aAt(a:Value){Q:Value→Shared→Prop}(h:Q (.ref s.heap.objs.size) {s with heap:=s.heap.push (nP (nQ w))}) :
  codeAny (model prog w) A (.call (.builtin "set.__new__") ⟨[.type "set", a],[]⟩) (wants Q E) s:=by
 refine codeAny_of_tree ?_
 show wpAny _ A.in1 (checkBuiltinCall "set.__new__" ⟨[.type "set", a],[]⟩ >>= λ_=>again (.builtin "set.__new__" ⟨[.type "set", a],[]⟩)) _ _ s
 refine wpAny_bind (wpAny_of_eq (PySem.F.newCall_set_1 a) (wpAny_pure ⟨plainId_quiet V5 _,codeAny_builtin PySem.F.entry_set_new ?_⟩))
 rw[Around.under_plainId V5 _]
 unfold Builtin.«set.__new__» Builtin.Frozenset.newClass
 have sub:=sub_set_self
 obtain⟨hp,g,d,tk,os⟩:=s
 dsimp only
 wp_walk
 refine wpAny_askSetting (wpAny_pure ?_)
 dsimp only
 simp only[newObj]
 exact wpAny_bind (wpAny_alloc (wpAny_pure (wpAny_pure h)))
theorem RN(b:Bool){h:Heap}{a:Addr}{val:Nat→Int}(e:h.get? a=some (nP b)):Ox prog w b h a val 0:=
 ⟨_,#[],0,_,e,⟨rfl,rfl,rfl⟩,rfl,λx hx=>by simp at hx,λk=>by simp[firstMet_zero],by decide,by rfl,rfl,Led.fresh b⟩
theorem aAu{l:Addr}{its:Array Value}{ns:List Int}{Q:Value→Shared→Prop}(hh:A.handled=none)(hl:s.heap.IsList l its)(hi:IntsAre its.toList ns)(hz:its.size+1<scanBound)
  (h:∀(h':Heap)(tk:Nat),Ox prog w (nQ w) h' s.heap.objs.size (λi=>ns.getD i 0) its.size→(∀b o,s.heap.get? b=some o→h'.get? b=some o)→Q (.ref s.heap.objs.size) {s with heap:=h',toks:=tk}) :
  wpAny (model prog w) A (call (.type "set") [.ref l]) Q E s:=by
 obtain⟨c,tl,hmro⟩:=K8.mro
 have hmade:=K8.made
 have hsub:=K8.sub
 refine wpAny_call (codeAny_of_tree ?_)
 show wpAny _ _ (callAny (.type "set") _) _ _ _
 refine wpAny_pure ⟨Code.quiet_builtin _ (by decide +kernel),codeAny_builtin PySem.F.entry_type_call ?_⟩
 rw[Around.under_plain (weight_type_call_type "set" [.ref l] []) rfl]
 have h1:=K8.notType
 have h2:=K8.canCreate
 have hct:=PySem.F.typeCall_set_1 (.ref l)
 repeat (any_goals (first | assumption | wp_step))
 refine codeAny_mono (aAt (.ref l) (E:=E) (Q:=λv s1=>v=.ref s.heap.objs.size∧s1={s with heap:=s.heap.push (nP (nQ w))}) ⟨rfl,rfl⟩) λr s1 hr=>?_
 cases r with
 | error e=>exact hr
 | ok fl=>
  cases fl with
  | ret obj=>
   obtain⟨rfl,rfl⟩:=hr
   have g0:(s.heap.push (nP (nQ w))).get? s.heap.objs.size=some (nP (nQ w)):=Heap.get?_push_size _ rfl
   have hT:Shared.TypeIs {s with heap:=s.heap.push (nP (nQ w))} (.ref s.heap.objs.size) "set" := ⟨_,g0,rfl⟩
   have hli:=K8.init.lookup
   have hbi:=K8.init.bind (.ref s.heap.objs.size)
   repeat (any_goals (first | assumption | wp_step))
   refine codeAny_mono (codeAny_call_builtin (R:=wants (λr s2=>r=.none∧∃h' tk,s2={s with heap:=h',toks:=tk}∧Ox prog w (nQ w) h' s.heap.objs.size (λi=>ns.getD i 0) its.size∧(∀b o,s.heap.get? b=some o→h'.get? b=some o)) E) K8.init.plain PySem.F.entry_set_init (check_set_init_1 hT ?_)) λr2 s2 hr2=>?_
   ·obtain⟨ol,hol,hcl,nl,hdl⟩:=hl
    obtain⟨ocls,odict,odata,oslots⟩:=ol
    simp only at hcl hdl
    subst hcl hdl
    have hol':(s.heap.push (nP (nQ w))).get? l=some {cls:=.type "list", dict:=odict,data:=.seq its nl,slots:=oslots}:=Heap.get?_push_of_some _ hol
    have q1:=PySem.F.sub_list_set
    have q2:=PySem.F.sub_list_frozenset
    have q3:(Value.type "list" == Value.type "dict")=false:=by decide
    have L1:(s.heap.push (nP (nQ w))).IsList l its:=⟨_,hol',rfl,nl,rfl⟩
    unfold Builtin.«set.__init__» noKeywords Builtin.Frozenset.updateFrom
    generalize hPI:pyIter=PI
    wp_walk
    subst hPI
    refine wpAny_pyIter_list L1 (wpAny_bind (wpAny_runValue ?_))
    have lt:=Heap.lt_size hol
    have hh3:A.in1.in1.in1.handled=none:=by simp[hh]
    have ne:l≠(s.heap.push (nP (nQ w))).objs.size:=by rw[Heap.size_push];exact C9 (F8 lt)
    have nf:s.heap.objs.size∉[(s.heap.push (nP (nQ w))).objs.size,l]:=by
     rw[Heap.size_push]
     intro z
     rcases C4.mp z with z | z
     ·exact absurd z (C9 (M6 _))
     ·exact absurd (C6.mp z) (L5 lt)
    have hval:∀(i:Nat)(v:Value),its[i]?=some v→∃t,v=.int ((λi=>ns.getD i 0) i) t:=λi v hv=>hi.int_at i v (by rw[E9];exact hv)
    refine qg ((Walks.list hh3 _ l ne its).toS) s.heap.objs.size nf (λi=>ns.getD i 0) hval hz (its.size-0) 0 _ (by omega) (G9 _) ⟨⟨_,Heap.get?_push_size _ rfl,rfl,rfl⟩,(L1.push _)⟩ (RN (nQ w) (Heap.get?_push_of_some _ g0)) λs' mv S'=>?_
    obtain⟨h',g',d',tk',os'⟩:=s'
    have eg:g'=s.gens:=mv.gens
    have ed:d'=s.drawn:=mv.drawn
    have eo:os'=s.os:=mv.os
    subst eg ed eo
    show wpAny _ _ _ _ _ _
    refine wpAny_pure ?_
    show wpAny _ _ (ret Value.none) _ _ _
    refine wpAny_pure ⟨rfl,h',tk',rfl,S',λb o e=>?_⟩
    have lb:=Heap.lt_size e
    refine mv.heap b o (λz=>?_) (Heap.get?_push_of_some _ (Heap.get?_push_of_some _ e))
    rcases C4.mp z with z | z
    ·exact absurd z (C9 lb)
    ·have:=C6.mp z
     rw[Heap.size_push]at this
     exact absurd this (C9 (F8 lb))
   ·cases r2 with
    | error e=>exact hr2
    | ok f2=>
     cases f2 with
     | ret r=>
      obtain⟨rfl,h',tk,rfl,S',kp⟩:=hr2
      repeat (any_goals (first | assumption | wp_step))
      exact h _ _ S' kp
     | _=>exact hr2.elim
  | _=>exact hr.elim
end
end L2


namespace L2
open PySem PySem.Spec PyProof.Rows
theorem Zw:Manifest.owners.lookup (String.ofList ['r','o','t','a','r','e','t','i','_','t','e','s'].reverse)=some Manifest.sig_set_iterator:=by kernel_rfl
theorem iM:Slot "set_iterator" "__next__" "set_iterator.__next__" := Slot.of (owner := "set_iterator") (n := "__next__") (by rw[typeLookup_type,builtinLookup_eq_fast];kernel_rfl) (by decide +kernel) (by decide +kernel) (by decide +kernel) (by first | exact .inl (by decide +kernel) | exact .inr (by decide +kernel)) (by rw[isSubtype_type];kernel_rfl)
theorem rT:entryFor table "set_iterator.__next__" = some Builtin.«set_iterator.__next__»:=entryFor_of_tree (by kernel_rfl)
theorem rW(a:Value):argsOk "set_iterator.__next__" ⟨[a],[]⟩:=by
 unfold argsOk;rw[signature?_of (id := "set_iterator.__next__") (n:=['_','_','t','x','e','n','_','_']) (o:=['r','o','t','a','r','e','t','i','_','t','e','s']) (by kernel_rfl) Zw];kernel_rfl
theorem Sw:Slot "set_iterator" "__iter__" "set_iterator.__iter__" := Slot.of (owner := "set_iterator") (n := "__iter__") (by rw[typeLookup_type,builtinLookup_eq_fast];kernel_rfl) (by decide +kernel) (by decide +kernel) (by decide +kernel) (by first | exact .inl (by decide +kernel) | exact .inr (by decide +kernel)) (by rw[isSubtype_type];kernel_rfl)
theorem Vw(a:Value):argsOk "set_iterator.__iter__" ⟨[a],[]⟩:=by
 unfold argsOk;rw[signature?_of (id := "set_iterator.__iter__") (n:=['_','_','r','e','t','i','_','_']) (o:=['r','o','t','a','r','e','t','i','_','t','e','s']) (by kernel_rfl) Zw];kernel_rfl
theorem Vx:entryFor table "set_iterator.__iter__" = some Builtin.«dict_keyiterator.__iter__»:=entryFor_alias (id' := "dict_keyiterator.__iter__") (by kernel_rfl) (by first | rfl | decide +kernel | (unfold String.splitOn;simp +decide [String.splitOnAux])) (by decide +kernel) (by kernel_rfl)
theorem Vy:entryFor table "set.__iter__" = some Builtin.«frozenset.__iter__»:=entryFor_alias (id' := "frozenset.__iter__") (by kernel_rfl) rfl (by decide +kernel) (by kernel_rfl)
def Sx(h:Heap)(I:Addr)(f:Value)(i:Nat)(a:Addr)(n ep:Nat):Prop:=∃o,h.get? I=some o∧o.cls=.type "set_iterator" ∧ o.data=.fields #[f,.int (i:Int) 0,.ref a,.int (n:Int) 0,.int (ep:Int) 0]
def Oz(h:Heap)(a:Addr)(es:Array (Int×Value))(ep:Nat)(t:SetTable):Prop:=∃o,h.get? a=some o∧o.cls=.type "set" ∧ o.data=.set es ep t∧t.fits es.size=true
theorem Sx.at_{h h':Heap}{I a:Addr}{f:Value}{i n ep:Nat}(x:Sx h I f i a n ep)(e:∀o,h.get? I=some o→h'.get? I=some o):Sx h' I f i a n ep:=let ⟨o,ho,r⟩:=x;⟨o,e o ho,r⟩
theorem Oz.at_{h h':Heap}{a:Addr}{es:Array (Int×Value)}{ep:Nat}{t:SetTable}(x:Oz h a es ep t)(e:∀o,h.get? a=some o→h'.get? a=some o):Oz h' a es ep t:=let ⟨o,ho,r⟩:=x;⟨o,e o ho,r⟩
section
variable{prog:Program}{w:World}{A:Around}{E:Value→Shared→Prop}{s:Shared}{I a T:Addr}{f:Value}{i n ep:Nat}{es:Array (Int×Value)}{t:SetTable}
theorem Sx.ty(x:Sx s.heap I f i a n ep):s.TypeIs (.ref I) "set_iterator" := let ⟨o,ho,hc,_⟩:=x;⟨o,ho,hc⟩
theorem Oz.ty(x:Oz s.heap a es ep t):s.TypeIs (.ref a) "set" := let ⟨o,ho,hc,_⟩:=x;⟨o,ho,hc⟩
theorem Sy{Q:Value→Shared→Prop}(x:Sx s.heap I f i a n ep)(h:Q (.ref I) s):wpAny (model prog w) A (pyIter (.ref I)) Q E s:=by
 refine wpAny_pyIter_slot x.ty Sw (wpAny_call_entry Sw x.ty Vx ?_ (Vw _))
 show wpAny _ _ (ret (.ref I)) _ _ s
 exact wpAny_pure ⟨_,rfl, "set_iterator", _,x.ty,iM.lookup,h⟩
theorem Kv{α:Type}{h1:Heap}{Q0:α→Shared→Prop}{E':Value→Shared→Prop}(hh:A.handled=none)(hQ:∀(v:Value) h',Shared.TypeIs {s with heap:=h'} v "StopIteration" → (∀b o,h1.get? b=some o→h'.get? b=some o)→E' v {s with heap:=h'}) :
  wpAny (model prog w) A.in1 (newExc (.type "StopIteration") [] >>= λe=>(raiseNew e:Sem α)) Q0 E' {s with heap:=h1}:=by
 refine wpAny_bind ?_
 simp only[newExc,newTuple]
 refine wpAny_bind (wpAny_newObj_type (wpAny_bind (m:=firstArgMember _ _) (wpAny_of_eq (a:=Value.none) (by first | rfl | (simp only[firstArgMember];rfl)) (wpAny_newObj_type ?_ (by size_fits)))) (by size_fits))
 simp only[raiseNew]
 refine wpAny_bind (wpAny_handled ?_)
 rw[show A.in1.handled=none from hh]
 refine wpAny_bind (wpAny_pure (wpAny_throw ?_))
 refine hQ (.ref _) _ ?_ λb o e=>Heap.get?_push_of_some _ (Heap.get?_push_of_some _ e)
 exact⟨_,Heap.get?_push_size _ rfl,rfl⟩
theorem RP{slot nxt:Nat}{x:Value}{Q:Option Value→Shared→Prop}(hit:Sx s.heap I (.int (slot:Int) 0) i a es.size ep)(hs:Oz s.heap a es ep t)
  (hN:∀(Q':Option (Value×Nat)→Shared→Prop) E',Q' (some (x,nxt)) s→wpAny (model prog w) A.in1 (setNext a slot i ep) Q' E' s)
  (hQ:∀h',Sx h' I (.int (nxt:Int) 0) (i+1) a es.size ep→Heap.SameBut I s.heap h'→Q (some x) {s with heap:=h'}):wpAny (model prog w) A (pyNext (.ref I)) Q E s:=by
 obtain⟨o,ho,hc,hd⟩:=id hit
 obtain⟨oa,ha,_,hda,hf⟩:=id hs
 unfold pyNext
 refine wpAny_bind (wpAny_attempt (wpAny_callSpecial?_slot (name:=Str.ofString "__next__") hit.ty iM (wpAny_call_entry iM hit.ty rT ?_ (rW _))))
 unfold Builtin.«set_iterator.__next__»
 refine wpAny_bind (wpAny_of_eq (a:=(Value.ref I,[])) rfl ?_)
 dsimp only
 refine wpAny_bind (wpAny_fieldsOf ho hd ?_)
 dsimp only
 refine wpAny_bind (wpAny_setEntries_of ha hda hf ?_)
 rw[if_neg (by simp)]
 dsimp only[C5]
 refine wpAny_bind (hN _ _ ?_)
 dsimp only
 refine wpAny_bind (wpAny_setField ho hd (by simp) ?_)
 have g1:=Heap.get?_update_self (Obj.mapFields (·.setIfInBounds 0 (rawInt (nxt:Int)))) ho (Obj.isFreed_of_fields (Obj.data_mapFields hd _))
 have d1:=Obj.data_mapFields hd (·.setIfInBounds 0 (rawInt (nxt:Int)))
 refine wpAny_bind (wpAny_setField g1 d1 (by simp) (wpAny_pure ⟨x,rfl,wpAny_pure (hQ _ ?_ ((Heap.SameBut.update ..).trans (Heap.SameBut.update ..)))⟩))
 refine⟨_,Heap.get?_update_self _ g1 (Obj.isFreed_of_fields (Obj.data_mapFields d1 _)),(Obj.cls_mapFields ..).trans ((Obj.cls_mapFields ..).trans hc),?_⟩
 rw[Obj.data_mapFields d1]
 simp[rawInt]
theorem qj{slot:Nat}{Q:Option Value→Shared→Prop}(hh:A.handled=none)(hit:Sx s.heap I (.int (slot:Int) 0) i a es.size ep)(hs:Oz s.heap a es ep t)
  (hN:∀(Q':Option (Value×Nat)→Shared→Prop) E',Q' none s→wpAny (model prog w) A.in1 (setNext a slot i ep) Q' E' s)
  (hQ:∀h',(∀b o,b≠I→s.heap.get? b=some o→h'.get? b=some o)→Q none {s with heap:=h'}):wpAny (model prog w) A (pyNext (.ref I)) Q E s:=by
 obtain⟨o,ho,hc,hd⟩:=id hit
 obtain⟨oa,ha,_,hda,hf⟩:=id hs
 unfold pyNext
 refine wpAny_bind (wpAny_attempt (wpAny_callSpecial?_slot (name:=Str.ofString "__next__") hit.ty iM (wpAny_call_entry iM hit.ty rT ?_ (rW _))))
 unfold Builtin.«set_iterator.__next__»
 refine wpAny_bind (wpAny_of_eq (a:=(Value.ref I,[])) rfl ?_)
 dsimp only
 refine wpAny_bind (wpAny_fieldsOf ho hd ?_)
 dsimp only
 refine wpAny_bind (wpAny_setEntries_of ha hda hf ?_)
 rw[if_neg (by simp)]
 dsimp only[C5]
 refine wpAny_bind (hN _ _ ?_)
 dsimp only
 refine wpAny_bind (wpAny_setField ho hd (by simp) ?_)
 refine Kv hh λv h' ty kp=>wpAny_bind (wpAny_isInstance ty isSubtype_stop ?_)
 exact wpAny_pure (hQ h' λb o nb e=>kp b o ((Heap.SameBut.update s.heap I _).extBut b o nb e))
theorem RQ{ps:Array Value}{c p:Nat}{tk:Tok}{hx:Int}{x:Value}{oT:Obj}{Q:Option Value→Shared→Prop}(hit:Sx s.heap I (.ref T) i a es.size ep)(hs:Oz s.heap a es ep t)(hT:s.heap.get? T=some oT)(hTd:oT.data=.seq ps c)(hp:ps[i]?=some (.int (p:Int) tk))(he:es[p]?=some (hx,x))
  (hQ:∀h',Sx h' I (.ref T) (i+1) a es.size ep→Heap.SameBut I s.heap h'→Q (some x) {s with heap:=h'}):wpAny (model prog w) A (pyNext (.ref I)) Q E s:=by
 obtain⟨o,ho,hc,hd⟩:=id hit
 obtain⟨oa,ha,_,hda,hf⟩:=id hs
 unfold pyNext
 refine wpAny_bind (wpAny_attempt (wpAny_callSpecial?_slot (name:=Str.ofString "__next__") hit.ty iM (wpAny_call_entry iM hit.ty rT ?_ (rW _))))
 unfold Builtin.«set_iterator.__next__»
 refine wpAny_bind (wpAny_of_eq (a:=(Value.ref I,[])) rfl ?_)
 dsimp only
 refine wpAny_bind (wpAny_fieldsOf ho hd ?_)
 dsimp only
 refine wpAny_bind (wpAny_setEntries_of ha hda hf ?_)
 rw[if_neg (by simp)]
 dsimp only[C5]
 refine wpAny_bind (wpAny_seqItems hT hTd ?_)
 dsimp only
 rw[hp]
 dsimp only[C5]
 unfold setNextDrawn
 refine wpAny_bind (wpAny_bind (wpAny_setState_of ha hda hf ?_))
 dsimp only
 rw[if_neg (by simp),he]
 dsimp only
 refine wpAny_pure (wpAny_bind (wpAny_setField ho hd (by simp) (wpAny_pure ⟨x,rfl,wpAny_pure (hQ _ ?_ (Heap.SameBut.update ..))⟩)))
 refine⟨_,Heap.get?_update_self _ ho (Obj.isFreed_of_fields (Obj.data_mapFields hd _)),(Obj.cls_mapFields ..).trans hc,?_⟩
 rw[Obj.data_mapFields hd]
 simp[rawInt]
theorem ql{ps:Array Value}{c:Nat}{oT:Obj}{Q:Option Value→Shared→Prop}(hh:A.handled=none)(hit:Sx s.heap I (.ref T) i a es.size ep)(hs:Oz s.heap a es ep t)(hT:s.heap.get? T=some oT)(hTd:oT.data=.seq ps c)(hp:ps[i]?=none)
  (hQ:∀h',(∀b o,b≠I→s.heap.get? b=some o→h'.get? b=some o)→Q none {s with heap:=h'}):wpAny (model prog w) A (pyNext (.ref I)) Q E s:=by
 obtain⟨o,ho,hc,hd⟩:=id hit
 obtain⟨oa,ha,_,hda,hf⟩:=id hs
 unfold pyNext
 refine wpAny_bind (wpAny_attempt (wpAny_callSpecial?_slot (name:=Str.ofString "__next__") hit.ty iM (wpAny_call_entry iM hit.ty rT ?_ (rW _))))
 unfold Builtin.«set_iterator.__next__»
 refine wpAny_bind (wpAny_of_eq (a:=(Value.ref I,[])) rfl ?_)
 dsimp only
 refine wpAny_bind (wpAny_fieldsOf ho hd ?_)
 dsimp only
 refine wpAny_bind (wpAny_setEntries_of ha hda hf ?_)
 rw[if_neg (by simp)]
 dsimp only[C5]
 refine wpAny_bind (wpAny_seqItems hT hTd ?_)
 dsimp only
 rw[hp]
 dsimp only
 refine wpAny_bind (wpAny_setField ho hd (by simp) ?_)
 have g1:=Heap.get?_update_self (Obj.mapFields (·.setIfInBounds 0 (rawInt 0))) ho (Obj.isFreed_of_fields (Obj.data_mapFields hd _))
 have d1:=Obj.data_mapFields hd (·.setIfInBounds 0 (rawInt 0))
 refine wpAny_bind (wpAny_setField g1 d1 (by simp) ?_)
 refine Kv hh λv h' ty kp=>wpAny_bind (wpAny_isInstance ty isSubtype_stop ?_)
 exact wpAny_pure (hQ h' λb o nb e=>kp b o (((Heap.SameBut.update s.heap I _).trans (Heap.SameBut.update _ I _)).extBut b o nb e))
theorem qm{slot:Nat}{Q:Option (Value×Nat)→Shared→Prop}(hb:nQ w=false)(hs:Oz s.heap a es ep t)(h:Q (((pickOrder (w.params.setOrder a ep) es)[i]?).map λe=>(e.2,slot)) s):wpAny (model prog w) A (setNext a slot i ep) Q E s:=by
 obtain⟨oa,ha,_,hda,hf⟩:=id hs
 have ft:w.params.followText "set-order" = true:=by simpa using hb
 unfold setNext
 refine wpAny_bind (wpAny_setState_of ha hda hf ?_)
 dsimp only
 unfold setsByText
 refine wpAny_bind (wpAny_bind (wpAny_askSetting (wpAny_pure ?_)))
 dsimp only
 rw[show (model prog w).w.params.followText "set-order" = true from ft,if_pos rfl,if_neg (by simp)]
 unfold setWalk setsByText
 refine wpAny_bind (wpAny_bind (wpAny_setState_of ha hda hf ?_))
 dsimp only
 refine wpAny_bind (wpAny_bind (wpAny_askSetting (wpAny_pure ?_)))
 dsimp only
 rw[show (model prog w).w.params.followText "set-order" = true from ft,if_pos rfl]
 refine wpAny_bind (wpAny_askSetting (wpAny_pure (wpAny_pure ?_)))
 exact h
def uQ(t:SetTable):Nat→Nat
 | 0=>0
 | i+1=>t.place.getD i 0+1
theorem Pa(up:t.place.toList.Pairwise (·<·))(hi:i≤t.place.size):SetTable.below t.place (uQ t i)=i:=by
 obtain⟨b1,b2,b3⟩:=below_at up (uQ t i)
 have mono:∀a b,a<b→b<t.place.size→t.place.getD a 0<t.place.getD b 0:=λa b q q'=>by
  have:=G1.mp up a b (by simp;omega) (by simpa using q') q
  simp only[R4]at this
  simpa[N5,q',show a<t.place.size by omega]using this
 rcases O4 (SetTable.below t.place (uQ t i)) i with z | z | z
 ·cases i with
  | zero=>omega
  | succ i=>
   have h1:=b3 i (by omega) (by omega)
   rw[show uQ t (i+1)=t.place.getD i 0+1 from rfl]at h1
   omega
 ·exact z
 ·have h1:=b2 i z
  cases i with
  | zero=>exact absurd h1 (U6 _)
  | succ i=>
   rw[show uQ t (i+1)=t.place.getD i 0+1 from rfl]at h1
   have:=mono i (i+1) (by omega) (by omega)
   omega
theorem qp{Q:Option (Value×Nat)→Shared→Prop}(hb:nQ w=true)(hs:Oz s.heap a es ep t)(hl:Led (nQ w) t)(hdr:(!t.plain&&decide (es.size > 1))=false)(hi:i≤es.size)(h:Q ((es[i]?).map λe=>(e.2,uQ t (i+1))) s):wpAny (model prog w) A (setNext a (uQ t i) i ep) Q E s:=by
 obtain⟨oa,ha,_,hda,hf⟩:=id hs
 have ft:w.params.followText "set-order" = false:=by simpa using hb
 have hz:t.place.size=es.size:=by
  simp only[SetTable.fits,D7,beq_iff_eq]at hf
  exact hf.1
 have up:t.place.toList.Pairwise (·<·):=by
  cases e:t.plain with
  | true=>exact(hl.2 e).1
  | false=>
   rw[e]at hdr
   have:es.size≤1:=by simpa using hdr
   match h:t.place.toList with
   | []=>exact .nil
   | [x]=>simp
   | x::y::r=>
    have:=congrArg List.length h
    simp at this
    omega
 unfold setNext
 refine wpAny_bind (wpAny_setState_of ha hda hf ?_)
 dsimp only
 unfold setsByText
 refine wpAny_bind (wpAny_bind (wpAny_askSetting (wpAny_pure ?_)))
 dsimp only
 rw[show (model prog w).w.params.followText "set-order" = false from ft,if_neg (by simp)]
 refine wpAny_ite_split (λq=>?_) λ_=>?_
 ·exfalso
  have q':(!t.plain&&decide (es.size > 1))=true:=q
  rw[hdr]at q'
  cases q'
 ·refine wpAny_bind ?_
  refine wpAny_ite_split (λq=>?_) λ_=>wpAny_pure ?_
  ·exfalso
   have:t.led=true:=by rw[hl.1,hb]
   rw[this]at q
   simp at q
  ·rw[Pa up (by omega)]
   refine wpAny_pure ?_
   rcases E3 i es.size with z | z
   ·rw[K1 z]at h ⊢
    rw[K1 (by omega)]
    have e:t.place[i]'(by omega)=t.place.getD i 0:=by simp[N5,show i<t.place.size by omega]
    simpa[uQ,e]using h
   ·rw[Array.getElem?_eq_none z]at h ⊢
    exact h
end
end L2


namespace L2
open PySem PySem.Spec PyProof.Rows
section
variable{prog:Program}{w:World}{A:Around}{E:Value→Shared→Prop}{s:Shared}{I a T:Addr}{f:Value}{i n ep:Nat}{es:Array (Int×Value)}{t:SetTable}
theorem RT{M:Model}{src:Source}{m:Nat}{Q:Nat→Shared→Prop}(hm:m≠0)(h:∀i dr,i<m→Q i {s with drawn:=dr}):wpAny M A (choose src m) Q E s:=λ_ _ _=>⟨hm,h _ _ (Nat.mod_lt _ (Nat.pos_of_ne_zero hm))⟩
theorem Ej{M:Model}{α:Type}:∀(m:Nat)(xs:List α)(s:Shared)(Q:List α→Shared→Prop),xs.length=m→(∀ys dr,ys.Perm xs→Q ys {s with drawn:=dr})→wpAny M A (drawOrder m xs) Q E s
 | 0,xs,s,Q,hn,h=>by
  have:xs=[]:=K4 hn
  subst this
  unfold drawOrder
  exact wpAny_pure (h [] s.drawn (Q4 _))
 | m+1,[],s,Q,hn,h=>absurd hn (by simp)
 | m+1,x::xs,s,Q,hn,h=>by
  unfold drawOrder
  refine wpAny_bind (RT (by simp) λi dr hi=>?_)
  rw[B0 hi]
  dsimp only
  refine wpAny_bind (Ej m ((x::xs).eraseIdx i) _ _ (by rw[R9 hi];omega) λys dr' pm=>wpAny_pure ?_)
  exact h _ dr' ((pm.cons _).trans (tU _ _ hi))
def Ord(S:Int→Bool)(n:Nat)(ord:List Value):Prop:=ord.length=n∧∃ns,IntsAre ord ns∧∀k,S k=true↔k∈ns
theorem Pb{S:Int→Bool}{l:List (Int×Value)}{ord:List Value}(hel:ElemsOf (intKind prog w) l)(hm:∀k,S k=true↔∃e∈l,(intKind prog w).is k e.2=true)(hn:l.length=n)(pm:ord.Perm (l.map (·.2))):Ord S n ord:=by
  refine⟨by rw[pm.length_eq,B5,hn],?_⟩
  have allI:∀v∈ord,∃k t,v=Value.int k t:=λv hv=>by
    obtain⟨e,he,rfl⟩:=E2.mp (pm.mem_iff.mp hv)
    obtain⟨⟨k,hk,_⟩,_⟩:=hel e he
    obtain⟨t,ht⟩:=Value.isInt_shape hk
    exact⟨k,t,ht⟩
  have mk:∀vs:List Value,(∀v∈vs,∃k t,v=Value.int k t)→∃ns,IntsAre vs ns∧∀k,k∈ns↔∃t,Value.int k t∈vs:=by
    intro vs
    induction vs with
    | nil=>exact λ_=>⟨[],.nil,λk=>by simp⟩
    | cons v vs ih=>
      intro hv
      obtain⟨ns,h1,h2⟩:=ih λv q=>hv v (B7 _ q)
      obtain⟨k,t,rfl⟩:=hv v B9
      refine⟨k::ns,.cons k t h1,λj=>?_⟩
      rw[C4,h2]
      constructor
      · rintro(rfl | ⟨t',q⟩)
        · exact⟨t,B9⟩
        · exact⟨t',B7 _ q⟩
      · rintro⟨t',q⟩
        rcases C4.mp q with q | q
        · injection q with q
          exact .inl q
        · exact .inr ⟨t',q⟩
  obtain⟨ns,h1,h2⟩:=mk ord allI
  refine⟨ns,h1,λk=>?_⟩
  rw[hm,h2]
  constructor
  · rintro⟨e,he,hk⟩
    obtain⟨t,ht⟩:=Value.isInt_shape hk
    exact⟨t,pm.mem_iff.mpr (E2.mpr ⟨e,he,ht⟩)⟩
  · rintro⟨t,q⟩
    obtain⟨e,he,q⟩:=E2.mp (pm.mem_iff.mp q)
    exact⟨e,he,by rw[q];exact intKind_is _ _ _ _⟩
theorem Ag(hh:A.handled=none)(ne:a≠I){slot:Nat→Nat}{ord:List Value}(hz:ord.length=es.size)
  (hN:∀(s:Shared)(i:Nat)(Q':Option (Value×Nat)→Shared→Prop) E',i≤es.size→Oz s.heap a es ep t→Q' ((ord[i]?).map λv=>(v,slot (i+1))) s→wpAny (model prog w) A.in1 (setNext a (slot i) i ep) Q' E' s) :
  Walks prog w A I [I,a] [I] es.size (λi v=>ord[i]?=some v) (λi h=>Sx h I (.int (slot i:Int) 0) i a es.size ep∧Oz h a es ep t) where
 sub:=λb hb=>by simp at hb;simp[hb]
 frame:=λ_ _ _ x kp=>⟨x.1.at_ λo e=>kp I (by simp) o e,x.2.at_ λo e=>kp a (by simp) o e⟩
 item:=λi s Q E hi x hQ=>by
  have e:ord[i]?=some (ord[i]'(by omega)):=B0 (by omega)
  refine RP (x:=ord[i]'(by omega)) (nxt:=slot (i+1)) x.1 x.2 (λQ' E' q=>hN s i Q' E' (by omega) x.2 (by rw[e];exact q)) λh' st sb=>?_
  exact hQ _ h' s.toks e ⟨st,x.2.at_ λo eo=>sb.extBut a o ne eo⟩ λb o hb eo=>sb.extBut b o (λz=>hb (by simp[z])) eo
 done:=λs Q E x hQ=>qj hh x.1 x.2 (λQ' E' q=>hN s es.size Q' E' (B4 _) x.2 (by rw[F0 (by omega)];exact q)) λh' kp=>hQ h' s.toks λb o hb e=>kp b o (λz=>hb (by simp[z])) e
 self:=λ_ _ _ _ x hQ=>Sy x.1 hQ
theorem Pg(hh:A.handled=none)(ne:a≠I)(neT:T≠I){ps:List Nat}(hz:ps.length=es.size)(hp:∀p∈ps,p<es.size) :
  Walks prog w A I [I,a,T] [I] es.size (λi v=>(ps.map λp=>(es.getD p (0,.none)).2)[i]?=some v) (λi h=>Sx h I (.ref T) i a es.size ep∧Oz h a es ep t∧∃o c,h.get? T=some o∧o.data=.seq (ps.map λ(p:Nat)=>rawInt p).toArray c) where
 sub:=λb hb=>by simp at hb;simp[hb]
 frame:=λ_ _ _ x kp=>⟨x.1.at_ λo e=>kp I (by simp) o e,x.2.1.at_ λo e=>kp a (by simp) o e,let ⟨o,c,ho,hd⟩:=x.2.2;⟨o,c,kp T (by simp) o ho,hd⟩⟩
 item:=λi s Q E hi x hQ=>by
  obtain⟨h1,h2,oT,c,hT,hTd⟩:=x
  have lt:i<ps.length:=by omega
  have lp:=hp ps[i] (O9 lt)
  refine RQ (p:=ps[i]) (tk:=0) (hx:=es[ps[i]].1) (x:=es[ps[i]].2) h1 h2 hT hTd (by simp[lt,rawInt]) (by rw[K1 lp]) λh' st sb=>?_
  exact hQ _ h' s.toks (by simp[lt,N5,lp]) ⟨st,h2.at_ λo eo=>sb.extBut a o ne eo,oT,c,sb.extBut T oT neT hT,hTd⟩ λb o hb eo=>sb.extBut b o (λz=>hb (by simp[z])) eo
 done:=λs Q E x hQ=>by
  obtain⟨h1,h2,oT,c,hT,hTd⟩:=x
  exact ql hh h1 h2 hT hTd (by simp[hz]) λh' kp=>hQ h' s.toks λb o hb e=>kp b o (λz=>hb (by simp[z])) e
 self:=λ_ _ _ _ x hQ=>Sy x.1 hQ
theorem Zx{S:Int→Bool}{Q:Value→Shared→Prop}(hh:A.handled=none)(hs:tV prog w (nQ w) s.heap a S n)
    (h:∀(h1:Heap)(dr:Drawn)(I:Addr)(fp:List Addr)(ord:List Value)(St:Nat→Heap→Prop),(∀b o,s.heap.get? b=some o→h1.get? b=some o)→Walks prog w A I fp [I] n (λi v=>ord[i]?=some v) St→St 0 h1→(∀x∈fp,x=a∨s.heap.objs.size≤x)→s.heap.objs.size≤I→Ord S n ord→Q (.ref I) {s with heap:=h1,drawn:=dr}) :
    wpAny (model prog w) A (pyIter (.ref a)) Q E s:=by
  obtain⟨o,es,ep,t,ho,hex,hd,hel,hm,hz,hf,hn,hl⟩:=hs
  have sat:Oz s.heap a es ep t:=⟨o,ho,hex.1,hd,hf⟩
  have lt:=Heap.lt_size ho
  subst hn
  refine wpAny_pyIter_slot sat.ty V6 (wpAny_call_entry V6 sat.ty Vy ?_ (PySem.F.args_set_iter_1 _))
  unfold Builtin.«frozenset.__iter__» Builtin.Frozenset.slot0
  refine wpAny_bind (wpAny_bind (wpAny_of_eq (a:=(Value.ref a,[])) rfl ?_))
  unfold Builtin.Frozenset.addrOf Builtin.Frozenset.sizeOf
  refine wpAny_pure (wpAny_bind (wpAny_bind (wpAny_setEntries_of ho hd hf (wpAny_pure ?_))))
  unfold setDrawn setsByText
  refine wpAny_bind (wpAny_bind (wpAny_setState_of ho hd hf ?_))
  dsimp only
  refine wpAny_bind (wpAny_bind (wpAny_askSetting (wpAny_pure ?_)))
  refine wpAny_pure ?_
  refine wpAny_ite_split (λc=>?_) λc=>?_
  · have c':(nQ w&&(!t.plain&&decide (es.size > 1)))=true:=c
    rw[D7]at c'
    refine wpAny_bind (Ej es.size (D6 es.size) s _ (by simp) λps dr pm=>?_)
    have lps:ps.length=es.size:=by rw[pm.length_eq,F3]
    have hp:∀p∈ps,p<es.size:=λp hp=>J8.mp (pm.mem_iff.mp hp)
    refine wpAny_bind (wpAny_newTuple ?_ (by rw[B5,lps];exact fits_of_scanBound hz))
    have g1:(s.heap.push {cls:=.type "tuple", data:=.seq (ps.map λ(i:Nat)=>rawInt i).toArray}).get? a=some o:=Heap.get?_push_of_some _ ho
    refine wpAny_bind (wpAny_setEpoch_of g1 hd hf ?_)
    refine wpAny_bind (wpAny_newObj_type (wpAny_pure ⟨_,rfl, "set_iterator", _,⟨_,Heap.get?_push_size _ rfl,rfl⟩,iM.lookup,?_⟩))
    refine h _ dr _ _ (ps.map λp=>(es.getD p (0,.none)).2) _ (λb o e=>Heap.get?_push_of_some _ (Heap.get?_push_of_some _ e)) (Pg (T:=s.heap.objs.size) (t:=t) (ep:=ep) hh ?_ ?_ lps hp) ⟨⟨_,Heap.get?_push_size _ rfl,rfl,rfl⟩,sat.at_ λo e=>Heap.get?_push_of_some _ (Heap.get?_push_of_some _ e),_,_,Heap.get?_push_of_some _ (Heap.get?_push_size _ rfl),rfl⟩ ?_ ?_ ?_
    · show a≠(s.heap.push _).objs.size
      rw[Heap.size_push]
      exact C9 (F8 lt)
    · show s.heap.objs.size≠(s.heap.push _).objs.size
      rw[Heap.size_push]
      exact C9 (M6 _)
    · intro x hx
      rcases C4.mp hx with z | z
      · rw[z]
        show _∨s.heap.objs.size≤(s.heap.push _).objs.size
        rw[Heap.size_push]
        exact .inr (M7 _)
      · rcases C4.mp z with z | z
        · exact .inl z
        · rw[C6.mp z]
          exact .inr (B4 _)
    · show s.heap.objs.size≤(s.heap.push _).objs.size
      rw[Heap.size_push]
      exact M7 _
    · refine Pb (prog:=prog) (w:=w) hel hm (by simp) ?_
      have e:es.toList.map (·.2)=(D6 es.size).map λp=>(es.getD p (0,.none)).2:=by
        refine Q7 (by simp) λk k1 k2=>?_
        simp at k1
        simp[N5,k1]
      rw[e]
      exact pm.map _
  · refine wpAny_bind (wpAny_pure ?_)
    refine wpAny_bind (wpAny_setEpoch_of ho hd hf ?_)
    refine wpAny_bind (wpAny_newObj_type (wpAny_pure ⟨_,rfl, "set_iterator", _,⟨_,Heap.get?_push_size _ rfl,rfl⟩,iM.lookup,?_⟩))
    have ne:a≠s.heap.objs.size:=C9 lt
    have fp':∀x∈[s.heap.objs.size,a],x=a∨s.heap.objs.size≤x:=λx hx=>by
      rcases C4.mp hx with z | z
      · exact .inr (T1 z.symm)
      · exact .inl (C6.mp z)
    cases hb:nQ w with
    | false=>
      have pm:=Vv (w.params.setOrder a ep) es
      refine h _ s.drawn _ _ ((pickOrder (w.params.setOrder a ep) es).toList.map (·.2)) _ (λb o e=>Heap.get?_push_of_some _ e) (Ag (t:=t) (ep:=ep) (slot:=λ_=>0) hh ne (by rw[B5,pm.length_eq,F1]) λs i Q' E' hi x q=>?_) ⟨⟨_,Heap.get?_push_size _ rfl,rfl,rfl⟩,sat.at_ λo e=>Heap.get?_push_of_some _ e⟩ fp' (B4 _) (Pb (prog:=prog) (w:=w) hel hm (by simp) (pm.map _))
      refine qm hb x ?_
      rw[C8,E9,c8]at q
      exact q
    | true=>
      have c':(!t.plain&&decide (es.size > 1))=false:=by
        have c2:¬(nQ w&&(!t.plain&&decide (es.size > 1)))=true:=c
        rw[hb,Bool.true_and]at c2
        simpa using c2
      refine h _ s.drawn _ _ (es.toList.map (·.2)) _ (λb o e=>Heap.get?_push_of_some _ e) (Ag (t:=t) (ep:=ep) (slot:=uQ t) hh ne (by simp) λs i Q' E' hi x q=>?_) ⟨⟨_,Heap.get?_push_size _ rfl,rfl,rfl⟩,sat.at_ λo e=>Heap.get?_push_of_some _ e⟩ fp' (B4 _) (Pb (prog:=prog) (w:=w) hel hm (by simp) (Q4 _))
      refine qp hb x hl c' hi ?_
      rw[C8,E9,c8]at q
      exact q
end
end L2


namespace L2
open PySem PySem.Spec PySem.Calls PyProof.Rows PyProof.V
section
variable{prog:Program}{w:World}{A:Around}{E:Value→Shared→Prop}{s:Shared}{I a T:Addr}{n:Nat}{S:Int→Bool}
theorem Zy{Q:Bool→Shared→Prop}(hT:s.TypeIs (.ref a) "set") (h:Q false s):wpAny (model prog w) A (Builtin.List.listLengthHint (.ref a)) Q E s:=by
 unfold Builtin.List.listLengthHint
 refine wpAny_bind (wpAny_specialOf hT PySem.F.slot_set_len.lookup ?_)
 generalize hid:("set.__len__" : String)=id0
 wp_delta
 rw[show splitId id0=some ("set", "__len__")from by subst hid;decide +kernel]
 subst hid
 refine wpAny_bind (wpAny_isInstance (T := "set") (b:=true) hT (by rw[isSubtype_type];kernel_rfl) (wpAny_ite_split (λz=>absurd z (by decide)) λ_=>wpAny_ite_split (λ_=>?_) λz=>absurd (by decide +kernel) z))
 exact wpAny_bind (wpAny_typeOf hT (wpAny_pure h))
theorem RV{R:Result→Shared→Prop}(hh:A.handled=none)(hs:tV prog w (nQ w) s.heap a S n)(hz:n≤sizeLine)(L:Addr)(ne:L≠a)(hL:s.heap.get? L=some {cls:=.type "list", data:=.seq #[] 0})
    (hR:∀h' dr tk acc c,(∀b o,b≠L→s.heap.get? b=some o→h'.get? b=some o)→h'.get? L=some {cls:=.type "list", dict:=none,data:=.seq acc c,slots:=#[]}→Ord S n acc.toList→R (.ok (.ret (.ref L))) {s with heap:=h',drawn:=dr,toks:=tk}) :
    wpAny (model prog w) A.in1 (Builtin.List.listExtendWith (.ref L) (.ref a) (.ref L)) (λfin s'=>match fin with | .done f=>R (.ok f) s' | .again c'=>c'.quiet=true∧codeAny (model prog w) A c' R s') (λe s'=>R (.error e) s') s:=by
  have lt:L<s.heap.objs.size:=Heap.lt_size hL
  have ty:s.TypeIs (.ref a) "set" := let ⟨o,_,_,_,ho,hex,_⟩:=hs;⟨o,ho,hex.1⟩
  unfold Builtin.List.listExtendWith
  refine wpAny_bind (wpAny_typeOf (T := "set") ty ?_)
  have h1:Builtin.List.listSameRef (.ref L) (.ref a)=false:=by simp[Builtin.List.listSameRef,ne]
  have h2:(Value.type "set" == Value.type "list")=false:=by decide
  have h3:(Value.type "set" == Value.type "tuple")=false:=by decide
  simp only[h1,h2,h3,V9,K5,if_false]
  refine wpAny_bind (Zx (A:=A.in1) hh hs λh0 dr I fp ord St kp W st fpo lI od=>?_)
  have hL1:=kp _ _ hL
  have nf:L∉fp:=λz=>by
    rcases fpo L z with z | z
    · exact ne z
    · exact absurd lt (Nat.not_lt.mpr z)
  have nI:∀b o,s.heap.get? b=some o→b≠I:=λb o e=>C9 (D1 (Heap.lt_size e) lI)
  have key:∀(h:Heap)(c1 tk:Nat),St 0 h→(∀b o,b≠L→s.heap.get? b=some o→h.get? b=some o)→h.get? L=some {cls:=.type "list", data:=.seq #[] c1}→codeAny (model prog w) A (.builtin "list.extend.loop" ⟨[.ref L,.ref I,.ref L],[]⟩) R {s with heap:=h,drawn:=dr,toks:=tk}:=by
    intro h c1 tk st0 k0 g0
    refine codeAny_extend_loopS W.toS hz L nf (.ref L) n 0 _ #[] c1 rfl (G9 _) st0 g0 (ItemsOf.nil _) λs' acc c mv g' it=>?_
    rw[Moved.eq_with mv]
    refine hR s'.heap dr s'.toks acc c (λb o nb e=>mv.heap b o (λz=>?_) (k0 b o nb e)) g' ?_
    · rcases C4.mp z with z | z
      · exact nb z
      · exact nI b o e (C6.mp z)
    · have e:acc.toList=ord:=by
        refine O3 λj=>?_
        rcases E3 j acc.size with z | z
        · have e1:acc[j]?=some acc[j]:=K1 z
          rw[E9,e1,it.2 j _ e1]
        · rw[F0 (by simpa using z),F0 (by have:=it.1;have:=od.1;omega)]
      rw[e]
      exact od
  refine wpAny_bind (wpAny_holding (Zy (hT:=let ⟨o,ho,hc⟩:=ty;⟨o,kp _ _ ho,hc⟩) ?_))
  refine wpAny_ite_split (λ_=>?_) λ_=>wpAny_pure ⟨plainId_quiet N6 _,key _ 0 _ st (λb o _ e=>kp b o e) hL1⟩
  refine wpAny_bind (wpAny_rule (wpAny_bind ?_))
  show wpAny _ _ (updateSeq L (·.push .none) >>= λ_=>updateSeq L (·.pop)) _ _ _
  refine wpAny_bind (wpAny_updateSeq hL1 rfl ?_)
  have g2:=Heap.get?_update_self (Obj.mapSeq (·.push Value.none)) hL1 rfl
  refine wpAny_updateSeq (hz:=by seq_fits) g2 rfl ?_
  have g3:=Heap.get?_update_self (Obj.mapSeq (·.pop)) g2 rfl
  refine wpAny_pure ⟨plainId_quiet N6 _,key _ _ _ (W.frame 0 _ _ st λb hb o e=>?_) (λb o hb e=>?_) g3⟩
  · have nb:b≠L:=λz=>nf (z▸hb)
    exact(Heap.get?_update_other _ _ (Ne.symm nb)).trans ((Heap.get?_update_other _ _ (Ne.symm nb)).trans e)
  · exact(Heap.get?_update_other _ _ (Ne.symm hb)).trans ((Heap.get?_update_other _ _ (Ne.symm hb)).trans (kp b o e))
theorem Kw{R:List Value→Shared→Prop}(hh:A.handled=none)(hs:tV prog w (nQ w) s.heap a S n)(hz:n≤sizeLine)
  (h:∀(h':Heap)(dr:Drawn)(tk:Nat)(acc:List Value),(∀b o,s.heap.get? b=some o→h'.get? b=some o)→Ord S n acc→R acc {s with heap:=h',drawn:=dr,toks:=tk}):wpAny (model prog w) A (collect (.ref a)) R E s:=by
 have lt:a<s.heap.objs.size:=let ⟨o,_,_,_,ho,_⟩:=hs;Heap.lt_size ho
 unfold collect
 refine wpAny_bind (wpAny_runValue (codeAny_builtin entry_proto_collect' ?_))
 rw[Around.under_plainId PySem.F.plain_proto_collect _]
 show wpAny _ A.in1 (newList [] >>= λl=>again (.builtin "list.__iadd__" ⟨[l,.ref a],[]⟩)) _ _ s
 refine wpAny_bind (wpAny_newObj_type (wpAny_pure ⟨plainId_quiet U2 _,codeAny_builtin entry_list_iadd' ?_⟩))
 rw[Around.under_plainId U2 _]
 have g1:(s.heap.push {cls:=.type "list", data:=.seq ([]:List Value).toArray}).get? s.heap.objs.size=some {cls:=.type "list", data:=.seq #[]}:=Heap.get?_push_size _ rfl
 show wpAny _ A.in1 (Builtin.List.listExtendWith (.ref s.heap.objs.size) (.ref a) (.ref s.heap.objs.size)) _ _ _
 have key:=RV (A:=A) (s:={s with heap:=s.heap.push {cls:=.type "list", data:=.seq ([]:List Value).toArray}})
  (R:=λ(q:Result) (s':Shared)=>∃(h':Heap)(dr:Drawn)(tk:Nat)(acc:Array Value)(c:Nat),q=.ok (.ret (.ref s.heap.objs.size))∧s'={s with heap:=h',drawn:=dr,toks:=tk}∧(∀b o,s.heap.get? b=some o→h'.get? b=some o)∧h'.get? s.heap.objs.size=some {cls:=.type "list", dict:=none,data:=.seq acc c,slots:=#[]}∧Ord S n acc.toList)
  hh (hs.at_ λo e=>Heap.get?_push_of_some _ e) hz s.heap.objs.size (L5 lt) g1 λh' dr tk acc c kp g od=>⟨h',dr,tk,acc,c,rfl,rfl,λb o e=>kp b o (C9 (Heap.lt_size e)) (Heap.get?_push_of_some _ e),g,od⟩
 refine wpAny_mono key (λfin s' x=>?_) λe s' x=>?_
 ·cases fin with
  | done f=>
   obtain⟨h',dr,tk,acc,c,e,rfl,kp,g,od⟩:=x
   cases e
   show wpAny _ A (load s.heap.objs.size >>= _) _ _ _
   exact wpAny_bind (wpAny_load g (wpAny_pure (h h' dr tk acc.toList kp od)))
  | again c1=>
   refine⟨x.1,codeAny_mono x.2 λq s2 y=>?_⟩
   obtain⟨h',dr,tk,acc,c,rfl,rfl,kp,g,od⟩:=y
   show wpAny _ A (load s.heap.objs.size >>= _) _ _ _
   exact wpAny_bind (wpAny_load g (wpAny_pure (h h' dr tk acc.toList kp od)))
 ·obtain⟨_,_,_,_,_,e',_⟩:=x
  cases e'
end
end L2


namespace L2
open PySem PySem.Spec PySem.Calls PyProof.Rows PyProof.V
def Ah(k:Int):List Int→List Int
 | []=>[k]
 | a::l=>if k<a then k::a::l else if k=a then a::l else a::Ah k l
theorem Ai(k j:Int):∀l:List Int,j∈Ah k l↔j=k∨j∈l
  | []=>by simp[Ah]
  | a::l=>by
    unfold Ah
    split
    · simp
    · split
      · rename_i e
        subst e
        simp
      · rw[C4,Ai k j l,C4]
        constructor
        · rintro(h | h | h)
          · exact .inr (.inl h)
          · exact .inl h
          · exact .inr (.inr h)
        · rintro(h | h | h)
          · exact .inr (.inl h)
          · exact .inl h
          · exact .inr (.inr h)
theorem Tc(k:Int):∀l:List Int,l.Pairwise (·<·)→(Ah k l).Pairwise (·<·)
 | [],_=>by simp[Ah]
 | a::l,h=>by
  obtain⟨h1,h2⟩:=E6.mp h
  unfold Ah
  split
  ·rename_i c
   refine E6.mpr ⟨λx hx=>?_,h⟩
   rcases C4.mp hx with z | z
   ·omega
   ·have:=h1 x z
    omega
  ·split
   ·exact h
   ·refine E6.mpr ⟨λx hx=>?_,Tc k l h2⟩
    rcases(Ai k x l).mp hx with z | z
    ·omega
    ·exact h1 x z
def Vz:List Int→List Int
 | []=>[]
 | a::l=>Ah a (Vz l)
theorem Hq(j:Int):∀ns:List Int,j∈Vz ns↔j∈ns
 | []=>Iff.rfl
 | a::l=>by
  rw[Vz,Ai,Hq j l,C4]
theorem Ph:∀ns:List Int,(Vz ns).Pairwise (·<·)
 | []=>.nil
 | a::l=>Tc a _ (Ph l)
theorem qt{ns ms:List Int}(h:ms.Pairwise (·<·))(m:∀k,k∈ms↔k∈ns):ms=Vz ns:=tG h (Ph ns) λj=>(m j).trans (Hq j ns).symm
theorem Ky(k:Int):∀l:List Int,(Ah k l).length≤l.length+1
 | []=>by simp[Ah]
 | a::l=>by
  unfold Ah
  split
  ·simp
  ·split
   ·simp
   ·have:=Ky k l
    simp only[E7]
    omega
theorem Td:∀ns:List Int,(Vz ns).length≤ns.length
 | []=>B4 _
 | a::l=>by
  have:=Ky a (Vz l)
  have:=Td l
  simp only[Vz,E7]
  omega
theorem Aj{α:Type} [DecidableEq α]:∀{l m:List α},l.Nodup→(∀x∈l,x∈m)→m.length≤l.length→l.Perm m
 | [],m,_,_,h=>by
  have:m=[]:=K4 (by simpa using h)
  subst this
  exact Q4 _
 | a::l,m,hn,hs,hl=>by
  obtain⟨h1,h2⟩:=K0.mp hn
  have ha:=hs a B9
  have e:=List.perm_cons_erase ha
  refine List.Perm.trans (List.Perm.cons a (Aj h2 (λx hx=>?_) ?_)) e.symm
  ·have ne:x≠a:=λz=>by
    rw[z]at hx
    exact h1 hx
   exact(List.mem_erase_of_ne ne).mpr (hs x (B7 _ hx))
  ·rw[List.length_erase_of_mem ha]
   simp only[E7]at hl
   omega
theorem lX(val:Nat→Int):∀i,(firstMet val i).Nodup
 | 0=>by rw[firstMet_zero];exact c9
 | i+1=>by
  rw[firstMet_succ]
  unfold step_dedup
  have ih:=lX val i
  split
  ·exact ih
  ·rename_i c
   refine Y5.mpr ⟨ih,by simp,λx hx y hy=>?_⟩
   rw[C6.mp hy]
   intro z
   subst z
   exact c (O8.mpr ⟨_,hx,by simp⟩)
theorem wI{ns ks ms:List Int}(hk:∀k,(firstMet (λi=>ns.getD i 0) ns.length).any (·==k)=true↔k∈ks)(hl:ks.length=(firstMet (λi=>ns.getD i 0) ns.length).length)(hm:ms.Perm ks)(hs:ms.Pairwise (·≤·)):ms=Vz ns:=by
 have hmem:∀k,k∈ks↔k∈ns:=λk=>by
  rw[←hk,firstMet_any]
  have e:(D6 ns.length).map (λi=>ns.getD i 0)=ns:=by
   refine Q7 (by simp) λi h1 h2=>?_
   simp[B3,h2]
  rw[e,O8]
  exact⟨λ⟨x,hx,q⟩=>by rw[←(beq_iff_eq.mp q)];exact hx,λh=>⟨k,h,by simp⟩⟩
 have nd:ks.Nodup:=by
  have p:=Aj (lX (λi=>ns.getD i 0) ns.length) (m:=ks) (λx hx=>(hk x).mp (O8.mpr ⟨x,hx,by simp⟩)) (by omega)
  exact p.nodup_iff.mp (lX _ _)
 refine qt ?_ λk=>(hm.mem_iff).trans (hmem k)
 have ndm:=hm.nodup_iff.mpr nd
 exact(hs.and ndm).imp λq=>by have:=q.1;have:=q.2;omega
section
variable{X:Cx}{e:Expr}{t:TE}{x y:Str}{p p2 pos pos2:Pos}
theorem RW{T id:String}{r:V→Hp→VK→Prop}(hc:∀(pins:List (Addr×Obj))(s:Shared)(σ:St)(H:Hp)(v:V)(u:Value)(Q:VK),Inv X pins σ H s→RelV v u→r v H Q→wpAny (model X.prog X.w) X.A (call (.type T) [u]) (λu' s'=>wpAny (model X.prog X.w) X.A (call (.builtin id) [u']) (EP X pins σ Q) X.xe s') X.xe s)
  (ha:PE X e t) (hg:Gl X x) (hm:X.mg x=none) (hv:bootBuiltins x=some (.builtin id)) (hg2:Gl X y) (hm2:X.mg y=none) (hv2:bootBuiltins y=some (.type T)) (hn:x ≠ "__name__" := by decide) (hdb:(x==("__debug__" : Str))=false:=by decide) (hn2:y ≠ "__name__" := by decide) (Pj:(y==("__debug__" : Str))=false:=by decide)
  (he:starEach [e] X.env=[(false,eval e X.env)]:=by rfl) (he2:starEach [.Call (.Name y p2) [e] [] pos2] X.env=[(false,eval (.Call (.Name y p2) [e] [] pos2) X.env)]:=by rfl) :
  PE X (.Call (.Name x p) [.Call (.Name y p2) [e] [] pos2] [] pos) (du r t):=by
 intro pins s σ H Q I h
 refine wpAny_Call_Name_kw (jT I hg hm hv ?_ hn hdb)
 refine Q9 ?_ he2 rfl
 rw[he2]
 refine Calls.spliced_cons (wpAny_Call_Name_kw (jT I hg2 hm2 hv2 ?_ hn2 Pj))
 refine G8 ?_ he rfl
 rw[he]
 exact Calls.spliced_cons (eE (ha pins s σ H _ I h) λu s1 ⟨v,H1,I1,r1,q1⟩=>Calls.spliced_nil (eE (hc pins s1 σ H1 v u Q I1 r1 q1) λu' s' z=>Calls.spliced_nil z))
theorem RX{T id:String}{r:V→Hp→VK→Prop}(hc:∀(pins:List (Addr×Obj))(s:Shared)(σ:St)(H:Hp)(v:V)(u:Value)(Q:VK),Inv X pins σ H s→RelV v u→r v H Q→wpAny (model X.prog X.w) X.A (call (.type T) [u]) (λu' s'=>wpAny (model X.prog X.w) X.A (call (.type id) [u']) (EP X pins σ Q) X.xe s') X.xe s)
  (ha:PE X e t) (hg:Gl X x) (hm:X.mg x=none) (hv:bootBuiltins x=some (.type id)) (hg2:Gl X y) (hm2:X.mg y=none) (hv2:bootBuiltins y=some (.type T)) (hn:x ≠ "__name__" := by decide) (hdb:(x==("__debug__" : Str))=false:=by decide) (hn2:y ≠ "__name__" := by decide) (Pj:(y==("__debug__" : Str))=false:=by decide)
  (he:starEach [e] X.env=[(false,eval e X.env)]:=by rfl) (he2:starEach [.Call (.Name y p2) [e] [] pos2] X.env=[(false,eval (.Call (.Name y p2) [e] [] pos2) X.env)]:=by rfl) :
  PE X (.Call (.Name x p) [.Call (.Name y p2) [e] [] pos2] [] pos) (du r t):=by
 intro pins s σ H Q I h
 refine wpAny_Call_Name_kw (jT I hg hm hv ?_ hn hdb)
 refine G8 ?_ he2 rfl
 rw[he2]
 refine Calls.spliced_cons (wpAny_Call_Name_kw (jT I hg2 hm2 hv2 ?_ hn2 Pj))
 refine G8 ?_ he rfl
 rw[he]
 exact Calls.spliced_cons (eE (ha pins s σ H _ I h) λu s1 ⟨v,H1,I1,r1,q1⟩=>Calls.spliced_nil (eE (hc pins s1 σ H1 v u Q I1 r1 q1) λu' s' z=>Calls.spliced_nil z))
theorem Inv.drew{pins:List (Addr×Obj)}{σ:St}{H:Hp}{s:Shared}(J:Inv X pins σ H s)(dr:Drawn):Inv X pins σ H {s with drawn:=dr}:=⟨J.ok,J.os,J.bare,J.base,J.loc,J.cell,J.free,J.nY,J.pin,J.hok,J.len⟩
def YX(K:aA):V→Hp→VK→Prop:=λv H Q=>∃(p:Addr)(ns:List Int),v=.ref p∧lH K H p (ns.map V.int)∧ns.length<64∧∀l,H l=none→Q (.ref l) (upd H l (.lst ((Vz ns).map V.int)))
theorem qu(hc:X.calm=true)(pins:List (Addr×Obj))(s:Shared)(σ:St)(H:Hp)(v:V)(u:Value)(Q:VK)(I:Inv X pins σ H s)(rv:RelV v u)(h:YX X.K v H Q) :
  wpAny (model X.prog X.w) X.A (call (.type "set") [u]) (λu' s'=>wpAny (model X.prog X.w) X.A (call (.builtin "sorted") [u']) (EP X pins σ Q) X.xe s') X.xe s:=by
 obtain⟨p,ns,rfl,hq,h64,q⟩:=h
 cases rv
 obtain⟨its,r,pl,hz⟩:=I.list hq
 have hlen:=r.length
 rw[B5]at hlen
 refine aAu (its:=its.toArray) (ns:=ns) (I.ok.hd hc) pl.isList (by simpa using intsAre_of r) (by rw[B6];unfold scanBound;omega) λh1 tk1 S1 kp1=>?_
 have I1:Inv X pins σ H {s with heap:=h1,toks:=tk1}:=I.kept (t':=tk1) kp1
 have ez:its.toArray.size=ns.length:=by simp[hlen]
 rw[ez]at S1
 have hfl:=firstMet_length_le (λi=>ns.getD i 0) ns.length
 refine Calls.call_function_entry kind_sorted plain_sorted entry_sorted (args_sorted1 _) ?_
 unfold Builtin.«sorted»
 refine wpAny_bind (m:=checkCount "sorted" 1 1 _) (wpAny_pure (wpAny_bind (Kw (A:=X.A.in1) (I.ok.hd hc) S1 (L9 (oF (by omega))) λh2 dr tk2 acc kp2 od=>?_)))
 obtain⟨al,ks,ik,mk⟩:=od
 have hla:ks.length=acc.length:=(IntsAre.length ik).symm
 refine wpAny_bind (wpAny_newList ?_ (by rw[al];exact L9 (oF (by omega))))
 have hoL:(h2.push (seqObj "list" acc.toArray 0)).get? h2.objs.size=some (seqObj "list" acc.toArray 0):=Heap.get?_push_size _ rfl
 refine wpAny_bind (wpAny_holding (wpAny_call_entry slot_list_sort ⟨_,hoL,rfl⟩ entry_list_sort (list_sort_tree hoL ik (by omega) λout ns' a1 a2 a3=>⟨_,rfl,?_⟩) (args_list_sort _)))
 refine wpAny_pure ⟨_,rfl,?_⟩
 obtain⟨e,he⟩:=sortedHeap_at (out:=out) hoL
 have I2:Inv X pins σ H {s with heap:=h2,drawn:=dr,toks:=tk2}:=(I1.kept (t':=tk2) kp2).drew dr
 have hs:H h2.objs.size=none:=I2.hok.fresh (B4 _)
 have hl2:ns'.length=ks.length:=a2.length_eq
 have I3:=I2.laid (t':=tk2) (a:=h2.objs.size) (o:=.lst (ns'.map V.int)) (h':=sortedHeap (h2.push (seqObj "list" acc.toArray 0)) h2.objs.size acc out)
  (λb o eb=>by
   have hlt:=Heap.lt_size eb
   rw[sortedHeap_old (C9 hlt) (by rw[Heap.size_push];exact F8 hlt)]
   exact Heap.get?_push_of_some _ eb) (B4 _)
  ⟨by rw[B5];exact L9 (oF (by omega)),out.toList,e,rN a1,by simpa[seqObj]using he⟩
 rw[wI mk (by omega) a2 a3]at I3
 exact⟨.ref _,_,I3,rfl,q _ hs⟩
def ZC(K:aA):V→Hp→VK→Prop:=λv H Q=>∃(p:Addr)(xs:List V),v=.ref p∧lH K H p xs∧∀l,H l=none→Q (.ref l) (upd H l (.lst xs.reverse))
end
end L2


namespace L2
open PySem PySem.Spec PySem.Calls PyProof.Rows PyProof.V
section
variable{prog:Program}{w:World}{A:Around}{E:Value→Shared→Prop}{s:Shared}{I l:Addr}
theorem Zz{xs:List V}{us:List Value}(r:Vals xs us):Vals xs.reverse us.reverse:=by
 induction r with
 | nil=>exact .nil
 | cons h _ ih=>rw[O5,O5];exact ih.snoc h
theorem ZD:∀{u v:List D},D.bB u=true→D.bB v=true→D.bB (u++v)=true
 | [],v,_,h=>h
 | x::u,v,h1,h2=>by
  unfold D.bB at h1
  rw[D7]at h1
  rw[K7]
  unfold D.bB
  rw[D7]
  exact⟨h1.1,ZD h1.2 h2⟩
theorem Kz:∀{u:List D},D.bB u=true→D.bB u.reverse=true
 | [],h=>h
 | x::u,h=>by
  unfold D.bB at h
  rw[D7]at h
  rw[O5]
  refine ZD (Kz h.2) ?_
  unfold D.bB
  rw[D7]
  exact⟨h.1,by unfold D.bB;rfl⟩
theorem Te{K:aA}{H:Hp}:∀{ds:List D} {xs:List V},bW K H ds xs→bW K H ds.reverse xs.reverse
 | [],xs,h=>by
  unfold bW at h
  subst h
  unfold bW
  rfl
 | d::ds,xs,h=>by
  unfold bW at h
  obtain⟨y,ys,rfl,h1,h2⟩:=h
  rw[O5,O5]
  exact(Te h2).snoc h1
theorem RZ:typeLookup (.type "list_reverseiterator") "__len__" = pure none:=by rw[typeLookup_type,builtinLookup_eq_fast];kernel_rfl
theorem BJ:typeLookup (.type "list_reverseiterator") "__length_hint__" = pure (some (.builtin "list_reverseiterator.__length_hint__")):=by rw[typeLookup_type,builtinLookup_eq_fast];kernel_rfl
theorem BK{Q:Bool→Shared→Prop}(hT:s.TypeIs (.ref I) "list_reverseiterator") (h:∀b,Q b s):wpAny (model prog w) A (Builtin.List.listLengthHint (.ref I)) Q E s:=by
 unfold Builtin.List.listLengthHint
 refine wpAny_bind (wpAny_specialOf hT RZ ?_)
 show wpAny _ A (specialOf (Value.ref I) (Str.ofString "__length_hint__") >>= _) _ _ _
 refine wpAny_bind (wpAny_specialOf hT BJ ?_)
 generalize hid:("list_reverseiterator.__length_hint__" : String)=id0
 wp_delta
 rw[show splitId id0=some ("list_reverseiterator", "__length_hint__")from by subst hid;decide +kernel]
 subst hid
 refine wpAny_bind (wpAny_isInstance (T := "list_reverseiterator") (b:=true) hT (by rw[isSubtype_type];kernel_rfl) (wpAny_ite_split (λz=>absurd z (by decide)) λ_=>wpAny_ite_split (λ_=>?_) λz=>absurd (by decide +kernel) z))
 exact wpAny_ite_split (λz=>absurd z (by decide +kernel)) λ_=>wpAny_pure (h false)
theorem BL{its:Array Value}{Q:Value→Shared→Prop}(hh:A.handled=none)(hl:s.heap.IsList l its)(hz:its.size≤sizeLine)
    (hQ:∀h' tk acc c,(∀b o,s.heap.get? b=some o→h'.get? b=some o)→s.heap.objs.size<h'.objs.size→h'.get? (s.heap.objs.size+1)=some {cls:=.type "list", dict:=none,data:=.seq acc c,slots:=#[]}→acc.toList=its.toList.reverse→Q (.ref (s.heap.objs.size+1)) {s with heap:=h',toks:=tk}) :
    wpAny (model prog w) A (call (.type "reversed") [.ref l]) (λu s'=>wpAny (model prog w) A (call (.type "list") [u]) Q E s') E s:=by
  refine call_reversed_list hl ?_
  have lt:l<s.heap.objs.size:=let ⟨_,e,_⟩:=hl;Heap.lt_size e
  generalize hs1:s.heap.push (revObj l ((its.size:Int)-1))=h1
  have e1:h1.objs.size=s.heap.objs.size+1:=by rw[←hs1,Heap.size_push]
  have k1:∀b o,s.heap.get? b=some o→h1.get? b=some o:=λb o e=>by rw[←hs1];exact Heap.get?_push_of_some _ e
  have st:∀h2:Heap,(∀b o,h1.get? b=some o→h2.get? b=some o)→0≤its.size∧h2.IsRevIter s.heap.objs.size l ((its.size:Int)-1-((0:Nat):Int))∧h2.IsList l its:=λh2 k2=>by
    refine⟨G9 _,⟨_,k2 _ _ (by rw[←hs1];exact Heap.get?_push_size _ rfl),rfl,?_⟩,hl.at λo e=>k2 _ _ (k1 _ _ e)⟩
    simp[revObj]
  refine callType_codes (Q₁:=λobj s1=>obj=.ref h1.objs.size∧s1={s with heap:=h1.push {cls:=.type "list", data:=.seq #[]}}) PySem.F.called_list (PySem.F.typeCall_list_1 _) PySem.F.entry_list_init (code_list_new _ ⟨rfl,rfl⟩) λobj s1 z=>?_
  obtain⟨rfl,rfl⟩:=z
  have g0:(h1.push {cls:=.type "list", data:=.seq #[]}).get? h1.objs.size=some {cls:=.type "list", data:=.seq #[]}:=Heap.get?_push_size _ rfl
  have nI:h1.objs.size≠s.heap.objs.size:=by omega
  have nl:h1.objs.size≠l:=L5 (by rw[e1];exact F8 lt)
  have W:=Walks.listRev (prog:=prog) (w:=w) (A:=A.in1.in1) (by simp[hh]) s.heap.objs.size l (C9 lt) its
  refine⟨⟨_,g0,rfl⟩,PySem.F.args_list_init_2 _ _,?_⟩
  show wpAny _ _ (Builtin.List.listItems (.ref h1.objs.size) >>= λold=>Builtin.List.listUpdate (.ref h1.objs.size) (λ_=>#[]) >>= λ_=>letGo old.toList.reverse >>= λ_=>Builtin.List.listExtendWith (.ref h1.objs.size) (.ref s.heap.objs.size) .none) _ _ _
  unfold Builtin.List.listItems
  refine wpAny_bind (wpAny_bind (wpAny_seqItems g0 rfl (wpAny_pure ?_)))
  show wpAny _ _ (updateSeq h1.objs.size (λ_=>#[]) >>= λ_=>letGo (#[]:Array Value).toList.reverse >>= λ_=>Builtin.List.listExtendWith (.ref h1.objs.size) (.ref s.heap.objs.size) .none) _ _ _
  refine wpAny_bind (wpAny_updateSeq g0 rfl ?_)
  have g2:=Heap.get?_update_self (Obj.mapSeq (λ_=>(#[]:Array Value))) g0 rfl
  refine wpAny_bind (wpAny_letGo ?_)
  generalize hh2:(h1.push {cls:=.type "list", data:=.seq #[]}).update h1.objs.size (Obj.mapSeq (λ_=>(#[]:Array Value)))=h2 at g2
  have k2:∀b o,h1.get? b=some o→h2.get? b=some o:=λb o e=>by
    rw[←hh2]
    exact(Heap.get?_update_other _ _ (L5 (Heap.lt_size e))).trans (Heap.get?_push_of_some _ e)
  have ty:∀h3:Heap,(∀b o,h1.get? b=some o→h3.get? b=some o)→Shared.TypeIs {s with heap:=h3} (.ref s.heap.objs.size) "list_reverseiterator" := λh3 k3=>⟨_,k3 _ _ (by rw[←hs1];exact Heap.get?_push_size _ rfl),rfl⟩
  unfold Builtin.List.listExtendWith
  refine wpAny_bind (wpAny_typeOf (T := "list_reverseiterator") (ty h2 k2) ?_)
  have q1:Builtin.List.listSameRef (.ref h1.objs.size) (.ref s.heap.objs.size)=false:=by simp[Builtin.List.listSameRef,nI]
  have q2:(Value.type "list_reverseiterator" == Value.type "list")=false:=by decide
  have q3:(Value.type "list_reverseiterator" == Value.type "tuple")=false:=by decide
  simp only[q1,q2,q3,V9,K5,if_false]
  refine wpAny_bind (W.self 0 {s with heap:=h2} _ _ (st h2 k2) ?_)
  have nf:h1.objs.size∉[s.heap.objs.size,l]:=by simp[nI,nl]
  have key:∀(h:Heap)(c1 tk:Nat),(∀b o,h1.get? b=some o→h.get? b=some o)→h.get? h1.objs.size=some {cls:=.type "list", data:=.seq #[] c1}→codeAny (model prog w) A.in1 (.builtin "list.extend.loop" ⟨[.ref h1.objs.size,.ref s.heap.objs.size,.none],[]⟩) (wants (λv s'=>v=Value.none∧Q (.ref h1.objs.size) s') E) {s with heap:=h,toks:=tk}:=by
    intro h c1 tk k0 gg
    refine codeAny_extend_loopS W.toS hz _ nf .none its.size 0 _ #[] c1 rfl (G9 _) (st h k0) gg (ItemsOf.nil _) λs' acc c mv g' it=>?_
    rw[Moved.eq_with mv]
    refine⟨rfl,?_⟩
    rw[e1]at g' ⊢
    refine hQ s'.heap s'.toks acc c (λb o e=>mv.heap b o (λz=>?_) (k0 b o (k1 b o e))) ?_ g' ?_
    · rcases C4.mp z with z | z
      · exact absurd (Heap.lt_size e) (by rw[z,e1];exact Nat.not_lt.mpr (M7 _))
      · exact absurd (Heap.lt_size e) (by rw[C6.mp z];exact J4 _)
    · exact Nat.lt_of_succ_lt (Heap.lt_size g')
    · refine O3 λj=>?_
      rcases E3 j acc.size with z | z
      · have e:acc[j]?=some acc[j]:=K1 z
        have z':j<its.size:=by have:=it.1;omega
        have:=it.2 j _ e
        rw[E9,e,←this,List.getElem?_reverse (by simpa using z'),F1,E9]
      · rw[F0 (by simpa using z),F0 (by have:=it.1;simp;omega)]
  refine wpAny_bind (wpAny_holding (BK (ty h2 k2) λb=>?_))
  refine wpAny_ite_split (λ_=>?_) λ_=>wpAny_pure ⟨plainId_quiet N6 _,key h2 _ _ k2 g2⟩
  refine wpAny_bind (wpAny_rule (wpAny_bind ?_))
  show wpAny _ _ (updateSeq h1.objs.size (·.push .none) >>= λ_=>updateSeq h1.objs.size (·.pop)) _ _ _
  refine wpAny_bind (wpAny_updateSeq g2 rfl ?_)
  have g3:=Heap.get?_update_self (Obj.mapSeq (·.push Value.none)) g2 rfl
  refine wpAny_updateSeq (hz:=by seq_fits) g3 rfl ?_
  have g4:=Heap.get?_update_self (Obj.mapSeq (·.pop)) g3 rfl
  refine wpAny_pure ⟨plainId_quiet N6 _,key _ _ _ (λb o e=>?_) g4⟩
  have nb:h1.objs.size≠b:=L5 (Heap.lt_size e)
  exact(Heap.get?_update_other _ _ nb).trans ((Heap.get?_update_other _ _ nb).trans (k2 b o e))
end
section
variable{K:aA}{X:Cx}{e:Expr}{t:TE}{f:FE}{x y:Str}{p p2 pos pos2:Pos}
theorem qw(hc:X.calm=true)(pins:List (Addr×Obj))(s:Shared)(σ:St)(H:Hp)(v:V)(u:Value)(Q:VK)(I:Inv X pins σ H s)(rv:RelV v u)(h:ZC X.K v H Q) :
  wpAny (model X.prog X.w) X.A (call (.type "reversed") [u]) (λu' s'=>wpAny (model X.prog X.w) X.A (call (.type "list") [u']) (EP X pins σ Q) X.xe s') X.xe s:=by
 obtain⟨p,xs,rfl,hq,q⟩:=h
 cases rv
 obtain⟨its,r,pl,hz⟩:=I.list hq
 have hlen:=r.length
 refine BL (I.ok.hd hc) pl.isList (by rw[B6,←hlen];exact hz) λh' tk acc c kp lt g e=>?_
 have hs:H (s.heap.objs.size+1)=none:=I.hok.fresh (M7 _)
 have rr:Vals xs.reverse acc.toList:=by
  rw[e]
  simpa using Zz r
 exact⟨.ref _,_,I.laid (t':=tk) (a:=s.heap.objs.size+1) (o:=.lst xs.reverse) kp (M7 _) ⟨by rw[W7];exact hz,acc.toList,c,rr,by simpa[seqObj]using g⟩,rfl,q _ hs⟩
def qy(φ:D→Option D)(f:FE):FE:=λe=>(f e).bind φ
def Tf:D→Option D
 | .lst ds=>(intsOf ds).bind λns=>if ns.length<64 then some (.lst ((Vz ns).map D.int))else none
 | _=>none
theorem SJ(h:XR K X e t f)(hg:Gl X x)(hm:X.mg x=none)(hv:bootBuiltins x=some (.builtin "sorted")) (hg2:Gl X y) (hm2:X.mg y=none) (hv2:bootBuiltins y=some (.type "set")) (hc:X.calm=true:=by rfl) (hn:x ≠ "__name__" := by decide) (hdb:(x==("__debug__" : Str))=false:=by decide) (hn2:y ≠ "__name__" := by decide) (Pj:(y==("__debug__" : Str))=false:=by decide)
  (he:starEach [e] X.env=[(false,eval e X.env)]:=by rfl) (he2:starEach [.Call (.Name y p2) [e] [] pos2] X.env=[(false,eval (.Call (.Name y p2) [e] [] pos2) X.env)]:=by rfl) :
  XN K X (.Call (.Name x p) [.Call (.Name y p2) [e] [] pos2] [] pos) (du (YX K) t) (qy Tf f):=⟨h.hk,RW (by have:=h.hk;subst this;exact qu hc) h.pe hg hm hv hg2 hm2 hv2 hn hdb hn2 Pj he he2,λσ H e d Q re q k=>by
 obtain⟨d0,q1,q2⟩:=aV q
 unfold Tf at q2
 split at q2
 ·obtain⟨ns,q3,q4⟩:=aV q2
  split at q4
  ·rename_i hl
   cases q4
   refine h.ev σ H H e _ _ (Zn.self K H) re q1 λv H1 Z1 s1 t1 z1 rv=>?_
   obtain⟨p,rfl,r2⟩:=uO q3 (z1.sm.rv _ _ rv)
   exact⟨p,ns,rfl,r2,hl,λl hl=>k _ _ (s1.trans (bF hl _)) ((mU (aN.refl _) (.bB (bR _) (iH.mpr rfl)) hl).back s1)⟩
  ·cases q4
 ·cases q2⟩
def La:D→Option D
 | .lst ds=>if D.bB ds=true then some (.lst ds.reverse)else none
 | _=>none
theorem SM(h:XR K X e t f)(hg:Gl X x)(hm:X.mg x=none)(hv:bootBuiltins x=some (.type "list")) (hg2:Gl X y) (hm2:X.mg y=none) (hv2:bootBuiltins y=some (.type "reversed")) (hc:X.calm=true:=by rfl) (hn:x ≠ "__name__" := by decide) (hdb:(x==("__debug__" : Str))=false:=by decide) (hn2:y ≠ "__name__" := by decide) (Pj:(y==("__debug__" : Str))=false:=by decide)
  (he:starEach [e] X.env=[(false,eval e X.env)]:=by rfl) (he2:starEach [.Call (.Name y p2) [e] [] pos2] X.env=[(false,eval (.Call (.Name y p2) [e] [] pos2) X.env)]:=by rfl) :
  XN K X (.Call (.Name x p) [.Call (.Name y p2) [e] [] pos2] [] pos) (du (ZC K) t) (qy La f):=⟨h.hk,RX (by have:=h.hk;subst this;exact qw hc) h.pe hg hm hv hg2 hm2 hv2 hn hdb hn2 Pj he he2,λσ H e d Q re q k=>by
 obtain⟨d0,q1,q2⟩:=aV q
 unfold La at q2
 split at q2
 ·rename_i ds
  split at q2
  ·rename_i hi
   cases q2
   refine h.ev σ H H e _ _ (Zn.self K H) re q1 λv H1 Z1 s1 t1 z1 rv=>?_
   have r1:=z1.sm.rv _ _ rv
   unfold Rv at r1
   obtain⟨p,xs,rfl,r2,r3⟩:=r1
   exact⟨p,xs,rfl,r2,λl hl=>k _ _ (s1.trans (bF hl _)) ((mU (aN.refl _) (.bB (Kz hi) (Te r3)) hl).back s1)⟩
  ·cases q2
 ·cases q2⟩
end
end L2


namespace L2
open PySem PySem.Spec PySem.Calls PyProof.Rows PyProof.V PySem.W Att
abbrev Small(k:Int):Prop:=Builtin.Int.intBits k≤1048576
theorem BP{ns:List Int}(h:WData.layableAll [WData.list (ns.map WData.int)]=true):∀k∈ns,Small k:=λk hk=>by
 have h1:(WData.list (ns.map WData.int)).layable=true:=by simpa[WData.layableAll]using h
 obtain⟨c,_,w⟩:=layableW_iff.mp h1
 have c':WData.canLayAll (ns.map WData.int)=true:=by simpa[WData.canLay]using c
 have w':WData.weightAll (ns.map WData.int)≤2 ^ 20:=by simpa[WData.weight]using w
 have:=(items_part (E2.mpr ⟨k,hk,rfl⟩) c').2.2
 have e:(WData.int k).weight=Builtin.Int.intBits k:=by simp only[WData.weight,Builtin.Int.intBits]
 rw[e]at this
 exact E5 this w'
theorem Lb{l:OpenLaw}{n:Nat}{q:Program}{loose:List Str}{XP:(Str→Option Value)→Heap→Prop}{YP:World→Heap→Prop}{d:DefRec}(hn:l.most=some n)(hdf:d.params.defaults=[])
  (call:∀(w:World)(s₀ s₁:Shared)(mg mb:Str→Option Value)(fa:Addr)(o:Obj)(pm cd doc:Value)(a:Addr)(vs:List Value)(ns:List Int),Ground q loose [] XP w s₀ mg mb s₁.heap→YP w s₁.heap →
   s₁.heap.get? fa=some o→o.data=.func (docDef d.name d.params d.body d.scope pm cd doc)→s₁.heap.CodeRec cd d.name→mg d.name=some (.ref fa) →
   s₁.heap.get? a=some {cls:=.type "list", data:=.seq vs.toArray}→IntsAre vs ns→ns.length≤n→(∀k∈ns,Small k)→s₁.gens=#[] →
   codeAny (model l.prog w) callerA (.call (.ref fa) ⟨[.ref a],[]⟩) (λr s'=>r=.ok (.ret (.bool true))∧OldK s₁.heap s'.heap∧s'.os=s₁.os∧AllBare s'.gens) s₁) :
  WalkO q loose XP YP l.row.toRowW d [] (λf vs=>a9 f vs):=by
 intro w s₀ s₁ mg mb G Y fa o pm cd doc dV kV ho hd hcd hD hmg hg args vals as hpre hlay hrd hwl hlo
 obtain rfl:dV=.none:=Dflts.none hD hdf
 obtain rfl:kV=.none:=Dflts.noKw hD
 obtain⟨a,vs,ns,rfl,rfl,hobj,hints,hlen⟩:=Vj hn hpre hwl
 refine enter_call (codeAny_mono (call w s₀ s₁ mg mb fa o pm cd doc a vs ns G Y ho (fd_plain hd) hcd hmg hobj hints hlen (BP hlay) hg) λr s' hq=>?_)
 obtain⟨rfl,h2,h3,h4⟩:=hq
 exact⟨.inl ⟨.bool true,.bool true,[],rfl,λ_=>rfl,.bool true,Vk l _,λ_=>⟨List.Pairwise.nil,λ_ hm=>(nomatch hm)⟩⟩,h2,h3,h4⟩
theorem Wa{l:b7}{n k:Nat}{q:Program}{loose:List Str}{XP:(Str→Option Value)→Heap→Prop}{YP:World→Heap→Prop}{d:DefRec}{K:Params→aA}{CX:World→Vb}{sp:World→Sp}{x:Str}(hn:l.most=some n)(hn2:n≤sizeLine)(hdf:d.params.defaults=[])(hr:jU k callerA)
  (hY:∀(w:World)(h:Heap),YP w h→(K w.params).In h)
  (hT:∀(w:World)(h:Heap),YP w h→QG (K w.params) h)
  (F:∀(w:World)(mg:Str→Option Value)(fa:Addr)(h:Heap),(K w.params).In h→h.Ns mainGlobals mg→mg d.name=some (.ref fa)→∃fd:FuncData,(∀(s:Shared)(u:Value),BindsTo s fd ⟨[u],[]⟩ [(x,u)])∧∀base:Heap,(K w.params).In base→base.Ns mainGlobals mg→uH l.prog w (K w.params) mg base (CX w) k fa fd [x] (sp w))
  (hsp:∀(w:World)(H:Hp)(a:Addr)(ns:List Int),ns.length≤n→(∀k∈ns,Small k)→Only H→lH (K w.params) H a (ns.map V.int)→sp w [.ref a] H (λv _=>v=.bl true) λ_ _ _=>False)
  (hCX:∀(w:World)(H:Hp)(s:Shared)(e:Value)(s':Shared),CX w [] H s (λ_ _ _=>False) e s'→False) :
  d8 q loose XP YP l.row.toRowW d [] (λf vs=>a9 f vs):=by
 refine Lb hn hdf λw s₀ s₁ mg mb fa o pm cd doc a vs ns G Y ho hd hcd hmg hobj hints hlen hsm hg=>?_
 have KX:=hY w _ Y
 obtain⟨fd,hb,hF⟩:=F w mg fa _ KX G.T.g hmg
 exact Yn KX (hT w _ Y) G.T.bmain G.T.g G.T.b G.T.builtins G.T.nolimit hg hobj hints (E5 hlen hn2) hr hF hb (λH hO hS=>hsp w H a ns hlen hsm hO hS) λH e s'=>hCX w H s₁ e s'
def spB(K:aA):Sp:=λvs H Q _=>∃(a:Addr)(ns:List Int),vs=[.ref a]∧lH K H a (ns.map V.int)∧ns.length≤63∧(∀k∈ns,Small k)∧∀H',Q (.bl true) H'
theorem Xm.okB{P:Program}{w:World}{K:aA}{mg:Str→Option Value}{base:Heap}{x:Str}{st:Stmt}{N:List Str}{k:Nat}{g:GS}{f:Addr}{fd:FuncData}(F:Xm K x x st f fd)(S:aZ N ["script"] (aJ st))
  (hbody:∀(cdv:Value)(A:Around)(outer:List Env)(s:Shared)(H:Hp)(E:XK),jU k (A.deeper (envOfC x (aJ st) s.heap.objs.size f cdv))→∃t,YB K (yV Nu P w K mg base N x (aJ st) f cdv A outer s H E).JZ (cA st) t g)
  (qz:∀ns:List Int,ns.length≤63→(∀k∈ns,Small k)→fJ N.length 1 g [.lst (ns.map D.int)]=some (.bl true)):uH P w K mg base Nu (k+1) f fd ["script"] (spB K):=by
 refine F.ok S (λvs H Q E h=>?_) (λcdv A outer s H vs Q E hr h=>?_)
 ·obtain⟨a,ns,rfl,_⟩:=h
  rfl
 obtain⟨a,ns,rfl,hS,hl,hb,q⟩:=h
 obtain⟨t,yb⟩:=hbody cdv A outer s H E hr
 have h3:=qz ns hl hb
 have rv:bW K H [.lst (ns.map D.int)] [.ref a]:=by
  unfold bW
  exact⟨_,_,rfl,by unfold Rv;exact⟨a,_,rfl,hS,iH.mpr rfl⟩,by unfold bW;rfl⟩
 refine⟨t,yb.ps,yb.ev H _ _ H ([D.lst (ns.map D.int)].map SD.fro++E8 (N.length-1) SD.no) (wF rv) ?_⟩
 unfold fJ at h3
 rw[if_pos (show [D.lst (ns.map D.int)].length=1 from rfl)]at h3
 cases qq:g ([D.lst (ns.map D.int)].map SD.fro++E8 (N.length-1) SD.no)with
 | ret d'=>
  rw[qq]at h3
  cases h3
  refine λv H' A' s' o=>?_
  have:=Ow.rv _ _ _ o
  unfold Rv at this
  subst this
  exact q _
 | _=>
  rw[qq]at h3
  cases h3
section
variable{K:aA}{X:Cx}{e a b c:Expr}{es:List Expr}{t ta tb te:TE}{f g:FE}{pos:Pos}
def xN(i j:Int):Prop:=Builtin.Int.intBits i≤4000000∧Builtin.Int.intBits j≤4000000
instance (i j:Int):Decidable (xN i j):=by unfold xN;exact inferInstance
theorem xN.ok{i j:Int}(h:xN i j):IntMulOk i j:=PyProof.Rows.mulOk_of_bits h.1 h.2 (by decide)
theorem SN:sU X (binaryOp .Mult) (rI xN λi j=>.int (i*j)):=yp λ_ _ _ _ _ _ _ hc q=>mul_int q hc.ok
def Tg:D→D→Option D:=yH xN λi j=>.int (i*j)
theorem SQ(ha:XR K X a ta f)(hb:XR K X b tb g):XN K X (.BinOp a .Mult b pos) (Fv (rI xN λi j=>.int (i*j)) ta tb) (f2 Tg f g):=zT SN (zQ λ_ _ h=>h) ha hb
theorem Wb{prog:Program}{w:World}{A:Around}{E:Value→Shared→Prop}{s:Shared}{t sl:Addr}{items:Array Value}{vl vu:Value}{lo hi:Option Int}{Q:Value→Shared→Prop}(ht:IsTup s.heap t items)(hs:s.heap.IsSliceOf sl vl vu .none)(pl:IsPart vl lo)(pu:IsPart vu hi)
    (hw:HT.fM items.size 0 lo=0∧HT.fM items.size items.size hi=items.size) (h:Q (.ref t) s):wpAny (model prog w) A (getItem (.ref t) (.ref sl)) Q E s:=by
  obtain⟨os,hos,hcs,hds⟩:=id hs
  have hTs:s.TypeIs (.ref sl) "slice" := ⟨os,hos,hcs⟩
  unfold getItem
  try with_reducible refine wpAny_holding ?_
  first | refine wpAny_bind (wpAny_pure ?_) | skip
  refine wpAny_bind (wpAny_sequenceKey ht.typeIs (by decide) (wpAny_bind (wpAny_callSpecial?_slot (name:=Str.ofString "__getitem__") ht.typeIs I0 (wpAny_call_entry I0 ht.typeIs entry_tuple_getitem ?_ (args_tuple_getitem _ _)))))
  show wpAny _ _ (Builtin.Tuple.tupleItemsOf (.ref t) >>= _) _ _ s
  refine wpAny_bind (tupleItemsOf_ ht (wpAny_bind (wpAny_typeOf hTs ?_)))
  rw[if_pos (by decide)]
  refine wpAny_bind (HT.nZ hs pl pu ?_)
  show wpAny _ _ (if(((HT.fM items.size 0 lo:Nat):Int)==0&&(1:Int)==1&&(HT.fM items.size items.size hi-HT.fM items.size 0 lo)==items.size)=true then _ else _) _ _ s
  rw[if_pos (by rw[hw.1,hw.2];simp)]
  refine wpAny_bind (m:=Builtin.Tuple.tupleIsExact _) ?_
  unfold Builtin.Tuple.tupleIsExact
  refine wpAny_bind (wpAny_typeOf ht.typeIs (wpAny_pure ?_))
  rw[if_pos (by decide)]
  exact wpAny_bind (wpAny_rule (wpAny_pure ⟨_,rfl,wpAny_pure h⟩))
theorem SX(hk:X.K=K):yx X (λx lo hi H Q=>∃a xs,x=.ref a∧mO K H a xs∧(HT.fM xs.length 0 lo=0∧HT.fM xs.length xs.length hi=xs.length→Q (.ref a) H)∧∀p,H p=none→Q (.ref p) (upd H p (.tup (yZ xs lo hi)))):=by
 subst hk
 intro pins s σ H x v vl vu lo hi sl Q I rx hs pl pu h
 obtain⟨a,xs,rfl,hx,q1,q2⟩:=h
 by_cases hw:HT.fM xs.length 0 lo=0∧HT.fM xs.length xs.length hi=xs.length
 ·cases rx
  obtain⟨its,r,ht,hz⟩:=I.tuple hx
  have hlen:its.toArray.size=xs.length:=by rw[B6];exact r.length.symm
  exact⟨"tuple", _,I0.lookup,ht.typeIs,Wb ht hs pl pu (by rw[hlen];exact hw) ⟨.ref a,H,I,rfl,q1 hw⟩⟩
 ·exact iz pins s σ H (.ref a) v vl vu lo hi sl Q I rx hs pl pu ⟨a,xs,rfl,hx,hw,q2⟩
def BR(f:FE)(l h:FO):FE:=λe=>(f e).bind λd=>(l e).bind λlo=>(h e).bind λhi=>match d with
 | .tup ds=>if D.bB ds=true then some (.tup (kE ds lo hi))else none
 | _=>none
variable{lo hi:Option Expr}{tl th:TO}{fl fh:FO}{p2:Pos}
theorem BV{ds:List D}(h:D.bB ds=true)(lo hi:Option Int):D.bB (kE ds lo hi)=true:=by
 have dr:∀(n:Nat)(u:List D),D.bB u=true→D.bB (u.drop n)=true:=by
  intro n
  induction n with
  | zero=>exact λu h=>h
  | succ n ih=>
   intro u h
   cases u with
   | nil=>exact h
   | cons x u=>
    unfold D.bB at h
    rw[D7]at h
    exact ih u h.2
 have tk:∀(n:Nat)(u:List D),D.bB u=true→D.bB (u.take n)=true:=by
  intro n
  induction n with
  | zero=>exact λu h=>by rw[N7];unfold D.bB;rfl
  | succ n ih=>
   intro u h
   cases u with
   | nil=>exact h
   | cons x u=>
    unfold D.bB at h
    rw[D7]at h
    rw[R7]
    unfold D.bB
    rw[D7]
    exact⟨h.1,ih u h.2⟩
 exact tk _ _ (dr _ _ h)
theorem Wc(h:XR K X e t f)(hl:XO K X lo tl fl)(hu:XO K X hi th fh):XN K X (.Subscript e (.Slice lo hi none p2) pos) (tSl (λx lo hi H Q=>∃a xs,x=.ref a∧mO K H a xs∧(HT.fM xs.length 0 lo=0∧HT.fM xs.length xs.length hi=xs.length→Q (.ref a) H)∧∀p,H p=none→Q (.ref p) (upd H p (.tup (yZ xs lo hi)))) t tl th) (BR f fl fh):=⟨h.hk,yX (SX h.hk) h.pe hl.po hu.po,λσ H e d Q re q k=>by
 unfold BR at q
 obtain⟨d0,q1,qa⟩:=aV q
 obtain⟨lo,q2,qb⟩:=aV qa
 obtain⟨hi,q3,qc⟩:=aV qb
 clear q qa qb
 split at qc
 ·rename_i ds
  split at qc
  ·rename_i qi
   cases qc
   refine h.ev σ H H e _ _ (Zn.self K H) re q1 λv H1 Z1 s1 t1 z1 rv=>hl.ev σ H1 e lo _ (re.same s1) q2 λH2 s2=>hu.ev σ H2 e hi _ (re.same (s1.trans s2)) q3 λH3 s3=>?_
   have Zj:=s1.trans (s2.trans s3)
   have wz:=(z1.sm.trans (s2.trans s3)).rv _ _ rv
   have aBD:=wz
   unfold Rv at wz
   obtain⟨p,xs,rfl,r2,r3⟩:=wz
   refine⟨p,xs,rfl,r2,λw=>k _ _ Zj ?_,λl hl=>k _ _ (Zj.trans (bF hl _)) (((Gr (.bB (BV qi lo hi) (Gy lo hi r3)) hl):Gm K H3 _ _ _).back Zj)⟩
   have e:kE ds lo hi=ds:=by
    rw[r3.length]at w
    unfold kE
    rw[w.1,w.2]
    simp
   rw[e]
   exact .fU (by unfold D.fU;exact qi) aBD
  ·cases qc
 ·cases qc⟩
end
end L2


namespace L2
open PySem PySem.Spec PySem.Calls PyProof.Rows PyProof.V
section
variable{K:aA}{X:Cx}
def ZF:List V→Hp→VK→Prop:=λxs H Q=>∃c,xs=[.bl c]∧Q (.int (if c then 1 else 0)) H
theorem Th:gW X (.type "int") ZF:=by
 intro pins s σ H xs us Q I r h
 obtain⟨c,rfl,q⟩:=h
 obtain⟨u,rfl,rx⟩:=vals1 r
 cases rx
 exact call_int_bool ⟨.int _,H,I.kept (t':=s.toks+1) λ_ _ e=>e,⟨_,rfl⟩,q⟩
def Ld:List D→Option D
 | [.bl c]=>some (.int (if c then 1 else 0))
 | _=>none
theorem Ti:pY K ZF Ld:=λvs H ds d Q rs q k=>by
 unfold Ld at q
 split at q
 ·cases q
  obtain⟨v,rfl,r⟩:=lU rs
  unfold Rv at r
  subst r
  exact⟨_,rfl,k _ H (aN.refl _) (.fU rfl (by unfold Rv;rfl))⟩
 ·cases q
end
end L2


namespace L2
open PySem PySem.Spec PySem.Calls PyProof.Rows PyProof.V
section
variable{X:Cx}{pins:List (Addr×Obj)}{σ:St}{H:Hp}{s:Shared}{h':Heap}
end
section
variable{K:aA}{X:Cx}{e a b c:Expr}{es:List Expr}{t ta tb te:TE}{f g fe:FE}{tc:TT}{fc:FT}{pos p p2:Pos}{x:Str}
end
end L2


namespace L2
open PySem PySem.Spec PySem.Calls PyProof.Rows PyProof.V
section
variable{K:aA}{B H:Hp}{env:EN}{σ:St}{i:Nat}{v:V}{d:D}
end
section
variable{K:aA}{X:Cx}{st:Stmt}{sts:List Stmt}{t u tb:TS}{g g1 g2:GS}{e a b c:Expr}{es:List Expr}{te ta t0:TE}{f f0 fa fb:FE}{gk:FE}{tA:TA}{fs:FA}{tc:TT}{fc:FT}{pos:Pos}{i:Nat}{π:FP}
def Ak(i:Nat)(f:FE)(g:GS):GS:=λenv=>match f (rE env)with
 | some (.lst xs)=>qC i g xs env
 | _=>.bad
theorem TF(h:Gq K te f)(hb:DS K tb g):DS K (Nj (ni K te) (dI i) tb) (Ak i f g):=λB E σ H env r p=>by
 unfold Ak at p
 split at p
 ·rename_i xs q
  refine .inl (h σ H (rE env) _ _ r.r q λv H1 s n=>?_)
  obtain⟨A,a,bb⟩:=r
  obtain⟨N,o,fr⟩:=n
  have cl:=fX a
  have ap:Apart N A:=λx z1 z2=>by
   obtain⟨⟨w,ew⟩,_⟩:=cl x z2
   rw[fr x z1]at ew
   cases ew
  have cl1:∀x,A x→tE H1 x:=λx hx=>(fX (a.mono λe D y _ qq=>qq.same s (gB s λx q=>.inl q)) x hx).2
  have rz:Rv K (out H1 A) (.lst xs) v:=o.out ap cl1
  have oh:Rel K (out H1 A) env σ H1:=⟨A,a.mono λe D y _ qq=>qq.same s (gB s λx q=>.inl q),aN.refl _⟩
  have bz:aN B (out H1 A):=bb.trans (gB s λx q=>.inl q)
  have p':=p.mono bz
  unfold Rv at rz
  obtain⟨pa,vs,rfl,sq,rvs⟩:=rz
  have hl:=rvs.length
  refine⟨pa,rfl,⟨vs,(gA H1 A).seq sq⟩,?_⟩
  generalize out H1 A=Z1 at *
  refine Gh Jt (λk σ2 H2=>∃gC,Rel K Z1 gC σ2 H2∧Ac K Z1 E (qC i g (xs.drop k) gC)) ⟨env,oh,by simpa using p'⟩ (λk σ2 H2 _ ⟨gC,⟨A2,a2,b2⟩,_⟩=>(b2.trans (gA H2 A2)).seq sq) ?_ ?_
  ·rintro k x σ2 H2 hx ⟨gC,r2,p2⟩
   have hk:k<xs.length:=by
    obtain⟨h1,_⟩:=B8.mp hx
    omega
   rw[N4 hk]at p2
   unfold qC at p2
   obtain⟨x',hx',rx⟩:=rvs.get (B0 hk)
   rw[hx]at hx'
   cases hx'
   split at p2
   ·rename_i hlen
    obtain⟨A2,a2,b2⟩:=r2
    have r3:Rel K Z1 (gC.set i (.fro xs[k])) (σ2.set i (some x)) H2:=Hf a2 b2 hlen (aN.refl _) (aN.refl _) (Gz a2) (b2.rv _ _ rx)
    refine hb Z1 _ _ H2 _ r3 ?_
    split at p2
    ·rename_i env' q2;rw[q2];exact λσ' H' r'=>⟨env',r',p2⟩
    ·rename_i env' q2;rw[q2];exact λσ' H' r'=>⟨env',r',p2⟩
    ·rename_i env' q2;rw[q2];exact p2
    ·rename_i n1 n2 n3
     cases q2:g (gC.set i (.fro xs[k]))with
     | next e=>exact absurd q2 (n1 e)
     | cont e=>exact absurd q2 (n2 e)
     | brk e=>exact absurd q2 (n3 e)
     | ret d=>rw[q2]at p2;exact p2
     | bad=>rw[q2]at p2;exact p2
     | rete d e=>rw[q2]at p2;exact p2
   ·exact p2.elim
  ·rintro σ2 H2 ⟨gC,r2,p2⟩
   rw[hl,T6]at p2
   exact p2 σ2 H2 r2
 ·exact p.elim
theorem TJ{tg:Expr}{body:List Stmt}(hp:PassesOwn (model X.prog X.w) X.A X.env X.xe)(Zr:X.calm=true)(h:XN K X e te f)(hg:PG X tg (dI i))(hb:YB K X body tb g)(hs:∀x,foldedSetIterable e X.env x=pure x:=by intro _;rfl):YS K X (.For tg e body [] pos) (Nj (ni K te) (dI i) tb) (Ak i f g):=
 ⟨Nk hp Zr (cN (tg:=tg) h.r).pi hg hb.ps hs,TF h.ev hb.ev⟩
end
end L2


namespace L2
open PySem PySem.Spec PySem.Calls PyProof.Rows PyProof.V
section
variable{α β:Type}{R:α→Fp→β→Prop}
end
section
variable{K:aA}{B H H':Hp}{env:EN}{σ:St}{i:Nat}{v:V}{d:D}
end
section
variable{K:aA}{X:Cx}{st:Stmt}{sts:List Stmt}{t u tb:TS}{g g1 g2:GS}{e a b c o:Expr}{es:List Expr}{te ta t0 tv:TE}{f f0 fa fb:FE}{gk:FE}{tA:TA}{fs:FA}{tc:TT}{fc:FT}{pos apos:Pos}{i:Nat}{π:FP}
structure aC7(K:aA)(C:Addr)(nm:List Str):Prop where
 cl:Cls K C
 no:∀f∈nm,ie K C f
end
section
variable{K:aA}{B H:Hp}{env:EN}{σ:St}
end
section
variable{K:aA}{X:Cx}{st:Stmt}{sts:List Stmt}{t u tb:TS}{g g1 g2:GS}{e a b c o:Expr}{es:List Expr}{te ta t0 tv:TE}{f f0 fa fb:FE}{gk:FE}{tA:TA}{fs:FA}{tc:TT}{fc:FT}{pos apos:Pos}{i:Nat}{π:FP}
end
end L2


namespace L2
open PySem PySem.Spec PySem.Calls PyProof.Rows PyProof.V
section
variable{K:aA}{B H H':Hp}{env:EN}{σ:St}{i:Nat}{p:List Step}{d0 d:D}
end
abbrev GM:=EN→Option (D×EN)
def EvM(K:aA)(t:TE)(g:GM):Prop:=∀(B:Hp)(σ:St)(H:Hp)(env:EN)(d:D)(env':EN)(Q:VK),Rel K B env σ H→g env=some (d,env')→(∀v H',Rel K B (env'++[.own d]) (σ++[some v]) H'→Q v H')→t σ H Q
structure XM(K:aA)(X:Cx)(e:Expr)(t:TE)(g:GM):Prop where
 hk:X.K=K
 pe:PE X e t
 ev:EvM K t g
abbrev GB:=EN→Option (Bool×EN)
def aAv(K:aA)(t:TT)(g:GB):Prop:=∀(B:Hp)(σ:St)(H:Hp)(env:EN)(b:Bool)(env':EN)(Q:Bool→Hp→Prop),Rel K B env σ H→g env=some (b,env')→(∀H',Rel K B env' σ H'→Q b H')→t σ H Q
structure XTM(K:aA)(X:Cx)(e:Expr)(t:TT)(g:GB):Prop where
 hk:X.K=K
 pt:PT X e t
 ev:aAv K t g
structure XWM(K:aA)(X:Cx)(e:Expr)(t:TT)(g:GB):Prop where
 hk:X.K=K
 pw:PW X e t
 ev:aAv K t g
abbrev FA2:=DE→DE→Option (List D)
def aBE(K:aA)(t:TA)(fs:FA2):Prop:=∀(A1:Fp)(σ:St)(H:Hp)(eF eZ:DE)(ds:List D)(Q:List V→Hp→Prop),(∀x,A1 x→qK H x)→sX K H eF σ→sX K (out H A1) eZ σ→fs eF eZ=some ds →
 (∀vs H',aN H H'→bW K (out H' A1) ds vs→Q vs H')→t σ H Q
structure XAB(K:aA)(X:Cx)(es:List Expr)(t:TA)(fs:FA2):Prop where
 hk:X.K=K
 pa:PA X es t
 ev:aBE K t fs
section
variable{K:aA}{X:Cx}{st:Stmt}{sts:List Stmt}{t u tb:TS}{g:GM}{g1 g2:GS}{e a b c o:Expr}{es rest:List Expr}{te ta t0 tv:TE}{f f0 fa fb:FE}{tA:TA}{fs:FA2}{tc td:TT}{fc:FT}{gb gc:GB}{pos apos:Pos}{i:Nat}{π:FP}
structure aC9(P:Program)(w:World)(K:aA)(mg:Str→Option Value)(base:Heap)(C:Addr)(m:Str)(k n:Nat)(df:Bool)(sp:Sp):Prop where
 ex:∃f fd ps,ps.length=n∧uH P w K mg base Nu k f fd ps sp∧Binds K fd ps []∧(df=true→Binds K fd ps [Value.none])∧Meth K C m f
structure aDa(P:Program)(w:World)(K:aA)(mg:Str→Option Value)(base:Heap)(x:Str)(C:Addr)(k n:Nat)(sp:Sp):Prop where
 ex:∃f fd ps,ps.length=n∧uH P w K mg base Nu k f fd ps sp∧Binds K fd ps []∧Mk K C f∧mg x=some (.ref C)
end
end L2


namespace L2
open PySem PySem.Spec PySem.Calls PyProof.Rows PyProof.V
def aBF(K:aA)(dN:Bool)(dV:Value):Prop:=match dN with
 | false=>dV=.none
 | true=>∃T o n,dV=.ref T∧K.lookup T=some o∧o.data=.seq #[.none] n
structure aAw(K:aA)(f:Addr)(m q:Str)(st:Stmt)(dN:Bool):Prop where
 ex:∃(oc:Value)(od:Option Addr)(dV kV doc pm:Value)(an:Option Addr)(cdv ct:Value)(osl:Array (Option Value)),
  K.lookup f=some ⟨oc,od,.func (G4 m q (eU st) (cA st) (aJ st) dV kV doc pm an cdv ct),osl⟩∧F7 K cdv q=true∧aBF K dN dV
structure aDb(K:aA)(C:Addr)(m q:Str)(st:Stmt)(dN:Bool):Prop where
 ex:∃f,aAw K f m q st dN∧Meth K C m f
structure aDc(K:aA)(mg:Str→Option Value)(x:Str)(C:Addr)(q:Str)(st:Stmt):Prop where
 ex:∃f,aAw K f "__init__" q st false∧Mk K C f∧mg x=some (.ref C)
def HB(x q:Str)(st:Stmt)(ps:List Str):Prop:=∀(kV doc pm:Value)(an:Option Addr)(cdv ct:Value)(us:List Value),us.length=ps.length→bindArgs (G4 x q (eU st) (cA st) (aJ st) .none kV doc pm an cdv ct) ⟨us,[]⟩=pure (ps.zip us)
def HBD(x q:Str)(st:Stmt)(ps:List Str):Prop:=∀(T:Addr)(kV doc pm:Value)(an:Option Addr)(cdv ct:Value)(us:List Value),(us.length=ps.length→∃k,bindArgs (G4 x q (eU st) (cA st) (aJ st) (.ref T) kV doc pm an cdv ct) ⟨us,[]⟩=seqItems? (Value.ref T) >>= k∧k (some #[Value.none])=pure (ps.zip us)) ∧
 (us.length+1=ps.length→∃k,bindArgs (G4 x q (eU st) (cA st) (aJ st) (.ref T) kV doc pm an cdv ct) ⟨us,[]⟩=seqItems? (Value.ref T) >>= k∧k (some #[Value.none])=pure (ps.zip (us++[Value.none])))
def HBs(dN:Bool)(x q:Str)(st:Stmt)(ps:List Str):Prop:=match dN with
 | false=>HB x q st ps
 | true=>HBD x q st ps
section
variable{P:Program}{w:World}{K:aA}{mg:Str→Option Value}{base:Heap}
end
section
variable{K:aA}{X:Cx}{st:Stmt}{g g1 g2 gb:GS}{e a b c o:Expr}{es rest:List Expr}{te ta tb tc t0 tv:TE}{f f0 fa fb fc:FE}{tA:TA}{fs:FA}{pos apos:Pos}{i j:Nat}{π:FP}{tbs:TS}
end
end L2


namespace L2
open PySem PySem.Spec PySem.Calls PyProof.Rows PyProof.V
section
variable{K:aA}{B H:Hp}{env:EN}{σ:St}
end
abbrev FK:=DE→Option (List Key)
def EvK(K:aA)(t:TE)(fk:FK):Prop:=∀(σ:St)(H:Hp)(e:DE)(k:List Key)(Q:VK),sX K H e σ→fk e=some k→(∀b H',aN H H'→H' b=some (.tup (k.map kV))→Q (.ref b) H')→t σ H Q
structure XKt(K:aA)(X:Cx)(e:Expr)(t:TE)(fk:FK):Prop where
 hk:X.K=K
 pe:PE X e t
 ev:EvK K t fk
section
variable{K:aA}{X:Cx}{st:Stmt}{e a b c o:Expr}{es rest:List Expr}{te ta tb tc t0 tv:TE}{f fa fb:FE}{g:FK}{gd:FE}{tA:TA}{fs:FA}{pos apos:Pos}{i j:Nat}{π:FP}{tbs:TS}
def uR:List Key→Option (List Int)
 | []=>some []
 | .inl k::ks=>(uR ks).map λr=>k::r
 | .inr _::_=>none
theorem Le:∀{ks:List Key} {ns:List Int},uR ks=some ns→ks=ns.map D8
 | [],ns,h=>by unfold uR at h;cases h;rfl
 | .inl k::ks,ns,h=>by
  unfold uR at h
  obtain⟨r,h1,rfl⟩:=iT h
  rw[Le h1]
  rfl
 | .inr _::ks,ns,h=>by unfold uR at h;cases h
theorem Ek:∀ns:List Int,uR (ns.map D8)=some ns
 | []=>rfl
 | n::ns=>by rw[D4];unfold uR;rw[Ek ns];rfl
def uT:List D→Option D
 | [.dk ks _]=>(uR ks).bind λns=>if ns.length<64 then some (.lst ((sortI ns).map D.int))else none
 | _=>none
theorem Pk:pY K (λxs H Q=>∃(p:Addr)(kvs:List (Key×V))(ks:List Int),xs=[.ref p]∧Rd H p (.dK kvs)∧kvs.map (·.1)=ks.map D8∧ks.length<64∧∀l ms,H l=none→rising ks ms→Q (.ref l) (upd H l (.lst (ms.map V.int)))) uT:=λvs H ds d Q rs q k=>by
 unfold uT at q
 split at q
 ·rename_i ks es
  obtain⟨ns,q1,q2⟩:=aV q
  split at q2
  ·rename_i hl
   cases q2
   obtain⟨v,rfl,r⟩:=lU rs
   unfold Rv at r
   obtain⟨p,xs,rfl,r2,r3,r4⟩:=r
   refine⟨p,_,ns,rfl,r2,?_,hl,λl ms hl hr=>?_⟩
   ·rw[←Le q1]
    exact T5 (by omega)
   rw[Gx hr]
   exact k _ _ (bF hl _) (mU (aN.refl _) (.bB (bR _) (iH.mpr rfl)) hl)
  ·cases q2
 ·cases q
def aBG(K:aA)(t:TA)(fs:FA)(i:Nat):Prop:=∀(σ:St)(H:Hp)(e:DE)(ds:List D)(v:V)(Q:List V→Hp→Prop),sX K H e σ→fs e=some ds→σ[i]?=some (some v)→(∀vs H',aN H H'→Cr K H H' ds vs→Q (vs++[v]) H')→t σ H Q
structure XBm(K:aA)(X:Cx)(es:List Expr)(t:TA)(fs:FA)(i:Nat):Prop where
 hk:X.K=K
 pa:PA X es t
 ev:aBG K t fs i
end
end L2


namespace L2
open PySem PySem.Spec PySem.Calls PyProof.Rows PyProof.V
section
variable{K:aA}{X:Cx}{st:Stmt}{e a b c o:Expr}{es rest:List Expr}{te ta tb tc t0 tv:TE}{f fa fb g:FE}{gk:FK}{gd:FE}{tA:TA}{fs:FA}{pos apos:Pos}{i j:Nat}{π:FP}{tbs:TS}{gm:GM}
end
end L2
namespace L2
open PySem PySem.Spec PySem.Calls PyProof.Rows PyProof.V
end L2


namespace L2
open PySem PySem.Spec PySem.Calls PyProof.Rows PyProof.V
section
variable{K:aA}{X:Cx}{e stx:Expr}{te ts:TE}{f g:FE}{pos p2:Pos}
end
end L2


namespace L2
open PySem PySem.Spec PySem.Calls PyProof.Rows PyProof.V
abbrev FE2:=DE→DE→Option D
def EvZ(K:aA)(t:TE)(f:FE2):Prop:=∀{N:Fp}(σ:St)(H Z:Hp)(eF eZ:DE)(d:D)(Q:VK),Zn K N Z H→sX K H eF σ→sX K Z eZ σ→f eF eZ=some d →
 (∀v H' Z',aN H H'→aN Z Z'→Zn K N Z' H'→Rv K Z' d v→Q v H')→t σ H Q
def aBH(K:aA)(t:TA)(f:FA2):Prop:=∀{N:Fp}(σ:St)(H Z:Hp)(eF eZ:DE)(ds:List D)(Q:List V→Hp→Prop),Zn K N Z H→sX K H eF σ→sX K Z eZ σ→f eF eZ=some ds →
 (∀vs H' Z',aN H H'→aN Z Z'→Zn K N Z' H'→bW K Z' ds vs→Q vs H')→t σ H Q
structure XZ(K:aA)(X:Cx)(e:Expr)(t:TE)(f:FE2):Prop where
 hk:X.K=K
 pe:PE X e t
 ev:EvZ K t f
structure XZA(K:aA)(X:Cx)(es:List Expr)(t:TA)(f:FA2):Prop where
 hk:X.K=K
 pa:PA X es t
 ev:aBH K t f
section
variable{K:aA}{X:Cx}{e a b:Expr}{es:List Expr}{te ta tb:TE}{f:FE}{g h:FE2}{tA:TA}{fs:FA2}{pos:Pos}{i:Nat}
end
end L2


namespace L2
open PySem PySem.Spec PySem.Calls PyProof.Rows PyProof.V
inductive Ar where
  | ch (i:Nat) | rd (f:FE) | nw (f:FE)
def chA:List Ar→List Nat
 | []=>[]
 | .ch i::as=>i::chA as
 | .rd _::as=>chA as
 | .nw _::as=>chA as
def rdA:List Ar→DE→DE→Option (List D)
 | [],_,_=>some []
 | .ch _::as,eF,eZ=>rdA as eF eZ
 | .rd f::as,eF,eZ=>(f eZ).bind λd=>(rdA as eF eZ).map λr=>d::r
 | .nw f::as,eF,eZ=>(f eF).bind λd=>(rdA as eF eZ).map λr=>d::r
def Tj(K:aA)(Z:Hp)(σ:St):List Ar→List D→List V→Prop
 | [],ds,vs=>ds=[]∧vs=[]
 | .ch i::as,ds,vs=>∃v r,vs=v::r∧σ[i]?=some (some v)∧Tj K Z σ as ds r
 | .rd _::as,ds,vs=>∃d dr v r,ds=d::dr∧vs=v::r∧Rv K Z d v∧Tj K Z σ as dr r
 | .nw _::as,ds,vs=>∃d dr v r,ds=d::dr∧vs=v::r∧Rv K Z d v∧Tj K Z σ as dr r
def VsA(σ:St):List Nat→List V→Prop
 | [],vs=>vs=[]
 | j::js,vs=>∃v r,vs=v::r∧σ[j]?=some (some v)∧VsA σ js r
section
variable{K:aA}{X:Cx}{e:Expr}{es:List Expr}{te:TE}{f:FE}{tA:TA}{as:List Ar}{pos:Pos}{i:Nat}
def aBI(K:aA)(t:TA)(as:List Ar):Prop:=∀(A1:Fp)(σ:St)(H:Hp)(eF eZ:DE)(ds:List D)(cv:List V)(Q:List V→Hp→Prop),(∀x,A1 x→qK H x)→sX K H eF σ→sX K (out H A1) eZ σ→VsA σ (chA as) cv→rdA as eF eZ=some ds →
 (∀vs H',aN H H'→Tj K (out H' A1) σ as ds vs→Q vs H')→t σ H Q
structure XAC(K:aA)(X:Cx)(es:List Expr)(t:TA)(as:List Ar):Prop where
 hk:X.K=K
 pa:PA X es t
 ev:aBI K t as
end
section
variable{K:aA}{H H' Z Z' B:Hp}{σ:St}
end
section
variable{K:aA}{X:Cx}{e:Expr}{es:List Expr}{tA:TA}{as:List Ar}{pos pf:Pos}
end
section
variable{P:Program}{w:World}{K:aA}{mg:Str→Option Value}{base:Heap}
end
section
variable{K:aA}{X:Cx}{a b:Expr}{rest:List Expr}{ta tb:TE}{g h:GM}{f:FE}{pos:Pos}
end
end L2


namespace L2
open PySem PySem.Spec PySem.Calls PyProof.Rows PyProof.V
theorem BW(a d:Value):argsOk "max" ⟨[a],[("default", d)]⟩:=by unfold argsOk;kernel_rfl
section
variable{prog:Program}{w:World}{A:Around}{R:Result→Shared→Prop}{I:Addr}{fp wr:List Addr}{n:Nat}{P:Nat→Value→Prop}{St:Nat→Heap→Prop}{kw:List (Str×Value)}
theorem Wd(W:Walks prog w A.in1 I fp wr n P St)(bt:Nat→Nat→Bool)(hcmp:CmpOf prog w A.in1 .Gt P bt)(S:Addr)(hSf:S∉fp) :
  ∀(k j:Nat)(s:Shared)(vb:Value)(c:Nat),n-(j+1)=k→j+1≤n→St (j+1) s.heap→P (argBest bt j) vb →
  s.heap.get? S=some {cls:=.type "list", dict:=none,data:=.seq #[vb,vb] c,slots:=#[]} →
  (∀v h' tk,P (argBest bt (n-1)) v→(∀b o,b∉wr→b≠S→s.heap.get? b=some o→h'.get? b=some o)→R (.ok (.ret v)) {s with heap:=h',toks:=tk}) →
  codeAny (model prog w) A (.builtin "max.loop" ⟨[.ref I,.none,.ref S],kw⟩) R s:=by
 have hSw:S∉wr:=λh=>hSf (W.sub _ h)
 have hname:(toString "max" ++ toString ".loop" : String) = "max.loop" := by decide
 intro k
 induction k with
 | zero=>
  intro j s vb c hk hj hst hb hS hR
  have e:j+1=n:=by omega
  subst e
  refine codeAny_builtin F.entry_max_loop ?_
  rw[Around.under_plainId F.plain_max_loop _]
  show wpAny _ A.in1 (seqItems? (.ref S) >>= _) _ _ s
  refine wpAny_bind (wpAny_seqItems hS rfl ?_)
  show wpAny _ A.in1 (tryCatch (pyNext (.ref I)) _ >>= _) _ _ s
  refine wpAny_bind (wpAny_tryCatch (W.done s _ _ hst λh1 tk k1=>?_))
  have g1:=k1 S _ hSw hS
  show wpAny _ A.in1 (updateSeq S (λ_=>#[]) >>= _) _ _ _
  exact wpAny_bind (wpAny_updateSeq g1 rfl (wpAny_bind (wpAny_letGo (wpAny_pure (hR vb _ tk hb λb o q1 q2 q3=>(Heap.get?_update_other _ _ (Ne.symm q2)).trans (k1 b o q1 q3))))))
 | succ k ih=>
  intro j s vb c hk hj hst hb hS hR
  have lt:j+1<n:=by omega
  refine codeAny_builtin F.entry_max_loop ?_
  rw[Around.under_plainId F.plain_max_loop _]
  show wpAny _ A.in1 (seqItems? (.ref S) >>= _) _ _ s
  refine wpAny_bind (wpAny_seqItems hS rfl ?_)
  show wpAny _ A.in1 (tryCatch (pyNext (.ref I)) _ >>= _) _ _ s
  refine wpAny_bind (wpAny_tryCatch (W.item (j+1) s _ _ lt hst λv h1 tk hv TQ k1=>?_))
  have g1:=k1 S _ hSw hS
  show wpAny _ A.in1 (tryCatch (holding [v,v] (richCompare .Gt v vb >>= _)) _ >>= _) _ _ _
  refine wpAny_bind (wpAny_tryCatch (wpAny_holding (wpAny_bind (hcmp (j+1) (argBest bt j) v vb _ _ _ hv hb ?_))))
  refine wpAny_bind (wpAny_holding (wpAny_truthy_bool ?_))
  refine wpAny_bind (wpAny_letGo (wpAny_pure ?_))
  cases q:bt (j+1) (argBest bt j)with
  | true=>
   simp only[if_true]
   refine wpAny_bind (wpAny_updateSeq g1 rfl (wpAny_bind (wpAny_letGo ?_)))
   rw[hname]
   refine wpAny_pure ⟨plainId_quiet F.plain_max_loop _,ih (j+1) _ v _ (by omega) lt (W.frame _ _ _ TQ λb q1 o q2=>?_) (by simp only[argBest,q,if_true];exact hv) (Heap.get?_update_self _ g1 rfl) λv' h2 tk2 q1 q2=>?_⟩
   ·exact(Heap.get?_update_other _ _ (λz:S=b=>hSf (by rw[z];exact q1))).trans q2
   ·exact hR v' h2 tk2 q1 λb o z1 z2 z3=>q2 b o z1 z2 ((Heap.get?_update_other _ _ (Ne.symm z2)).trans (k1 b o z1 z3))
  | false=>
   simp only[K5,if_false]
   refine wpAny_bind (wpAny_letGo ?_)
   rw[hname]
   refine wpAny_pure ⟨plainId_quiet F.plain_max_loop _,ih (j+1) _ vb c (by omega) lt TQ (by simp only[argBest,q,K5,if_false];exact hb) g1 λv' h2 tk2 q1 q2=>?_⟩
   exact hR v' h2 tk2 q1 λb o z1 z2 z3=>q2 b o z1 z2 (k1 b o z1 z3)
theorem Pn{dv:Value}(W:Walks prog w A.in1 I fp wr n P St)(bt:Nat→Nat→Bool)(hcmp:CmpOf prog w A.in1 .Gt P bt)(S:Addr)(hSf:S∉fp){s:Shared}{c:Nat}(hst:St 0 s.heap)
  (hS:s.heap.get? S=some {cls:=.type "list", dict:=none,data:=.seq #[] c,slots:=#[]})
  (h0:n=0→∀h' tk,(∀b o,b∉wr→b≠S→s.heap.get? b=some o→h'.get? b=some o)→R (.ok (.ret dv)) {s with heap:=h',toks:=tk})
  (hR:0<n→∀v h' tk,P (argBest bt (n-1)) v→(∀b o,b∉wr→b≠S→s.heap.get? b=some o→h'.get? b=some o)→R (.ok (.ret v)) {s with heap:=h',toks:=tk}) :
  codeAny (model prog w) A (.builtin "max.loop" ⟨[.ref I,.none,.ref S],[("default", dv)]⟩) R s:=by
 have hSw:S∉wr:=λh=>hSf (W.sub _ h)
 have hname:(toString "max" ++ toString ".loop" : String) = "max.loop" := by decide
 refine codeAny_builtin F.entry_max_loop ?_
 rw[Around.under_plainId F.plain_max_loop _]
 show wpAny _ A.in1 (seqItems? (.ref S) >>= _) _ _ s
 refine wpAny_bind (wpAny_seqItems hS rfl ?_)
 show wpAny _ A.in1 (tryCatch (pyNext (.ref I)) _ >>= _) _ _ s
 rcases X5 n with e | hn
 ·subst e
  refine wpAny_bind (wpAny_tryCatch (W.done s _ _ hst λh1 tk k1=>?_))
  exact wpAny_bind (wpAny_rule (wpAny_pure (h0 rfl h1 tk λb o q1 q2 q3=>k1 b o q1 q3)))
 ·refine wpAny_bind (wpAny_tryCatch (W.item 0 s _ _ hn hst λv h1 tk hv TQ k1=>?_))
  have g1:=k1 S _ hSw hS
  show wpAny _ A.in1 (updateSeq S (λ_=>#[v,v]) >>= _) _ _ _
  refine wpAny_bind (wpAny_updateSeq g1 rfl ?_)
  rw[hname]
  refine wpAny_pure ⟨plainId_quiet F.plain_max_loop _,Wd W bt hcmp S hSf _ 0 _ v _ rfl hn (W.frame _ _ _ TQ λb q1 o q2=>?_) hv (Heap.get?_update_self _ g1 rfl) λv' h2 tk2 q1 q2=>?_⟩
  ·exact(Heap.get?_update_other _ _ (λz:S=b=>hSf (by rw[z];exact q1))).trans q2
  ·exact hR hn v' h2 tk2 q1 λb o z1 z2 z3=>q2 b o z1 z2 ((Heap.get?_update_other _ _ (Ne.symm z2)).trans (k1 b o z1 z3))
end
section
variable{prog:Program}{w:World}{A:Around}{E:Value→Shared→Prop}{s:Shared}
theorem We{x dv:Value}{Q:Value→Shared→Prop}
    (h:wpAny (model prog w) A.in1 (pyIter x) (λit s2=>∃I fp wr n P St bt,it=.ref I∧Walks prog w A.in1 I fp wr n P St∧St 0 s2.heap∧(∀b∈fp,b<s2.heap.objs.size)∧CmpOf prog w A.in1 .Gt P bt ∧
      (n=0→∀h' tk,(∀b o,b∉wr→s2.heap.get? b=some o→h'.get? b=some o)→Q dv {s2 with heap:=h',toks:=tk}) ∧
      (0<n→∀v h' tk,P (argBest bt (n-1)) v→(∀b o,b∉wr→s2.heap.get? b=some o→h'.get? b=some o)→Q v {s2 with heap:=h',toks:=tk})) E s) :
    wpAny (model prog w) A (call (.builtin "max") [x] [("default", dv)]) Q E s:=by
  have hname:(toString "max" ++ toString ".loop" : String) = "max.loop" := by decide
  have key:wpAny (model prog w) A.in1 (Builtin.«max» ⟨[x],[("default", dv)]⟩) (λfin s'=>match fin with
      | .done f=>(match (Except.ok f:Result)with | .ok (.ret v)=>Q v s' | .ok _=>False | .error e=>E e s')
      | .again c'=>c'.quiet=true∧codeAny (model prog w) A c' (λr s'=>match r with | .ok (.ret v)=>Q v s' | .ok _=>False | .error e=>E e s') s') E s:=by
    show wpAny _ A.in1 (Builtin.Builtins.bindParams "max" ["key", "default"] 0 ⟨[],[("default", dv)]⟩ >>= _) _ _ s
    refine wpAny_bind (wpAny_of_eq (show Builtin.Builtins.bindParams "max" ["key", "default"] 0 ⟨[],[("default", dv)]⟩=pure [none,some dv]from rfl) ?_)
    refine wpAny_bind (wpAny_pure ?_)
    refine wpAny_bind (wpAny_mono h (λit s2 h2=>?_) λ_ _ e=>e)
    obtain⟨I,fp,wr,n,P,St,bt,rfl,W,hst,hfp,hcmp,hQ0,hQ⟩:=h2
    refine wpAny_bind (wpAny_newObj_type ?_)
    have hSf:s2.heap.objs.size∉fp:=λhm=>J4 _ (hfp _ hm)
    rw[hname]
    refine wpAny_pure ⟨plainId_quiet F.plain_max_loop _,Pn W bt hcmp s2.heap.objs.size hSf (W.frame _ _ _ hst λb _ o e=>Heap.get?_push_of_some _ e) (Heap.get?_push_size _ rfl) (λz h' tk hk=>?_) λz v h' tk hP hk=>?_⟩
    · exact hQ0 z h' tk λb o hbw e=>hk b o hbw (C9 (Heap.lt_size e)) (Heap.get?_push_of_some _ e)
    · exact hQ z v h' tk hP λb o hbw e=>hk b o hbw (C9 (Heap.lt_size e)) (Heap.get?_push_of_some _ e)
  have ha:=BW x dv
  refine wpAny_call (codeAny_call_builtin F.plain_max F.entry_max ?_)
  simp only[checkBuiltinCall,F.kind_max]
  cases hsig:Manifest.signature? "max" with
  | none=>exact wpAny_pure key
  | some sig=>
    simp only[argsOk,hsig]at ha
    have h2:Bind.checkArgs "max" sig ⟨[x],[("default", dv)]⟩=pure ():=ha
    show wpAny _ A.in1 (Bind.checkArgs "max" sig ⟨[x],[("default", dv)]⟩) _ _ s
    rw[h2]
    exact wpAny_pure key
end
section
variable{K:aA}{X:Cx}{e e2:Expr}{te t2:TE}{f g:FE}{x:Str}{p pos kp:Pos}
def Lf(K:aA):R2:=λa b H Q=>∃(q:Addr)(ns:List Int)(i:Int),a=.ref q∧b=.int i∧lH K H q (ns.map V.int)∧(ns=[]→Q (.int i) H)∧(0<ns.length→∀m,Ae ns m→Q (.int m) H)
theorem rm(hc:X.calm=true)(pins:List (Addr×Obj))(s:Shared)(σ:St)(H:Hp)(a b:V)(u v:Value)(Q:VK)(I:Inv X pins σ H s)(ra:RelV a u)(rb:RelV b v)(h:Lf X.K a b H Q) :
  wpAny (model X.prog X.w) X.A (call (.builtin "max") [u] [("default", v)]) (EP X pins σ Q) X.xe s:=by
 obtain⟨p,ns,i,rfl,rfl,hq,q0,q⟩:=h
 cases ra
 obtain⟨t0,rfl⟩:=rb
 obtain⟨its,rv,pl,hz⟩:=I.list hq
 have hL:=pl.isList
 have hn:=rv.length
 rw[B5]at hn
 have hlt:p<s.heap.objs.size:=by obtain⟨_,e,_⟩:=hL;exact Heap.lt_size e
 have at_:∀(i:Nat)(v:Value),its.toArray[i]?=some v→∃t,v=.int (ns.getD i 0) t∧i<ns.length:=λi v e=>by
  have e':its[i]?=some v:=by simpa using e
  have hi:=(B8.mp e').1
  obtain⟨u,eu,ru⟩:=rv.get (i:=i) (x:=.int (ns.getD i 0)) (by rw[C8,B3,B0 (show i<ns.length by omega)];rfl)
  rw[e']at eu
  cases eu
  obtain⟨t,rfl⟩:=ru
  exact⟨t,rfl,by omega⟩
 refine We (wpAny_pyIter_list hL ?_)
 refine⟨s.heap.objs.size,[s.heap.objs.size,p],[s.heap.objs.size],its.toArray.size,_,_,λi j=>decide (ns.getD i 0 > ns.getD j 0),rfl,Walks.list (A:=X.A.in1) (I.ok.hd hc) _ p (C9 hlt) _,
  ⟨⟨_,Heap.get?_push_size _ rfl,rfl,rfl⟩,hL.push _⟩,λb hb=>?_,λi j vi vj s' Q' E' hi hj hQ=>?_,λz h' tk hk=>?_,λz v h' tk hP hk=>?_⟩
 ·show b<(s.heap.push _).objs.size
  rw[Heap.size_push]
  rcases C4.mp hb with e | hb
  ·rw[e];exact M6 _
  ·rw[C6.mp hb];exact F8 hlt
 ·obtain⟨t1,rfl,_⟩:=at_ i vi hi
  obtain⟨t2,rfl,_⟩:=at_ j vj hj
  exact(W6 (by exact hQ):wpAny (model X.prog X.w) X.A.in1 (compareOp .Gt (.int _ t1) (.int _ t2)) Q' E' s')
 ·rw[B6]at z
  exact⟨.int i,H,I.kept (Gi hk),⟨t0,rfl⟩,q0 (K4 (by omega))⟩
 ·obtain⟨t,rfl,hi⟩:=at_ _ v hP
  rw[B6]at z
  rw[B6,←hn]at hi ⊢
  obtain⟨h1,h2⟩:=wG ns (ns.length-1) (by omega)
  refine⟨.int _,H,I.kept (Gi hk),⟨t,rfl⟩,q (by omega) _ ⟨?_,λa ha=>?_⟩⟩
  ·rw[B3,B0 hi]
   exact O9 _
  ·obtain⟨i,hi',rfl⟩:=M5 ha
   have z:=h2 i (by omega)
   rw[show ns.getD i 0=ns[i]from by rw[B3,B0 hi'];rfl]at z
   exact z
theorem TV(hc:X.calm=true)(hg:Gl X x)(hm:X.mg x=none)(hv:bootBuiltins x=some (.builtin "max")) (ha:PE X e te) (hb:PE X e2 t2) (hn:x ≠ "__name__" := by decide) (hdb:(x==("__debug__" : Str))=false:=by decide)
  (he:starEach [e] X.env=[(false,eval e X.env)]:=by rfl):PE X (.Call (.Name x p) [e] [⟨some "default", e2,kp⟩] pos) (Fv (Lf X.K) te t2):=by
 intro pins s σ H Q I h
 refine wpAny_Call_Name_kw (jT I hg hm hv ?_ hn hdb)
 have ha':PA X [e] (mR te vO):=eQ ha iZ he
 have hb':PK X [⟨some "default", e2,kp⟩] (mR t2 vO):=NT hb iu
 refine T7 (eE (ha' pos pins s σ H (λvs H1=>match vs with | [a]=>t2 σ H1 λb H2=>Lf X.K a b H2 Q | _=>False) I h) λus s1 ⟨vs,H1,I1,r1,q1⟩=>?_) (by rw[he];rfl) (by rw[he];rfl)
 match vs,q1 with
 | [a],q1=>
  obtain⟨u,rfl,ra⟩:=vals1 r1
  refine eE (hb' pos pins s1 σ H1 (λvs H2=>match vs with | [b]=>Lf X.K a b H2 Q | _=>False) I1 q1) λws s2 ⟨zs,H2,I2,rz,q2⟩=>?_
  match zs,q2 with
  | [b],q2=>
   obtain⟨v,rfl,rb⟩:=vals1 rz
   exact rm hc pins s2 σ H2 a b u v Q I2 ra rb q2
def Tn(a b:D):Option D:=match a,b with
 | .lst ds,.int i=>(intsOf ds).map λns=>.int (if ns=[]then i else wH ns)
 | _,_=>none
theorem TX(h:XR K X e te f)(h2:XR K X e2 t2 g)(hg:Gl X x)(hm:X.mg x=none)(hv:bootBuiltins x=some (.builtin "max")) (hc:X.calm=true:=by rfl) (hn:x ≠ "__name__" := by decide) (hdb:(x==("__debug__" : Str))=false:=by decide)
  (he:starEach [e] X.env=[(false,eval e X.env)]:=by rfl):XN K X (.Call (.Name x p) [e] [⟨some "default", e2,kp⟩] pos) (Fv (Lf K) te t2) (f2 Tn f g):=⟨h.hk,by have:=h.hk;subst this;exact TV hc hg hm hv h.pe h2.pe hn hdb he,λσ H e d Q re q k=>by
 obtain⟨d1,q1,q⟩:=aV q
 obtain⟨d2,q2,q⟩:=aV q
 refine h.ev σ H H e _ _ (Zn.self K H) re q1 λv H1 Z1 s1 t1 z1 rv=>h2.ev σ H1 H1 e _ _ (Zn.self K H1) (re.same s1) q2 λu H2 Z2 s2 t2 z2 ru=>?_
 have rv:=s2.rv _ _ (z1.sm.rv _ _ rv)
 have ru:=z2.sm.rv _ _ ru
 unfold Tn at q
 split at q
 ·obtain⟨ns,q3,rfl⟩:=iT q
  obtain⟨p,rfl,r2⟩:=uO q3 rv
  unfold Rv at ru
  refine⟨p,ns,_,rfl,ru,r2,λz=>?_,λz m hm=>?_⟩
  ·rw[if_pos z]at k
   exact k _ H2 (s1.trans s2) (.fU rfl (by unfold Rv;rfl))
  ·rw[if_neg (λw=>by rw[w]at z;cases z),←Eh hm]at k
   exact k _ H2 (s1.trans s2) (.fU rfl (by unfold Rv;rfl))
 ·cases q⟩
end
end L2


namespace L2
open PySem PySem.Spec PySem.Calls PyProof.Rows PyProof.V
section
variable{X:Cx}
end
section
variable{K:aA}{X:Cx}{a b e:Expr}{ta tb te:TE}{f g:FE}{i:Nat}{π:FP}{pos apos cpos:Pos}{m:Str}
end
end L2


namespace L2
open PySem PySem.Spec PySem.Calls PyProof.Rows PyProof.V
def rn(ks:List Key)(vs:List V):List (V×V):=(ks.zip vs).map λkv=>(kV kv.1,kv.2)
def aBJ(K:aA)(t:List (TE×TE))(ks:List Key)(is:List Nat)(fs:FA):Prop:=∀(σ:St)(H:Hp)(e:DE)(ds:List D)(xs:List V)(Q:List (V×V)→Hp→Prop),sX K H e σ→fs e=some ds→xs.length=is.length →
 (∀(k i:Nat),is[k]?=some i→∃x,xs[k]?=some x∧σ[i]?=some (some x))→(∀vs H',aN H H'→Cr K H H' ds vs→Q (rn ks (xs++vs)) H')→Nt t σ H Q
structure XDm(K:aA)(X:Cx)(p:Pos)(keys:List (Option Expr))(vals:List Expr)(t:List (TE×TE))(ks:List Key)(is:List Nat)(fs:FA):Prop where
 hk:X.K=K
 pps:PPs X p keys vals t
 ev:aBJ K t ks is fs
section
variable{K:aA}{X:Cx}{st:Stmt}{e:Expr}{vals:List Expr}{keys:List (Option Expr)}{te:TE}{f:FE}{fs:FA}{pos p p1:Pos}{i j:Nat}{t:List (TE×TE)}{ks:List Key}{is:List Nat}{x:Str}
end
section
variable{X:Cx}{K:aA}{x y:Str}{p p2 pos pos2:Pos}{a b:Expr}{t:TA}{fs:FA}
end
end L2


namespace L2
open PySem PySem.Spec PySem.Calls PyProof.Rows PyProof.V
section
variable{K:aA}{X:Cx}{a e:Expr}{ta te:TE}{f:FE}{π:FP}{i:Nat}{m:Str}{apos cpos pos:Pos}
end
end L2


namespace L2
open PySem PySem.Spec PySem.Calls PyProof.Rows PyProof.V
section
variable{K:aA}{X:Cx}{a b e:Expr}{es:List Expr}{ta tb te t:TE}{f g:FE}{tA:TA}{fs:FA}{pos apos cpos p2:Pos}{m:Str}
structure aCq(mg:Str→Option Value)(x:Str)(i:Str):Prop where
 ex:∃t,mg x=some (.str i t)
def ZG(i j:Int):Prop:=0<j∧j.natAbs.log2<9000
instance:∀i j,Decidable (ZG i j):=λi j=>by unfold ZG;exact inferInstance
end
section
variable{P:Program}{w:World}{K:aA}{tg:Expr}
end
section
variable{K:aA}{X:Cx}{tg e l:Expr}{t tl:TE}{f:FE}
end
end L2


namespace L2
open PySem PySem.Spec PySem.Calls PyProof.Rows PyProof.V
section
variable{K:aA}{X:Cx}{a b c e:Expr}{ta tb tc te t:TE}{f g fa fb fc:FE}{pos apos cpos:Pos}{m:Str}
end
end L2


namespace L2
open PySem PySem.Spec PySem.Calls PyProof.Rows PyProof.V
section
variable{K:aA}{B H H':Hp}{env:EN}{σ:St}{i j:Nat}{v:V}{d:D}
end
end L2


namespace L2
open PySem PySem.Spec PySem.Calls PyProof.Rows PyProof.V
abbrev aAx(h:Heap)(l:List Env):Heap:=Z8 h (frs l)
structure Fl(l:List Env)(s1:Shared)(e:Addr)(cls:Value)(s':Shared):Prop where
 fly:∃a0,Heap.FlyingW (aAx s1.heap l) l e cls a0 s'.heap
 up:s1.heap.UpToSlots s'.heap
 os:s'.os=s1.os
 bare:AllBare s'.gens
def CX1(P:Program)(w:World):Vb:=λouter H s E ev s'=>∃e cls H' s1,ev=.ref e∧s1.os=s.os∧AllBare s1.gens∧Un (frs outer) [] H H' s.heap s1.heap∧tD P w H' s1.heap∧Fl outer s1 e cls s'∧E cls none H'
section
variable{P:Program}{w:World}{l:List Env}{s1 s':Shared}{e:Addr}{cls:Value}{H:Hp}{base:Heap}
end
section
variable{X:Cx}{pins:List (Addr×Obj)}{σ:St}{H:Hp}{s s1 s':Shared}{e:Addr}{cls ev:Value}{E:XK}
end
section
variable{P:Program}{w:World}{env:Env}{outer:List Env}{L e:Addr}{cls a0:Value}{s0 s1:Shared}{H0 H:Hp}{E:XK}{base h':Heap}{s2:Shared}
end
section
variable{P:Program}{w:World}{K:aA}{mg:Str→Option Value}{base:Heap}{N:List Str}{qual:Str}{scope:Scope}{f:Addr}{cd:Value}{A:Around}{outer:List Env}{s0:Shared}{H0:Hp}{E:XK}
end
end L2


namespace L2
open PySem PySem.Spec PySem.Calls PyProof.Rows PyProof.V
abbrev GZ:=EN→Option Nat
def DZ(K:aA)(κ:Nat→Addr)(E:XK)(t:TS)(z:GZ):Prop:=∀(B:Hp)(D:Ends)(σ:St)(H:Hp)(env:EN)(i:Nat),Rel K B env σ H→z env=some i→(∀H',aN B H'→E (.ref (κ i)) none H')→t D σ H
structure YZ(K:aA)(κ:Nat→Addr)(X:Cx)(E:XK)(st:Stmt)(t:TS)(z:GZ):Prop where
 ps:PS X st t
 ev:DZ K κ E t z
structure YZB(K:aA)(κ:Nat→Addr)(X:Cx)(E:XK)(st:List Stmt)(t:TS)(z:GZ):Prop where
 ps:Iw X st t
 ev:DZ K κ E t z
structure aDh(P:Program)(w:World)(K:aA)(mg:Str→Option Value)(base:Heap)(x:Str)(k:Nat)(n:Nat)(sp:Sp):Prop where
 ex:∃f fd ps,ps.length=n∧uH P w K mg base (CX1 P w) k f fd ps sp∧Binds K fd ps []∧L0 K (.ref f)=true∧mg x=some (.ref f)
structure aCr(P:Program)(w:World)(K:aA)(mg:Str→Option Value)(base:Heap)(C:Addr)(m:Str)(k n:Nat)(df:Bool)(sp:Sp):Prop where
 ex:∃f fd ps,ps.length=n∧uH P w K mg base (CX1 P w) k f fd ps sp∧Binds K fd ps []∧(df=true→Binds K fd ps [Value.none])∧Meth K C m f
section
variable{K:aA}{κ:Nat→Addr}{X:Cx}{E:XK}{st:Stmt}{sts rest:List Stmt}{t u:TS}{z z1 z2:GZ}{g:GS}{c e o:Expr}{es:List Expr}{te ta:TE}{tA:TA}{tc:TT}{fc:FT}{f:FE}{fs:FA}{pos apos:Pos}{m:Str}
def PE1(X:Cx)(pins:List (Addr×Obj))(σ:St)(e:Expr)(t:TE):Prop:=∀(s:Shared)(H:Hp)(Q:VK),Inv X pins σ H s→t σ H Q→wpAny (model X.prog X.w) X.A (eval e X.env) (EP X pins σ Q) X.xe s
def PS1(X:Cx)(pins:List (Addr×Obj))(σ:St)(st:Stmt)(t:TS):Prop:=∀(s:Shared)(H:Hp)(D:Ends),Inv X pins σ H s→t D σ H→wpAny (model X.prog X.w) X.A (exec st X.env) (SP X pins D) X.xe s
def ZJ(CX:Vb)(X:Cx)(pins:List (Addr×Obj))(σ:St)(E:XK):Prop:=∀(H:Hp)(s:Shared)(e:Value)(s':Shared),Inv X pins σ H s→CX X.stack H s E e s'→X.xe e s'
structure XRz(K:aA)(κ:Nat→Addr)(X:Cx)(E:XK)(e:Expr)(t:TE)(z:DE→Option Nat):Prop where
 pe:∀(pins:List (Addr×Obj))(σ:St),ZJ (CX1 X.prog X.w) X pins σ E→PE1 X pins σ e t
 ev:∀(σ:St)(H:Hp)(de:DE)(i:Nat)(Q:VK),sX K H de σ→z de=some i→(∀H',aN H H'→E (.ref (κ i)) none H')→t σ H Q
end
section
variable{P:Program}{w:World}{K:aA}{mg:Str→Option Value}{base:Heap}{κ:Nat→Addr}
end
section
variable{K:aA}{κ:Nat→Addr}{X:Cx}{E:XK}{z:GZ}{g:GS}{pos:Pos}
end
end L2


namespace L2
open PySem PySem.Spec PySem.Calls PyProof.Rows PyProof.V
abbrev aAy:List Value:=[.type "ValueError", .type "Exception", .type "BaseException", .type "object"]
structure ExF(K:aA)(mg:Str→Option Value)(x:Str)(C:Addr):Prop where
 mg:mg x=some (.ref C)
 ok:PySem.W.excIn K C aAy "ValueError.__new__" = true
section
variable{P:Program}{w:World}{K:aA}{mg:Str→Option Value}{base:Heap}{N:List Str}{qual:Str}{scope:Scope}{f:Addr}{cd:Value}{A:Around}{outer:List Env}{s0:Shared}{H0:Hp}{E:XK}{κ:Nat→Addr}
 {x:Str} {C:Addr} {np cpos pos:Pos} {e:Expr} {es:List Expr} {tA:TA}
end
abbrev Cx.tr(X:Cx)(pn:List (Addr×Obj))(Ex:Value→Shared→Prop):Cx:={X with pn:=pn,xe:=Ex}
abbrev Cx.hand(X:Cx)(pn:List (Addr×Obj))(e:Addr):Cx:={X with pn:=pn,A:=X.A.mark (some (.ref e)),calm:=false,xe:=λ_ _=>False}
section
variable{X:Cx}{pins Xp pn:List (Addr×Obj)}{σ:St}{H:Hp}{s s':Shared}{Ex:Value→Shared→Prop}{e:Addr}{D:Ends}{fl:Flow}
end
abbrev aAz:=Nat→Nat→Bool
section
variable{K:aA}{κ:Nat→Addr}{X:Cx}{sub:aAz}{n nj:Nat}{z:GZ}{g:GS}{st:Stmt}{pos:Pos}
def gAs(k:Nat)(g:GS):GS:=λenv=>if k<env.length then(match g (env.set k .no)with
 | .next env'=>if k<env'.length then .next (env'.set k .no)else .bad
 | _=>.bad)else .bad
structure YE(K:aA)(X:Cx)(k:Nat)(e:Addr)(sts:List Stmt)(t:TS)(g:GS):Prop where
 ps:Iw X sts t
 ev:∀(B:Hp)(D:Ends)(σ:St)(H:Hp)(env:EN),Rel K B env σ H→σ[k]?=some (some (.ref e))→Ac K B D (g env)→t D σ H
inductive HK(K:aA)(κ:Nat→Addr)(X:Cx)(n i:Nat):List ExceptHandler→List (Nat×GS)→Prop
 | nil:HK K κ X n i [] []
 | cons {x:Str} {np hp:Pos} {b₀:Stmt} {suite:List Stmt} {rest:List ExceptHandler} {j:Nat} {gh:GS} {r:List (Nat×GS)} (hm:X.mg x=some (.ref (κ j))) (hg:Gl X x) (hd:(x==("__debug__" : Str))=false)
   (hs:∀(pn:List (Addr×Obj))(e:Addr),∃t,YB K (X.hand pn e) (b₀::suite) t gh) (hr:HK K κ X n i rest r):HK K κ X n i (.ExceptHandler (some (.Name x np)) none (b₀::suite) hp::rest) ((j,gh)::r)
 | as {x nm:Str} {np hp:Pos} {b₀:Stmt} {suite:List Stmt} {rest:List ExceptHandler} {j k:Nat} {gh:GS} {r:List (Nat×GS)} (hm:X.mg x=some (.ref (κ j))) (hg:Gl X x) (hd:(x==("__debug__" : Str))=false) (hN:X.N.Nodup) (hk:X.N[k]?=some nm) (hl:X.env.scope.names.lookup nm=some .local)
   (hs:∀(pn:List (Addr×Obj))(e:Addr)(oe:Obj),i<n→oe.cls=.ref (κ i)→(e,oe)∈pn→∃t,YE K (X.hand pn e) k e (b₀::suite) t gh) (hr:HK K κ X n i rest r):HK K κ X n i (.ExceptHandler (some (.Name x np)) (some nm) (b₀::suite) hp::rest) ((j,gAs k gh)::r)
structure ZS(K:aA)(κ:Nat→Addr)(X:Cx)(E:XK)(st:Stmt)(t:TS)(z:GZ):Prop where
 ps:∀(pins:List (Addr×Obj))(σ:St),ZJ (CX1 X.prog X.w) X pins σ E→PS1 X pins σ st t
 ev:∀(B:Hp)(D:Ends)(σ:St)(H:Hp)(env:EN)(i:Nat),Rel K B env σ H→z env=some i→(∀H',aN H H'→E (.ref (κ i)) none H')→t D σ H
end
end L2


namespace L2
open PySem PySem.Spec PySem.Calls PyProof.Rows PyProof.V
section
variable{K:aA}{X:Cx}{κ:Nat→Addr}{pos p:Pos}
structure XE(K:aA)(X:Cx)(k:Nat)(ea:Addr)(e:Expr)(t:TE)(d:D):Prop where
 pe:PE X e t
 ev:∀(σ:St)(H:Hp)(Q:VK),σ[k]?=some (some (.ref ea))→(∀v H',aN H H'→Gm K H H' d v→Q v H')→t σ H Q
end
section
variable{K:aA}{X:Cx}{g:GS}{pos:Pos}
end
end L2


namespace L2
open PySem PySem.Spec PySem.Calls PyProof.Rows PyProof.V
section
variable{K:aA}{X:Cx}{pos p0:Pos}
end
end L2


namespace L2
open PySem PySem.Spec PySem.Calls PyProof.Rows PyProof.V Builtin Builtin.ObjectAttr Builtin.Getset_descriptor
section
variable{P:Program}{w:World}{A:Around}{E:Value→Shared→Prop}{s:Shared}{K:aA}{x D:Addr}{ox:Obj}{od:Option Obj}
structure aDl(K:aA)(D:Addr):Prop where
 ga:L8 K (.ref D) "__getattribute__" = some (some (.builtin "BaseException.__getattribute__"))
 gt:L8 K (.ref D) "__getattr__" = some none
 cl:L8 K (.ref D) "__class__" = some (some (.builtin "object.__class__"))
 sp:S5 K (.builtin "object.__class__") "__get__" = some (some (.builtin "getset_descriptor.__get__"))
 tk:Z9 K (.builtin "object.__class__")=some true
 mr:d5 K D (.type "object")=some true
 bx:PySem.W.subIn K (.ref D) (.type "BaseException")=some true
 ct:(PySem.W.clsIn K D).isSome=true
end
section
variable{K:aA}{X:Cx}{κ:Nat→Addr}{pos p:Pos}
structure XEn(K:aA)(X:Cx)(k:Nat)(ea:Addr)(e:Expr)(t:TE)(f:FE):Prop where
 hk:X.K=K
 pe:PE X e t
 ev:∀(σ:St)(H:Hp)(de:DE)(d:D)(Q:VK),sX K H de σ→σ[k]?=some (some (.ref ea))→f de=some d→(∀v H',aN H H'→Gm K H H' d v→Q v H')→t σ H Q
structure XEB(K:aA)(X:Cx)(k:Nat)(ea:Addr)(es:List Expr)(t:TA)(fs:FA):Prop where
 hk:X.K=K
 pa:PA X es t
 ev:∀(σ:St)(H:Hp)(de:DE)(ds:List D)(Q:List V→Hp→Prop),sX K H de σ→σ[k]?=some (some (.ref ea))→fs de=some ds→(∀vs H',aN H H'→Cr K H H' ds vs→Q vs H')→t σ H Q
end
end L2


namespace L2
open PySem PySem.Spec PySem.Calls PyProof.Rows PyProof.V
section
variable{P:Program}{w:World}{K:aA}{mg:Str→Option Value}{base:Heap}{κ:Nat→Addr}
end
section
variable{K:aA}{κ:Nat→Addr}{X:Cx}{E:XK}{pos:Pos}
end
end L2


namespace L2
open PySem PySem.Spec PySem.Calls PyProof.Rows PyProof.V
section
variable{K:aA}{X:Cx}{e:Expr}{t:TE}{f:FE}{pos:Pos}
end
end L2


set_option maxHeartbeats 1000000
namespace L2
open PySem PySem.Spec PySem.Calls PyProof.Rows PyProof.V
section
variable{K:aA}{X:Cx}{e:Expr}{t:TE}{f:FE}{pos p2:Pos}
def aAA(z:Str)(lo hi:Option Int):Prop:=(∀i∈lo.toList,0≤i)∧(∀j∈hi.toList,0≤j)∧HT.fM z.length 0 lo≤HT.fM z.length z.length hi∧z.length≤100000
instance:∀z lo hi,Decidable (aAA z lo hi):=λz lo hi=>by unfold aAA;exact inferInstance
end
end L2


namespace L2
open PySem PySem.Spec PySem.Calls PyProof.Rows PyProof.V
section
variable{K:aA}{X:Cx}{pos:Pos}
variable{κ:Nat→Addr}{sub:aAz}{n nj:Nat}
end
end L2


namespace L2
open PySem PySem.Spec PySem.Calls PyProof.Rows PyProof.V
section
variable{K:aA}{X:Cx}
end
end L2


namespace L2
open PySem PySem.Spec PySem.Calls PyProof.Rows PyProof.V
section
variable{K:aA}{X:Cx}{a e0 eM:Expr}{es:List Expr}{t0 tM:TE}{f0:FE}{gM:GM}{tA:TA}{fs:FA}{pos:Pos}{i:Nat}
end
end L2


namespace L2
open PySem PySem.Spec PySem.Calls PyProof.Rows PyProof.V
section
variable{K:aA}{X:Cx}{e1 e2:Expr}{t1 t2 te:TE}{f g fe:FE}{tc:TT}{fc:FT}{pos p p2:Pos}{x:Str}
end
end L2


namespace L2
open PySem PySem.Spec PySem.Calls PyProof.Rows PyProof.V
inductive Ap where
  | ch (i:Nat) (π:FP) | rd (f:FE) | nw (f:FE)
def chP:List Ap→DE→Option (List (Nat×List Step))
 | [],_=>some []
 | .ch i π::as,e=>(π e).bind λp=>(chP as e).map λr=>(i,p)::r
 | .rd _::as,e=>chP as e
 | .nw _::as,e=>chP as e
def rdP:List Ap→DE→DE→Option (List D)
 | [],_,_=>some []
 | .ch _ _::as,eF,eZ=>rdP as eF eZ
 | .rd f::as,eF,eZ=>(f eZ).bind λd=>(rdP as eF eZ).map λr=>d::r
 | .nw f::as,eF,eZ=>(f eF).bind λd=>(rdP as eF eZ).map λr=>d::r
def Tp(K:aA)(Z:Hp):List Ap→List V→List D→List V→Prop
 | [],cv,ds,vs=>cv=[]∧ds=[]∧vs=[]
 | .ch _ _::as,cv,ds,vs=>∃v cr r,cv=v::cr∧vs=v::r∧Tp K Z as cr ds r
 | .rd _::as,cv,ds,vs=>∃d dr v r,ds=d::dr∧vs=v::r∧Rv K Z d v∧Tp K Z as cv dr r
 | .nw _::as,cv,ds,vs=>∃d dr v r,ds=d::dr∧vs=v::r∧Rv K Z d v∧Tp K Z as cv dr r
def VsP(σ:St)(H:Hp):List (Nat×List Step)→List V→Prop
 | [],vs=>vs=[]
 | (j,p)::js,vs=>∃v0 v r,vs=v::r∧σ[j]?=some (some v0)∧Vs H p v0=some v∧VsP σ H js r
section
variable{K:aA}{X:Cx}{e:Expr}{es:List Expr}{te:TE}{f:FE}{tA:TA}{as:List Ap}{pos:Pos}{i:Nat}{π:FP}
def aBK(K:aA)(t:TA)(as:List Ap):Prop:=∀(A1:Fp)(σ:St)(H:Hp)(eF eZ:DE)(ds:List D)(ps:List (Nat×List Step))(cv:List V)(Q:List V→Hp→Prop),(∀x,A1 x→qK H x)→sX K H eF σ→sX K (out H A1) eZ σ→chP as eF=some ps→VsP σ H ps cv→rdP as eF eZ=some ds →
 (∀vs H',aN H H'→Tp K (out H' A1) as cv ds vs→Q vs H')→t σ H Q
structure XAP(K:aA)(X:Cx)(es:List Expr)(t:TA)(as:List Ap):Prop where
 hk:X.K=K
 pa:PA X es t
 ev:aBK K t as
end
section
variable{K:aA}{H H' Z Z' B:Hp}{σ:St}
end
section
variable{K:aA}{X:Cx}{e:Expr}{es:List Expr}{tA:TA}{as:List Ap}{pos pf:Pos}
end
section
variable{K:aA}{X:Cx}{a b e:Expr}{ta tb te:TE}{g:FE}{gm:GM}{i:Nat}{π:FP}{pos pos':Pos}
end
end L2


namespace L2
open PySem PySem.Spec PySem.Calls PyProof.Rows PyProof.V
section
variable{K:aA}{te:TE}{f:FE}{i:Nat}{c:Int}
end
end L2


namespace L2
open PySem PySem.Spec PySem.Calls PyProof.Rows PyProof.V HT
section
variable{X:Cx}{K:aA}{e:Expr}{t:TE}{f:FE}{x y:Str}{p p2 pos pos2:Pos}
end
end L2


namespace L2
open PySem PySem.Spec PySem.Calls PyProof.Rows PyProof.V
def aAB(base:Heap)(l:List Env)(e:Addr)(cls a0:Value)(h:Heap):Prop:=base.StaysIn h∧base.get? e=none∧h.FunFrames base l∧∃fl,h.TracedAtW base e cls a0 fl
section
variable{M:Model}{A:Around}{E:Value→Shared→Prop}{s:Shared}{base:Heap}{env:Env}{outer l:List Env}{L e:Addr}{cls a0:Value}
end
structure Hl(l:List Env)(s1:Shared)(e:Addr)(cls:Value)(s':Shared):Prop where
 held:∃a0,aAB (aAx s1.heap l) l e cls a0 s'.heap
 up:s1.heap.UpToSlots s'.heap
 os:s'.os=s1.os
 bare:AllBare s'.gens
section
variable{P:Program}{w:World}{K:aA}{mg:Str→Option Value}{base:Heap}{N:List Str}{qual:Str}{scope:Scope}{f:Addr}{cd:Value}{A:Around}{outer:List Env}{s0:Shared}{H0:Hp}{E:XK}
end
section
variable{X:Cx}{EE:XK}
end
section
variable{K:aA}{κ:Nat→Addr}{X:Cx}{E:XK}
end
section
variable{K:aA}{κ:Nat→Addr}{X:Cx}{E:XK}{a e:Expr}{ta tz:TE}{f:FE}{z:DE→Option Nat}{pos:Pos}
end
end L2


namespace L2
open PySem PySem.Spec PySem.Calls PyProof.Rows PyProof.V
section
variable{K:aA}{te:TE}{f:FE}{tc:TT}{c:FT}{i j:Nat}
end
end L2


namespace L2
open PySem PySem.Spec PySem.Calls PyProof.Rows PyProof.V
section
variable{M:Model}{A:Around}{E:Value→Shared→Prop}{s:Shared}
end
structure xg(tR scope:Scope)(oN N:List Str)(k:Nat)(fr:List Nat):Prop where
 kind:scope.kind=.function
 loc:∀y∈scope.names,y.2=.local→scope.names.lookup y.1=some .local
 free:∀y∈scope.names,y.2=.free→tR.names.lookup y.1=some .cell∨tR.names.lookup y.1=some .free
 len:N.length=k+fr.length
 slots:∀j∈D6 fr.length,oN[fr.getD j 0]?=N[k+j]?
 from_:∀x∈N.drop k,(x,NameKind.free)∈scope.names∧((gY scope tR).names.lookup x=some .cell∨(gY scope tR).names.lookup x=some .free)
 apart:∀y∈scope.names,y.2=.free→(y.1,NameKind.cell)∉scope.names
def aBL(tR scope:Scope)(oN N:List Str)(k:Nat)(fr:List Nat):Bool:=
 decide (scope.kind=.function)&&decide (∀y∈scope.names,y.2=.local→scope.names.lookup y.1=some .local) &&
 decide (∀y∈scope.names,y.2=.free→tR.names.lookup y.1=some .cell∨tR.names.lookup y.1=some .free)&&decide (N.length=k+fr.length) &&
 decide (∀j∈D6 fr.length,oN[fr.getD j 0]?=N[k+j]?) &&
 decide (∀x∈N.drop k,(x,NameKind.free)∈scope.names∧((gY scope tR).names.lookup x=some .cell∨(gY scope tR).names.lookup x=some .free)) &&
 decide (∀y∈scope.names,y.2=.free→(y.1,NameKind.cell)∉scope.names)
section
variable{X:Cx}
end
section
variable{K:aA}{X:Cx}{tc:TT}{fc:FT}{pos:Pos}
end
end L2


namespace L2
open PySem PySem.Spec PySem.Calls PyProof.Rows PyProof.V
section
variable{prog:Program}{w:World}{A:Around}{E:Value→Shared→Prop}{s:Shared}{it d:Addr}{i ep:Nat}{es:Array DictEntry}{od:Obj}
end
section
variable{X:Cx}
end
end L2


namespace L2
open PySem PySem.Spec PySem.Calls PyProof.Rows PyProof.V
section
variable{K:aA}{B H:Hp}{env:EN}{σ:St}
end
def sZ(k:List Key):D:=.tup (k.map λ| .inl i=>.int i | .inr x=>.str x)
section
variable{K:aA}{t h:Nat}{tb:TS}{tb':Int→TS}{body:Int→GS}
end
section
variable{K:aA}{t h j:Nat}{tA:TA}{fs:FA}
end
section
variable{K:aA}{X:Cx}{t h j c i:Nat}{π:FP}{ta tb0:TE}{g:FE}{tA:TA}{fs:FA}{tg o o2 hn cn two a b val:Expr}{es:List Expr}{st1 st2:Stmt}{pos pos' p1 p2 p3 p4:Pos}{x1:Nat}
end
end L2


namespace L2
open PySem PySem.W PyProof.Rows
def oO{α:Type}(N:Nat)(lt:Nat→Nat→Bool):KasT α→(α→Prop)→Prop
 | .ret a,Q=>Q a
 | .ask i j k,Q=>i<N∧j<N∧oO N lt (k (lt i j)) Q
theorem kZ{α β:Type}{N:Nat}{lt:Nat→Nat→Bool}{f:α→KasT β}{Q:β→Prop}:∀t:KasT α,oO N lt (t.bind f) Q=oO N lt t λa=>oO N lt (f a) Q
 | .ret _=>rfl
 | .ask i j k=>by
  show (i<N∧j<N∧oO N lt ((k (lt i j)).bind f) Q)=(i<N∧j<N∧oO N lt (k (lt i j)) _)
  rw[kZ (k (lt i j))]
theorem dG{α:Type}{N:Nat}{lt:Nat→Nat→Bool}{Q Q':α→Prop}(h:∀a,Q a→Q' a):∀t:KasT α,oO N lt t Q→oO N lt t Q'
 | .ret a,q=>h a q
 | .ask i j k,q=>⟨q.1,q.2.1,dG h (k (lt i j)) q.2.2⟩
theorem Tq{α:Type}{N:Nat}{lt:Nat→Nat→Bool}{cmp:Nat→Nat→(Bool→Shared→Prop)→Shared→Prop}{Q:α→Shared→Prop}{s:Shared}(hc:∀i j (C:Bool→Shared→Prop),i<N→j<N→C (lt i j) s→cmp i j C s):∀t:KasT α,oO N lt t (λa=>Q a s)→t.kasWp cmp Q s
 | .ret a,q=>q
 | .ask i j k,q=>hc i j _ q.1 q.2.1 (Tq hc (k (lt i j)) q.2.2)
section
variable{N:Nat}(key:Nat→Int)
theorem Hr{p:Array Nat}(h0:0<N)(hb:∀x∈p.toList,x<N)(k:Nat):p.getD k 0<N:=by
 rw[J5]
 cases e:p[k]? with
 | none=>exact h0
 | some x=>exact hb x (J6 (by rw[E9];exact e))
abbrev Tr(i j:Nat):Bool:=decide (key i<key j)
abbrev kA(p:Array Nat)(k:Nat):Int:=key (p.getD k 0)
def TY(p:Array Nat)(m:Nat):Prop:=∀i j,i≤j→j<m→kA key p i≤kA key p j
theorem qX{p q:Array Nat}{i j:Nat}(h:p[i]?=q[j]?):kA key p i=kA key q j:=by
 unfold kA
 rw[J5,J5,h]
theorem Tt{p:Array Nat}{m:Nat}(h:∀k,1≤k→k<m→kA key p (k-1)≤kA key p k):TY key p m:=by
 intro i j hij hj
 induction j with
 | zero=>rw[Nat.le_zero.mp hij];exact P1 _
 | succ j ih=>
  rcases E3 i (j+1)with z | z
  ·have a:=ih (by omega) (by omega)
   have b:=h (j+1) (by omega) hj
   rw[Nat.add_sub_cancel]at b
   omega
  ·rw[show i=j+1 by omega];exact P1 _
theorem Pq{p:Array Nat}(hb:∀k,p.getD k 0<N):∀f n,1≤n→oO N (Tr key) (kas_asc p f n) λm=>n≤m∧m≤n+f∧(∀k,n≤k→k<m→kA key p (k-1)≤kA key p k)∧(m<n+f→kA key p m<kA key p (m-1))
 | 0,n,_=>⟨B4 _,B4 _,λk a b=>by omega,λh=>by omega⟩
 | f+1,n,h1=>by
  refine⟨hb _,hb _,?_⟩
  show oO N (Tr key) (if decide (kA key p n<kA key p (n-1))=true then KasT.ret n else kas_asc p f (n+1)) _
  by_cases c:kA key p n<kA key p (n-1)
  ·rw[if_pos (decide_eq_true c)]
   exact⟨B4 _,N9 _ _,λk a b=>by omega,λ_=>c⟩
  ·rw[if_neg (by rw[decide_eq_false c];exact D5)]
   refine dG (λm h=>?_) _ (Pq hb f (n+1) (by omega))
   obtain⟨a,b,d,e⟩:=h
   refine⟨by omega,by omega,λk hk hm=>?_,λq=>e (by omega)⟩
   rcases E3 n k with z | z
   ·exact d k z hm
   ·rw[show k=n by omega];omega
theorem Tu{p:Array Nat}(hb:∀k,p.getD k 0<N)(hd:∀i j,i<p.size→j<p.size→i≠j→kA key p i≠kA key p j):∀f n,1≤n→n+f≤p.size→oO N (Tr key) (kas_desc f p n 0) λr=>r.1=p∧r.2.2=0∧n≤r.2.1∧r.2.1≤n+f∧∀k,n≤k→k<r.2.1→kA key p k<kA key p (k-1)
 | 0,n,_,_=>⟨rfl,rfl,B4 _,B4 _,λk a b=>by dsimp only at b;omega⟩
 | f+1,n,h1,h2=>by
  unfold kas_desc
  refine⟨hb _,hb _,?_⟩
  show oO N (Tr key) (if decide (kA key p n<kA key p (n-1))=true then(if 0 > 0 then kas_desc f (kas_rev p (n-(0+1)) n) (n+1) 0 else kas_desc f p (n+1) 0)else KasT.ask (p.getD (n-1) 0) (p.getD n 0) λd=>if d=true then .ret (p,n,0)else kas_desc f p (n+1) (0+1)) _
  by_cases c:kA key p n<kA key p (n-1)
  ·rw[if_pos (decide_eq_true c),if_neg (by omega)]
   refine dG (λr h=>?_) _ (Tu hb hd f (n+1) (by omega) (by omega))
   obtain⟨a,b,d,e,g⟩:=h
   refine⟨a,b,by omega,by omega,λk hk hm=>?_⟩
   rcases E3 n k with z | z
   ·exact g k z hm
   ·rw[show k=n by omega];exact c
  ·rw[if_neg (by rw[decide_eq_false c];exact D5)]
   refine⟨hb _,hb _,?_⟩
   show oO N (Tr key) (if decide (kA key p (n-1)<kA key p n)=true then KasT.ret (p,n,0)else kas_desc f p (n+1) (0+1)) _
   have ne:=hd (n-1) n (by omega) (by omega) (by omega)
   rw[if_pos (decide_eq_true (by omega))]
   exact⟨rfl,rfl,B4 _,N9 _ _,λk a b=>by dsimp only at b;omega⟩
theorem BX{p:Array Nat}{m k:Nat}(hm:m≤p.size):(kas_rev p 0 m)[k]?=if k<m then p[m-1-k]? else p[k]?:=by
 unfold kas_rev
 rw[getElem?_mirror_all hm]
 by_cases c:k<m
 ·rw[if_pos ⟨G9 _,c⟩,if_pos c,J7]
 ·rw[if_neg (λz=>c z.2),if_neg c]
theorem BZ{p:Array Nat}(h0:0<N)(hx:∀x∈p.toList,x<N)(h1:1≤p.size)(hd:∀i j,i<p.size→j<p.size→i≠j→kA key p i≠kA key p j):oO N (Tr key) (kas_count p.size p) λr=>r.2.Perm p∧1≤r.1∧r.1≤p.size∧TY key r.2 r.1:=by
 have hb:=Hr h0 hx
 unfold kas_count
 rw[kZ]
 refine dG (λn h=>?_) _ (Pq key hb (p.size-1) 1 (B4 _))
 obtain⟨a,b,c,d⟩:=h
 have hs:TY key p n:=Tt key λk x y=>c k x y
 by_cases e:(n==p.size)=true
 ·rw[if_pos e]
  exact⟨U7 _,a,by omega,hs⟩
 ·rw[if_neg e]
  have ne:n≠p.size:=λz=>e (by rw[z];exact beq_self_eq_true _)
  by_cases g:n > 1
  ·rw[if_pos g]
   have hl:=hs 0 (n-1) (by omega) (by omega)
   have hn:=hd 0 (n-1) (by omega) (by omega) (by omega)
   refine⟨hb _,hb _,?_⟩
   show oO N (Tr key) (if decide (kA key p 0<kA key p (n-1))=true then KasT.ret (n,p)else kas_descPart n p.size (kas_rev p 0 n)) _
   rw[if_pos (decide_eq_true (by omega))]
   exact⟨U7 _,a,by omega,hs⟩
  ·rw[if_neg g]
   obtain rfl:n=1:=by omega
   have hdn:=d (by omega)
   unfold kas_descPart
   rw[kZ]
   refine dG (λr h=>?_) _ (Tu key hb hd (p.size-(1+1)) (1+1) (by omega) (by omega))
   obtain⟨q,m,z⟩:=r
   obtain⟨e1,e2,m1,m2,m3⟩:=h
   dsimp only at e1 e2 m1 m2 m3 ⊢
   subst e1 e2
   rw[if_neg (by omega)]
   unfold kas_tail3
   rw[kZ]
   refine dG (λn' h=>?_) _ (Pq key (p:=kas_rev q 0 m) (Hr h0 λx z=>hx x ((mirror_perm q 0 m ((m-0)/2)).toList.mem_iff.mp z)) (q.size-m) m (by omega))
   obtain⟨a',b',c',_⟩:=h
   have hm:m≤q.size:=by omega
   refine⟨mirror_perm _ _ _ _,by omega,by omega,Tt key λk x y=>?_⟩
   rcases E3 k m with w | w
   ·rw[qX key (show (kas_rev q 0 m)[k-1]?=q[m-1-(k-1)]? by rw[BX hm,if_pos (by omega)]),qX key (show (kas_rev q 0 m)[k]?=q[m-1-k]? by rw[BX hm,if_pos w])]
    have hh:kA key q (m-1-(k-1))<kA key q (m-1-(k-1)-1):=by
     rcases E3 (m-1-(k-1)) 2 with v | v
     ·rw[show m-1-(k-1)=1 by omega];exact hdn
     ·exact m3 _ v (by omega)
    rw[show m-1-(k-1)-1=m-1-k by omega]at hh
    omega
   ·exact c' k w y
theorem Al{p:Array Nat}{k:Nat}(hb:∀k,p.getD k 0<N)(hs:TY key p k):∀f l r,l≤r→r≤k→r-l≤f→(∀j,j<l→kA key p j≤kA key p k)→(∀j,r≤j→j<k→kA key p k<kA key p j)→oO N (Tr key) (kas_place p k f l r) λm=>m≤k∧(∀j,j<m→kA key p j≤kA key p k)∧∀j,m≤j→j<k→kA key p k<kA key p j
 | 0,l,r,h1,h2,h3,h4,h5=>⟨by omega,h4,λj a b=>h5 j (by omega) b⟩
 | f+1,l,r,h1,h2,h3,h4,h5=>by
  unfold kas_place
  by_cases c:l≥r
  ·rw[if_pos c]
   exact⟨by omega,h4,λj a b=>h5 j (by omega) b⟩
  ·rw[if_neg c]
   refine⟨hb _,hb _,?_⟩
   show oO N (Tr key) (if decide (kA key p k<kA key p ((l+r)/2))=true then kas_place p k f l ((l+r)/2)else kas_place p k f ((l+r)/2+1) r) _
   by_cases d:kA key p k<kA key p ((l+r)/2)
   ·rw[if_pos (decide_eq_true d)]
    refine Al hb hs f l ((l+r)/2) (by omega) (by omega) (by omega) h4 λj a b=>?_
    have:=hs ((l+r)/2) j a b
    omega
   ·rw[if_neg (by rw[decide_eq_false d];exact D5)]
    refine Al hb hs f ((l+r)/2+1) r (by omega) h2 (by omega) (λj a=>?_) h5
    have:=hs j ((l+r)/2) (by omega) (by omega)
    omega
theorem CG(h0:0<N):∀f (p:Array Nat) k,(∀x∈p.toList,x<N)→k+f=p.size→TY key p k→oO N (Tr key) (kas_bin f p k) λp'=>p'.Perm p∧TY key p' p.size
 | 0,p,k,hx,h1,h2=>⟨U7 _,by rw[←h1];exact h2⟩
 | f+1,p,k,hx,h1,h2=>by
  unfold kas_bin
  rw[kZ]
  refine dG (λl h=>?_) _ (Al key (Hr h0 hx) h2 k 0 k (G9 _) (B4 _) (B4 _) (λj a=>by omega) λj a b=>by omega)
  obtain⟨a,b,c⟩:=h
  have hk:k<p.size:=by omega
  have hat:=λj=>getElem?_bubble hk (k-l) (by omega) j
  rw[show k-(k-l)=l by omega]at hat
  have hs:TY key (bubble p k (k-l)) (k+1):=by
   have at1:kA key (bubble p k (k-l)) l=kA key p k:=qX key (by rw[hat,if_pos rfl])
   have at2:∀j,l<j→j≤k→kA key (bubble p k (k-l)) j=kA key p (j-1):=λj x y=>qX key (by rw[hat,if_neg (by omega),if_pos ⟨x,y⟩])
   have at3:∀j,j<l→kA key (bubble p k (k-l)) j=kA key p j:=λj x=>qX key (by rw[hat,if_neg (by omega),if_neg (by omega)])
   intro i j hij hj
   rcases O4 i l with x | x | x
   ·rw[at3 i x]
    rcases O4 j l with y | y | y
    ·rw[at3 j y];exact h2 i j hij (by omega)
    ·rw[y,at1];exact b i x
    ·rw[at2 j y (by omega)];exact h2 i (j-1) (by omega) (by omega)
   ·rw[x,at1]
    rcases O4 j l with y | y | y
    ·omega
    ·rw[y,at1];exact P1 _
    ·rw[at2 j y (by omega)];exact Int.le_of_lt (c (j-1) (by omega) (by omega))
   ·rw[at2 i x (by omega),at2 j (by omega) (by omega)]
    exact h2 (i-1) (j-1) (by omega) (by omega)
  have hz:(bubble p k (k-l)).size=p.size:=bubble_size _ _ _
  refine dG (λp' h=>?_) _ (CG h0 f (bubble p k (k-l)) (k+1) (λx z=>hx x ((bubble_perm p k (k-l)).toList.mem_iff.mp z)) (by omega) hs)
  exact⟨h.1.trans (bubble_perm _ _ _),by rw[←hz];exact h.2⟩
theorem UG{n:Nat}(h1:1≤n)(hk:∀i j,i<n→j<n→i≠j→key i≠key j):oO n (Tr key) (kas_sort n) λp=>p.toList.Perm (D6 n)∧TY key p n:=by
 have hz:(O0 (D6 n)).size=n:=by rw[B6,F3]
 have hg:∀i,i<n→(O0 (D6 n)).getD i 0=i:=λi hi=>by
  rw[J5,List.getElem?_toArray,W8 hi]
  rfl
 have hc:=BZ (N:=n) key (p:=O0 (D6 n)) h1 (λx hx=>by simpa using hx) (by omega) λi j hi hj hne=>by
  unfold kA
  rw[hg i (by omega),hg j (by omega)]
  exact hk i j (by omega) (by omega) hne
 unfold kas_sort
 rw[kZ]
 rw[hz]at hc
 refine dG (λr h=>?_) _ hc
 obtain⟨m,q⟩:=r
 obtain⟨a,b,c,d⟩:=h
 dsimp only at a b c d ⊢
 have hq:q.size=n:=a.size_eq.trans hz
 have hp:q.toList.Perm (D6 n):=by
  have:=a.toList
  simpa using this
 by_cases e:m<n
 ·rw[if_pos e,show max m 1=m by omega]
  refine dG (λp' h=>?_) _ (CG key h1 (n-m) q m (λx hx=>by simpa using hp.mem_iff.mp hx) (by omega) d)
  exact⟨h.1.toList.trans hp,by rw[←hq];exact h.2⟩
 ·rw[if_neg e]
  obtain rfl:m=n:=by omega
  exact⟨hp,d⟩
end
end L2


namespace L2
open PySem PySem.W PySem.Spec PyProof.Rows
def Prs(h:Heap):List Value→List (Int×Int)→Prop
 | [],ps=>ps=[]
 | v::vs,ps=>∃p qs,ps=p::qs∧(∃a t u,v=.ref a∧IsTup h a #[.int p.1 t,.int p.2 u])∧Prs h vs qs
section
variable{prog:Program}{w:World}{A:Around}{E:Value→Shared→Prop}{s:Shared}{vs:List Value}{ps:List (Int×Int)}
abbrev prK(ps:List (Int×Int))(i:Nat):Int:=(ps.getD i (0,0)).1
end
end L2


namespace L2
open PySem PySem.W PySem.Spec PyProof.Rows
section
variable{X:Cx}{pins:List (Addr×Obj)}{σ:List (Option V)}{H H':Hp}{s:Shared}{h':Heap}
theorem Inv.more{t':Nat}(I:Inv X pins σ H s)(k:∀b u,s.heap.get? b=some u→h'.get? b=some u)(ho:∀b,b<s.heap.objs.size→H' b=H b)(new:∀b o,s.heap.objs.size≤b→H' b=some o→cI X.prog X.w H' h' b o):Inv X pins σ H' {s with heap:=h',toks:=t'}:=by
 have st:∀{b:Addr} {o:HO},H b=some o→H' b=some o:=λ{b o} e=>by rw[ho b (I.hok.lt e)];exact e
 refine I.un ⟨λb o e _ _ _=>k b o e,λb o e _ _ _=>⟨o.slots,k b o e⟩,λb o e n _=>by rw[ho b (Heap.lt_size e)];exact n,λb o e _=>⟨o,k b o e⟩,λb xs e=>st e,λb o u e=>st e,λb ps e=>⟨#[],by rw[st e];simp⟩⟩ λb o e=>?_
 rcases E3 b s.heap.objs.size with z | z
 ·rw[ho b z]at e
  exact(I.hok b o e).stay (λc v _ q=>k c v q) (λc q=>st q) (λc xs q=>st q) λc ob y q=>st q
 ·exact new b o z e
end
def El(ps:List (Int×Int)):List (Int×Int):=ps.mergeSort λa b=>decide (a.1≤b.1)
theorem tW(ps:List (Int×Int)):(El ps).Perm ps:=W2 _ _
theorem Lg(ps:List (Int×Int)):((El ps).map (·.1)).Pairwise (·≤·):=by
 have h:=U0 (le:=λa b:Int×Int=>decide (a.1≤b.1)) (λa b c h1 h2=>decide_eq_true (Int.le_trans (of_decide_eq_true h1) (of_decide_eq_true h2))) (λa b=>by
  rw[P5,decide_eq_true_iff,decide_eq_true_iff];exact Int.le_total _ _) ps
 rw[N2]
 exact h.imp λh=>of_decide_eq_true h
theorem Tv:∀{l m:List (Int×Int)},(l.map (·.1)).Pairwise (·≤·)→(m.map (·.1)).Pairwise (·≤·)→(l.map (·.1)).Nodup→l.Perm m→l=m
  | [],m,_,_,_,p=>(Z0 p)
  | a::l,[],_,_,_,p=>absurd p.symm (by simp)
  | a::l,b::m,h1,h2,hn,p=>by
    rw[D4]at h1 h2 hn
    obtain⟨wg,h1b⟩:=E6.mp h1
    obtain⟨wj,h2b⟩:=E6.mp h2
    obtain⟨n1,n2⟩:=K0.mp hn
    have e:a=b:=by
      have q1:a∈b::m:=p.mem_iff.mp B9
      have q2:b∈a::l:=p.mem_iff.mpr B9
      rcases C4.mp q1 with q1 | q1
      · exact q1
      · rcases C4.mp q2 with q2 | q2
        · exact q2.symm
        · have x:=wg b.1 (E2.mpr ⟨b,q2,rfl⟩)
          have y:=wj a.1 (E2.mpr ⟨a,q1,rfl⟩)
          have z:a.1=b.1:=by omega
          exact absurd (E2.mpr ⟨b,q2,z.symm⟩) n1
    subst e
    rw[Tv h1b h2b n2 (X4 p)]
theorem CJ{ps qs:List (Int×Int)}(hn:(ps.map (·.1)).Nodup)(hp:qs.Perm ps)(hs:(qs.map (·.1)).Pairwise (·≤·)):qs=El ps:=Tv hs (Lg ps) ((hp.map _).nodup_iff.mpr hn) (hp.trans (tW ps).symm)
theorem Pu{α:Type}{ps:List α}{d:α}:(D6 ps.length).map (λi=>ps.getD i d)=ps:=by
 apply O3
 intro i
 rw[C8]
 rcases E3 i ps.length with z | z
 ·rw[W8 z,B0 z]
  show some (ps.getD i d)=_
  rw[B3,B0 z]
  rfl
 ·rw[F0 (by rw[F3];exact z),F0 z]
  rfl
theorem Px{ps:List (Int×Int)}{q:List Nat}(hn:(ps.map (·.1)).Nodup)(hq:q.Perm (D6 ps.length))(hs:(q.map (prK ps)).Pairwise (·≤·)):q.map (λi=>ps.getD i (0,0))=El ps:=by
 refine CJ hn ?_ ?_
 ·have:=hq.map λi=>ps.getD i (0,0)
  rw[Pu]at this
  exact this
 ·rw[J0]
  exact hs
section
variable{K:aA}{X:Cx}{pins:List (Addr×Obj)}{σ:St}{H:Hp}{s:Shared}
theorem Em{zs:List V}{us:List Value}(v:Vals zs us):∀q:List Nat,(∀i∈q,i<zs.length)→Vals (q.map λi=>zs.getD i V.non) (q.map λi=>us.getD i Value.none)
 | [],_=>.nil
 | i::q,h=>by
  rw[D4,D4]
  refine .cons ?_ (Em v q λj hj=>h j (B7 _ hj))
  have hi:=h i B9
  obtain⟨u,e,r⟩:=v.get (B0 hi)
  rw[B3,B3,e,B0 hi]
  exact r
end
end L2


namespace L2
open PySem PySem.W PySem.Spec PyProof.Rows
section
variable{K:aA}{X:Cx}{pins:List (Addr×Obj)}{σ:St}{H:Hp}{s:Shared}
end
structure M0(X:Cx)(o:Expr)(m:Str)(apos:Pos)(cpos:Pos):Prop where
 base:attributeBase o m X.env (eval o X.env)=eval o X.env
 few:((backTo cpos (starEach [] X.env)).all (λx=>!x.1)&&(backToKw cpos (keywordEach [] X.env)).all (λx=>x.1.isSome)
  && decide (([]:List Expr).length+([]:List Keyword).length+(if([]:List Keyword).isEmpty then 0 else 1)<30))=true
 line:(apos.endLine==cpos.line)=true
 trees:backTo cpos (starEach [] X.env)=[]
section
variable{K:aA}{X:Cx}{o:Expr}{t:TE}{f:FE}{x:Str}{p pos apos cpos:Pos}
end
end L2


namespace L2
open PySem PySem.W PySem.Spec PyProof.Rows
section
variable{prog:Program}{w:World}{A:Around}{R:Result→Shared→Prop}{I:Addr}{fp wr:List Addr}{G:Array GenState→Array GenState→Prop}{n:Nat}{P:Nat→Value→Prop}{St:Nat→Shared→Prop}
variable{E:Value→Shared→Prop}{s:Shared}
end
end L2


namespace L2
open PySem PySem.W PySem.Spec PyProof.Rows
mutual
def slf:D→Nat→Bool
 | .int _,_=>true
 | .str _,_=>true
 | .lst ds,n+1=>sr ds n
 | .tup ds,n+1=>sr ds n
 | _,_=>false
def sr:List D→Nat→Bool
 | [],_=>true
 | d::ds,n=>slf d n&&sr ds n
end
section
open SeqAt
variable{X:Cx}{pins:List (Addr×Obj)}{σ:St}{H:Hp}{s:Shared}
end
section
open SeqAt
variable{K:aA}{X:Cx}
end
section
variable{K:aA}{X:Cx}
end
end L2


namespace L2
open PySem PySem.W PySem.Spec PyProof.Rows
section
variable{K:aA}{X:Cx}{e a b c:Expr}{ta tb te:TE}{f g:FE}{pos:Pos}{i j:Nat}{π:FP}{tc:TT}{fc:FT}
end
end L2


namespace L2
open PySem PySem.W PySem.Spec PyProof.Rows
section
open SeqAt
variable{K:aA}{X:Cx}
end
end L2


namespace L2
open PySem PySem.W PySem.Spec PyProof.Rows
section
variable{K:aA}{X:Cx}{a b c:Expr}{ta tb tc:TE}{fa fb fc:FE}{pos:Pos}
end
end L2


namespace L2
open PySem PySem.W PySem.Spec PyProof.Rows
def lcg(M x:Nat):Nat:=(x*5+1)%M
def itr(M:Nat):Nat→Nat→Nat
 | 0,x=>x
 | n+1,x=>itr M n (lcg M x)
def Full(M:Nat):Prop:=0<M∧itr M M 0=0∧∀y,y<M→∃k,k<M∧itr M k 0=y
abbrev frN(owner:Array (Option Nat))(j:Nat):Prop:=(owner.getD j (some 0)).isNone=true
def aDp(mask:Nat)(owner:Array (Option Nat))(sl:List Nat):Prop:=owner.size=mask+1∧sl.Nodup∧(∀j∈sl,j≤mask)∧∀j,j≤mask→owner[j]?=some (posK sl j)
end L2


namespace L2
open PySem PySem.W PySem.Spec PyProof.Rows
section
variable{prog:Program}{w:World}{A:Around}{E:Value→Shared→Prop}{s:Shared}{b:Bool}
def aDq(prog:Program)(w:World)(b:Bool)(h:Heap)(a:Addr)(S:Int→Bool)(n:Nat)(P:SetTable→Prop):Prop:=
 ∃o es ep t,h.get? a=some o∧o.ExactSet∧o.data=.set es ep t∧ElemsOf (intKind prog w) es.toList∧(∀k,S k=true↔∃e∈es.toList,(intKind prog w).is k e.2=true)∧es.size<scanBound∧t.fits es.size=true∧es.size=n∧Led b t∧P t
end
end L2


namespace L2
open PySem PySem.W PySem.Spec PyProof.Rows
section
variable{prog:Program}{w:World}{A:Around}{E:Value→Shared→Prop}{s:Shared}
end
section
variable{X:Cx}{ea eb:Expr}{ta tb:TE}{x y:Str}{p p2 p3 pos pos2 aBO aBP:Pos}
end
end L2


namespace L2
open PySem PySem.W PySem.Spec PyProof.Rows
section
variable{K:aA}{X:Cx}{ea eb:Expr}{ta tb te:TE}{fa fb f g:FE}{x y:Str}{p p2 p3 pos pos2 aBO aBP:Pos}{i t:Nat}
def Am(t i:Nat):GS:=λenv=>match env[t]? with
 | some (.own (.lst ds))=>(match intsOf ds with
  | some ns=>(match ns.getLast? with
   | some k=>if i<env.length∧i≠t then .next ((env.set t (.own (.lst (ns.dropLast.map D.int)))).set i (.own (.int k)))else .bad
   | none=>.bad)
  | none=>.bad)
 | _=>.bad
theorem UJ:DS K (Fq (Vf K "list" Vg (sS t)) (dI i)) (Am t i):=λB E σ H env r p=>by
 unfold Am at p
 split at p
 case h_2=>exact p.elim
 rename_i ds q1
 split at p
 case h_2=>exact p.elim
 rename_i ns q2
 split at p
 case h_2=>exact p.elim
 rename_i kk q3
 split at p
 case isFalse=>exact p.elim
 rename_i hi
 obtain⟨v0,a,xs,Bs,k1,k2,k3,k4,k5,k6⟩:=r.aAo (p:=[]) q1 (ds:=ds) rfl
 have ev:v0=.ref a:=by
  have:=k2
  simpa[Vs]using this
 subst ev
 have hxs:xs=ns.map V.int:=by
  have:=dU.rv _ _ _ k5
  rw[qQ q2]at this
  exact iH.mp this
 have hns:ns≠[]:=λz=>by rw[z]at q3;cases q3
 have aAC:xs[xs.length-1]?=some (V.int kk):=by
  rw[hxs,B5,C8,←List.getLast?_eq_getElem?,q3]
  rfl
 refine⟨_,k1,.inl ⟨rfl,xs,lH.of k3⟩,a,xs,_,rfl,rfl,k3,aAC,p _ _ ?_⟩
 have r1:=k6 H (ns.dropLast.map D.int) (ns.dropLast.map V.int) nil (aN.refl _) (rP _ _ (bR _) (iH.mpr rfl)) λb z=>z.elim
 rw[show xs.dropLast=ns.dropLast.map V.int by rw[hxs,List.map_dropLast]]
 exact r1.own (d:=.int kk) (by rw[a7];exact hi.1) (aN.refl _) (.fU rfl (by unfold Rv;rfl))
theorem UL{m:Str}{apos cpos pos':Pos}{e:Expr}(he:PE X e (sS t))(hp:PE X e (sS t)→PE X (.Call (.Attribute e m apos) [] [] cpos) (Vf K "list" Vg (sS t))) (hs:PE X (.Call (.Attribute e m apos) [] [] cpos) (Vf K "list" Vg (sS t))→PS X (.Assign [.Name x pos'] (.Call (.Attribute e m apos) [] [] cpos) pos) (Fq (Vf K "list" Vg (sS t)) (dI i))):YS K X (.Assign [.Name x pos'] (.Call (.Attribute e m apos) [] [] cpos) pos) (Fq (Vf K "list" Vg (sS t)) (dI i)) (Am t i):=⟨hs (hp he),UJ⟩
end
end L2


namespace L2
open PySem PySem.W PySem.Spec PySem.Calls PyProof.Rows
theorem Xm.okC{P:Program}{w:World}{K:aA}{mg:Str→Option Value}{base:Heap}{x qual:Str}{st:Stmt}{f:Addr}{fd:FuncData}{N ps:List Str}{k:Nat}{sp:Sp}(F:Xm K x qual st f fd)(S:aZ N ps (aJ st))(len:∀vs H Q E,sp vs H Q E→vs.length=ps.length)
  (hbody:∀(cdv:Value)(A:Around)(outer:List Env)(s:Shared)(H:Hp)(vs:List V)(Q:VK)(E:XK),F7 K cdv qual=true→jU k (A.deeper (envOfC qual (aJ st) s.heap.objs.size f cdv))→sp vs H Q E →
   ∃t,Iw (yV Nu P w K mg base N qual (aJ st) f cdv A outer s H E).JZ (cA st) t∧t {nx:=λ_ H'=>Q .non H',rt:=Q} (start N vs) H):uH P w K mg base Nu (k+1) f fd ps sp:=by
 obtain⟨oc,od,kV,doc,pm,an,cdv,ct,osl,rfl,lk,hcd⟩:=F.ex
 refine XH lk hcd S len λA outer s H vs Q E hr hsp=>?_
 obtain⟨t,h,q⟩:=hbody cdv A outer s H vs Q E hcd hr hsp
 exact⟨t,h.JZ,q⟩
theorem Raw.aAD{P:Program}{w:World}{K:aA}{mg:Str→Option Value}{base:Heap}{x:Str}{st:Stmt}{N ps:List Str}{k:Nat}{g:GS}(R:Raw K mg x st)(S:aZ N ps (aJ st))
  (hb:∀(kV doc pm:Value)(an:Option Addr)(cdv ct:Value)(us:List Value),us.length=ps.length→bindArgs (G4 x x (eU st) (cA st) (aJ st) .none kV doc pm an cdv ct) ⟨us,[]⟩=pure (ps.zip us))
  (hbody:∀(f:Addr)(cdv:Value)(A:Around)(outer:List Env)(s:Shared)(H:Hp)(E:XK),F7 K cdv x=true→jU k (A.deeper (envOfC x (aJ st) s.heap.objs.size f cdv)) →
   ∃t,YB K (yV Nu P w K mg base N x (aJ st) f cdv A outer s H E).JZ (cA st) t g):iU P w K mg base x (k+1) ps.length (iW K ps.length (fJ N.length ps.length g)):=by
 obtain⟨f,fd,F,m⟩:=R.ex
 refine⟨f,fd,ps,rfl,F.okC S (λvs H Q E h=>?_) (λcdv A outer s H vs Q E hc hr h=>?_),F.binds hb,F.kp,m⟩
 ·obtain⟨ds,d,h1,h2,_⟩:=h
  rw[h2.length];exact h1
 obtain⟨ds,d,h1,h2,h3,kk⟩:=h
 obtain⟨t,yb⟩:=hbody f cdv A outer s H E hc hr
 refine⟨t,yb.ps,yb.ev H _ _ H (ds.map SD.fro++E8 (N.length-ps.length) SD.no) ?_ ?_⟩
 ·have hl:vs.length=ps.length:=by rw[h2.length];exact h1
  have:=wF (k:=N.length-ps.length) h2
  unfold start
  rw[hl]
  exact this
 ·unfold fJ at h3
  rw[if_pos h1]at h3
  cases q:g (ds.map SD.fro++E8 (N.length-ps.length) SD.no)with
  | ret d'=>
   rw[q]at h3
   cases h3
   refine λv H' A' s' o=>kk v H' (s'.trans (gA _ _)) ⟨A',o,λa qa=>?_⟩
   cases e:H a with
   | none=>rfl
   | some u=>exact absurd qa (bK.mp (s' a u e)).1
  | next env'=>
   rw[q]at h3
   cases h3
   refine λσ' H' ⟨A',_,s'⟩=>kk .non H' (s'.trans (gA _ _)) (.fU rfl (by unfold Rv;rfl))
  | brk env'=>rw[q]at h3;cases h3
  | cont env'=>rw[q]at h3;cases h3
  | bad=>rw[q]at h3;cases h3
  | rete d e=>rw[q]at h3;cases h3
theorem CK{K:aA}{cd:Value}{q:Str}(h:F7 K cd q=true):∃c,cd=.ref c:=by
 unfold F7 at h
 split at h
 ·exact⟨_,rfl⟩
 ·cases h
theorem Py{pos':Pos}{a b:Int}{c x:Value}(l:List Value)(h:TriplesOk l)(e:codeAmong pos' (l++[rawInt a,rawInt b,c])=some x):codeAmong pos' l=some x∨x=c:=by
 fun_induction TriplesOk l with
 | case1=>
  simp only[P6,codeAmong,rawInt]at e
  split at e
  ·cases e;exact .inr rfl
  ·cases e
 | case2 a' t b' u y rest ih=>
  simp only[K7,codeAmong]at e ⊢
  split at e
  ·rename_i hc;rw[if_pos hc];exact .inl e
  ·rename_i hc;rw[if_neg hc];exact ih h e
 | case3 l h1 h2=>exact h.elim
section
variable{X:Cx}{pins:List (Addr×Obj)}{σ:St}{H:Hp}{s:Shared}
abbrev nR:Str := "wanted_by_turn.<locals>.<lambda>"
theorem CN{params:Arguments}{body:Expr}{scope:Scope}{pos:Pos}{cl:List (Str×Addr)}{Q:Value→Shared→Prop}(I:Inv X pins σ H s)(hc:∃c,X.env.code=.ref c∧F7 X.K (.ref c) "wanted_by_turn" = true) (hq:X.env.qual ++ "<lambda>" = nR) (hcl:closureFor scope X.env=pure cl) (hdef:defaultsOf params X.env=([],[]))
  (h:∀f c' oc P pm ctv H' s',Inv X pins σ H' s'→aN H H'→H' f=some (.ext λh=>h.get? f=some (kla_obj "<lambda>" nR params body scope cl pm c' ctv))→H' c'=some (.qG oc (.own P))→Rc oc nR→Q (.ref f) s') :
  wpAny (model X.prog X.w) X.A (eval (.Lambda params body scope pos) X.env) Q X.xe s:=by
 obtain⟨c,hc1,hc2⟩:=hc
 obtain⟨P,qs,t,t1,t2,t3⟩:=I.tab c hc2
 have C:CodeHd s.heap c P:=codeHd_of_K I.Di t1
 obtain⟨ps,p1,p2,p3⟩:=I.hok P _ t2
 have hgs:s.heap.Ns mainGlobals X.mg:=I.mod.glob.keeps I.bk
 have hgP:mainGlobals≠P:=λz=>by
  obtain⟨o,es,ep,e,hd,_⟩:=hgs
  rw[z,p1]at e;cases e;cases hd
 obtain⟨bm,ob,b1,b2,b3,b4,b5,b6⟩:=I.mod.bm
 have b3:=I.bk _ _ b3
 have hbP:bm≠P:=λz=>by rw[z,p1]at b3;cases b3;cases b6
 have hbG:bm≠mainGlobals:=λz=>by
  obtain⟨o,es,ep,e,hd,_⟩:=hgs
  rw[z,e]at b3;cases b3;rw[hd]at b6;cases b6
 have hB:s.heap.BuiltinsAt X.mg P:=⟨bm,ob,b1,b2,hbG,hbP,b3,b4,b5,b6⟩
 refine kla_eval hdef ?_
 rw[hq]
 cases hf:codeAmong pos ps.toList with
 | none=>
  refine kla_makeFunction (mg:=X.mg) hcl I.ok.glob hgs hc1 C p1 p2 hf hgP hB λc' ctv h' tk hx hge hlt hrec htb=>?_
  obtain⟨c2,oc,vs,tq,e2,hoc,hd,hv⟩:=hrec
  cases e2
  have hcn:H c'=none:=I.hok.fresh hge
  have hfn:H h'.objs.size=none:=I.hok.fresh (L9 (R8 hge hlt))
  have hcf:c'≠h'.objs.size:=C9 hlt
  have hPc:P≠c':=λz=>by rw[z,hcn]at t2;cases t2
  have hPf:P≠h'.objs.size:=λz=>by rw[z,hfn]at t2;cases t2
  generalize hfo:kla_obj "<lambda>" nR params body scope cl ((X.mg "__name__").getD .none) c' ctv=fo
  generalize hfa:h'.objs.size=fa at *
  have gf:(h'.push fo).get? fa=some fo:=by rw[←hfa];exact Heap.get?_push_size _ (by rw[←hfo];rfl)
  have gk:∀b o,b≠P→s.heap.get? b=some o→(h'.push fo).get? b=some o:=λb o hb e=>Heap.get?_push_of_some _ (hx b o hb e)
  have st:∀{b:Addr} {o:HO},H b=some o→upd (upd H c' (.qG oc (.own P))) fa (.ext λh=>h.get? fa=some fo) b=some o:=λ{b o} e=>by
   rw[aQ (bH e hfn),aQ (bH e hcn)];exact e
  have hfl:fa<s.heap.objs.size→False:=λz=>absurd (D1 hlt (L9 z)) (Nat.not_lt_of_le hge)
  have fr:∀b o,s.heap.get? b=some o→H b=none→upd (upd H c' (.qG oc (.own P))) fa (.ext λh=>h.get? fa=some fo) b=none:=λb o e n=>by
   have hb:=Heap.lt_size e
   rw[aQ (λz=>hfl (by rw[←z];exact hb)),aQ (C9 (D1 hb hge))];exact n
  have I':Inv X pins σ (upd (upd H c' (.qG oc (.own P))) fa (.ext λh=>h.get? fa=some fo)) {s with heap:=h'.push fo,toks:=tk}:=by
   refine I.un ⟨λb o e n _ _=>gk b o (λz=>by rw[z,t2]at n;cases n) e,λb o e n _ _=>⟨o.slots,gk b o (λz=>by rw[z,t2]at n;cases n) e⟩,λb o e n _=>fr b o e n,λb o e _=>?_,λb xs e=>st e,λb o u e=>st e,λb qs e=>⟨#[],by rw[st e];simp⟩⟩ λb u e=>?_
   ·by_cases hb:b=P
    ·exact⟨_,by rw[hb];exact Heap.get?_push_of_some _ htb⟩
    ·exact⟨o,gk b o hb e⟩
   ·by_cases hbf:b=fa
    ·subst hbf
     rw[aX]at e
     cases e
     exact⟨gf,⟨_,gf⟩,λh1 h2 a1 a2=>a2 _ a1⟩
    ·rw[aQ hbf]at e
     by_cases hbc:b=c'
     ·subst hbc
      rw[aX]at e
      cases e
      exact⟨Heap.get?_push_of_some _ hoc,⟨oc,Heap.get?_push_of_some _ hoc⟩⟩
     ·rw[aQ hbc]at e
      by_cases hbP:b=P
      ·subst hbP
       rw[t2]at e
       cases e
       refine⟨_,Heap.get?_push_of_some _ htb,?_,λpos' x hxx=>?_⟩
       ·have:=TriplesOk_snoc pos.line pos.col (.ref c') _ p2
        simpa using this
       ·have hl:(ps++#[rawInt pos.line,rawInt pos.col,Value.ref c']).toList=ps.toList++[rawInt pos.line,rawInt pos.col,.ref c']:=by simp
        rw[hl]at hxx
        rcases Py _ p2 hxx with z | z
        ·obtain⟨c3,oc3,q3,t4,e3,e4,e5,e6⟩:=p3 pos' x z
         exact⟨c3,oc3,q3,t4,e3,e4,st e5,e6⟩
        ·subst z
         exact⟨c',oc,nR,t,t3,rfl,by rw[aQ hcf,aX],vs,tq,hd,hv⟩
      ·refine(I.hok b u e).stay (λd v hdv q=>gk d v ?_ q) (λ_ q=>st q) (λ_ _ q=>st q) λ_ _ _ q=>st q
       rcases hdv with z | z
       ·rw[z];exact hbP
       ·intro z2;rw[z2,t2]at z;cases z
  exact h fa c' oc P _ ctv _ _ I' (λb o e=>st e) (by rw[aX,←hfo]) (by rw[aQ hcf,aX]) ⟨vs,tq,hd,hv⟩
 | some cv=>
  obtain⟨c',oc,q,t',e1,rfl,e2,e3⟩:=p3 pos cv hf
  rw[t3]at e1
  cases e1
  refine kla_makeFunctionHit (mg:=X.mg) hcl I.ok.glob hgs hc1 C p1 p2 hf hB λctv h' tk hk hsz=>?_
  have hfn:H h'.objs.size=none:=I.hok.fresh hsz
  generalize hfo:({cls:=.type "function", data:=.func (kla_fn "<lambda>" nR params body scope cl ((X.mg "__name__").getD .none) (.ref c') ctv)}:Obj)=fo
  generalize hfa:h'.objs.size=fa at *
  have gf:(h'.push fo).get? fa=some fo:=by rw[←hfa];exact Heap.get?_push_size _ (by rw[←hfo];rfl)
  have I':=I.laid (a:=fa) (o:=.ext λh=>h.get? fa=some fo) (h':=h'.push fo) (t':=tk) (λb u e=>Heap.get?_push_of_some _ (hk b u e)) hsz ⟨gf,⟨_,gf⟩,λh1 h2 a1 a2=>a2 _ a1⟩
  exact h fa c' oc P _ ctv _ _ I' (bF hfn _) (by rw[aX,←hfo]) (by rw[aQ (bH e2 hfn)];exact e2) e3
structure oR(tR scope:Scope)(oN N:List Str)(x0:Str)(fr:List Nat):Prop where
 kind:scope.kind=.function
 co:scope.isCoroutine=false
 gen:scope.isGenerator=false
 cell:∀y∈scope.names,y.2≠.cell
 free:∀y∈scope.names,y.2=.free→tR.names.lookup y.1=some .cell∨tR.names.lookup y.1=some .free
 len:N.length=1+fr.length
 fst:N[0]?=some x0
 slots:∀j∈D6 fr.length,oN[fr.getD j 0]?=N[1+j]?
 par:scope.names.lookup x0=some .local
 from_:∀x∈N.drop 1,(x,NameKind.free)∈scope.names∧scope.names.lookup x=some .free
def En(X:Cx)(scope:Scope)(N:List Str)(cl:List (Str×Addr))(A:Around)(f:Addr)(cd:Value)(s:Shared)(H:Hp):Cx where
 prog:=X.prog
 w:=X.w
 K:=X.K
 mg:=X.mg
 base:=X.base
 A:=A.deeper (envX nR scope s.heap.objs.size f cd cl)
 N:=N
 s₀:=s
 H₀:=H
 env:=envX nR scope s.heap.objs.size f cd cl
 outer:=X.stack
 stack:=envX nR scope s.heap.objs.size f cd cl::X.stack
 ex:=[]
 calm:=X.calm
 fn:=λ_=>false
 pn:=[]
 xe:=λ_ _=>False
theorem Wf{scope:Scope}{N:List Str}{x0:Str}{fr:List Nat}{cl:List (Str×Addr)}{A:Around}{f:Addr}{cd:Value}{v:V}{u:Value}{h₁:Heap}{tk:Nat}(I:Inv X pins σ H s)(B:oR X.env.scope scope X.N N x0 fr)(hA:A.frames=some X.stack)(hh:X.calm=true→A.handled=none)
    (hcl:∀x c,cl.lookup x=some c→(x,NameKind.free)∈scope.names∧X.env.cells.lookup x=some c) (vP:∀x,(x,NameKind.free)∈scope.names→∃c,cl.lookup x=some c) (r:RelV v u)
    (hn:h₁.Ns s.heap.objs.size (λx=>[(x0,u)].reverse.lookup x)) (hs:Heap.SameBut s.heap.objs.size (s.heap.push {cls:=.type "frame", data:=.dict #[]}) h₁) :
    Inv (En X scope N cl A f cd s H) [] (some v::uJ σ fr) H {s with heap:=h₁,toks:=tk}:=by
  have kept:∀b o,s.heap.get? b=some o→h₁.get? b=some o:=λb o e=>hs.extBut b o (C9 (Heap.lt_size e)) (Heap.get?_push_of_some _ e)
  have NZ:∀b:Addr,b∉(En X scope N cl A f cd s H).ex:=λb z=>absurd (show b∈([]:List Addr)from z) (by simp)
  refine⟨⟨I.ok.mod,B.kind,rfl,rfl,B4 _,λx y c h1 h2=>I.ok.inj x y c (hcl x c h1).2 (hcl y c h2).2,λx hx=>?_,λx c h _=>(nomatch h),hh,Around.frames_deeper hA,.inr ⟨rfl,rfl⟩,λb z=>absurd z (NZ b),λb o e=>I.bs b o e,E5 I.ok.KZ I.sz,λb _ _=>NZ b,λb z=>absurd z (NZ b),I.stack,I.Fj,I.tab⟩,
    rfl,I.bare,Un.kept kept,⟨_,hn,λi x v' h1 h2 h3=>?_⟩,λx c e=>?_,I.hok.fresh (B4 _),λx c e=>I.nY x c (hcl x c e).2,λp hp=>absurd (show p∈([]:List (Addr×Obj))from hp) (by simp),I.hok.kept kept,?_⟩
  · have hx:scope.names.lookup x=some .cell∨scope.names.lookup x=some .free:=hx
    rcases hx with hx | hx
    · exact absurd rfl (B.cell _ (J3 hx))
    · exact vP x (J3 hx)
  · cases i with
    | zero=>
      have h1:N[0]?=some x:=h1
      rw[B.fst]at h1
      cases h1
      rw[List.getElem?_cons_zero]at h2
      cases h2
      refine⟨u,r,.inl ⟨B.par,?_⟩⟩
      simp
    | succ j=>
      rw[U1]at h2
      have h1:N[j+1]?=some x:=h1
      unfold uJ at h2
      rw[C8]at h2
      cases h4:fr[j]? with
      | none=>rw[h4]at h2;cases h2
      | some o=>
        rw[h4]at h2
        have h5:some (σ.getD o none)=some (some v'):=h2
        have h5:=F5 h5
        rw[B3]at h5
        have h6:σ[o]?=some (some v'):=by
          cases e2:σ[o]? with
          | none=>rw[e2]at h5;cases h5
          | some z=>rw[e2]at h5;exact congrArg some h5
        have hj:j<fr.length:=(B8.mp h4).1
        have hx:X.N[o]?=some x:=by
          have q:=B.slots j (J8.mpr hj)
          rw[B3,h4]at q
          rw[show 1+j=j+1 from Nat.add_comm _ _]at q
          exact q.trans h1
        obtain⟨hfr,hre⟩:=B.from_ x (J6 (i:=j) (by rw[P9,show 1+j=j+1 from Nat.add_comm _ _];exact h1))
        have hk:=B.free _ hfr rfl
        obtain⟨m0,hn0,hl0⟩:=I.loc
        have hv:xu X.env.scope x:=by
          rcases hk with q | q
          · exact .inr (.inl q)
          · exact .inr (.inr q)
        obtain⟨u',r',l⟩:=hl0 o x v' hx h6 hv
        refine⟨u',r',.inr ?_⟩
        rcases l with ⟨q,_⟩ | ⟨_,c,e,z⟩
        · rcases hk with q' | q'
          · exact absurd (q.symm.trans q') (by intro z;cases z)
          · exact absurd (q.symm.trans q') (by intro z;cases z)
        · obtain⟨c',e'⟩:=vP x hfr
          have e2:=(hcl x c' e').2
          rw[e]at e2
          cases e2
          refine⟨.inr hre,c,e',?_⟩
          obtain⟨oc,hoc,hd⟩:=z
          exact⟨oc,kept c oc hoc,hd⟩
  · obtain⟨v',oc,hoc,hd⟩:=I.cell x c (hcl x c e).2
    exact⟨v',oc,kept c oc hoc,hd⟩
  · show (some v::uJ σ fr).length=N.length
    rw[B.len]
    unfold uJ
    simp
    omega
theorem CP{params:Arguments}{body:Expr}{scope:Scope}{N:List Str}{x0:Str}{fr:List Nat}{cl:List (Str×Addr)}{A:Around}{f c' P:Addr}{oc:Obj}{pm ctv:Value}{v:V}{u:Value}{te:TE}{Q:VK}{E:Value→Shared→Prop}(I:Inv X pins σ H s)(B:oR X.env.scope scope X.N N x0 fr)(hA:A.frames=some X.stack)(hh:X.calm=true→A.handled=none)(hroom:A.depth<recursionLimit)
  (hcl:∀x c,cl.lookup x=some c→(x,NameKind.free)∈scope.names∧X.env.cells.lookup x=some c) (vP:∀x,(x,NameKind.free)∈scope.names→∃c,cl.lookup x=some c) (r:RelV v u)
  (hf:H f=some (.ext λh=>h.get? f=some (kla_obj "<lambda>" nR params body scope cl pm c' ctv))) (hc:H c'=some (.qG oc (.own P))) (hco:Rc oc nR)
  (hbind:∀(fd:FuncData)(u:Value),fd=kla_fn "<lambda>" nR params body scope cl pm (.ref c') ctv→bindArgs fd ⟨[u],[]⟩=pure [(x0,u)])
  (he:∀A f cd s H,PE (En X scope N cl A f cd s H) body te) (h:te (some v::uJ σ fr) H Q) :
  wpAny (model X.prog X.w) A (call (.ref f) [u]) (EP X pins σ Q) E s:=by
 obtain⟨ho,_⟩:=I.hok f _ hf
 obtain⟨hoc,_⟩:=I.hok c' _ hc
 obtain⟨vs,tq,hd,hv⟩:=hco
 refine wpAny_call (kla_callFunE hroom ho rfl B.co B.gen rfl ⟨c',oc,vs,tq,rfl,hoc,hd,hv⟩ ?_)
 rw[hbind _ u rfl]
 refine wpAny_pure (wpAny_newFunctionEnv B.cell (λy hy=>?_) (λh₁ hns hsb=>⟨(I.nolimit).fresh _ hsb,?_⟩) B.kind)
 ·rw[C6.mp hy];exact B.par
 show codeAny _ _ (.expr body (envX nR scope s.heap.objs.size f (.ref c') cl)) _ _
 have J:=Wf (tk:=s.toks+[(x0,u)].length) (cd:=.ref c') (f:=f) I B hA hh hcl vP r hns hsb
 refine kla_codeExpr (wpAny_mono (he A f (.ref c') s H [] _ _ H Q J h) (λu' s' hs'=>?_) λ_ _ z=>z.elim)
 obtain⟨v',H',J',r',q'⟩:=hs'
 exact⟨v',H',I.call' (ch:=[]) J'.os J'.base J'.hok J'.bare (λb z=>absurd z (by simp)),r',q'⟩
end
end L2


namespace L2
open PySem PySem.W PySem.Spec PySem.Calls PyProof.Rows
abbrev T3:=Int×Int×Int
def enc(p:T3):Int:=p.1*1000000+p.2.1*1000+p.2.2
def Bd(p:T3):Prop:=0≤p.1∧p.1<1000∧0≤p.2.1∧p.2.1<1000∧0≤p.2.2∧p.2.2<1000
instance (p:T3):Decidable (Bd p):=by unfold Bd;exact inferInstance
def Wg(h:Heap):List Value→List T3→Prop
 | [],ps=>ps=[]
 | v::vs,ps=>∃p qs,ps=p::qs∧(∃a t u w,v=.ref a∧IsTup h a #[.int p.1 t,.int p.2.1 u,.int p.2.2 w])∧Wg h vs qs
theorem Wg.at_{h:Heap}:∀{vs:List Value} {ps:List T3} {i:Nat},Wg h vs ps→i<vs.length→∃a t u w,vs.getD i .none=.ref a∧IsTup h a #[.int (ps.getD i (0,0,0)).1 t,.int (ps.getD i (0,0,0)).2.1 u,.int (ps.getD i (0,0,0)).2.2 w]
 | [],ps,i,_,hi=>by simp at hi
 | v::vs,ps,0,x,_=>by
  unfold Wg at x
  obtain⟨p,qs,rfl,⟨a,t,u,w,rfl,y⟩,_⟩:=x
  exact⟨a,t,u,w,rfl,y⟩
 | v::vs,ps,i+1,x,hi=>by
  unfold Wg at x
  obtain⟨p,qs,rfl,_,r⟩:=x
  obtain⟨a,t,u,w,e,y⟩:=r.at_ (i:=i) (by simpa using hi)
  exact⟨a,t,u,w,e,y⟩
theorem Wg.tups{h:Heap}:∀{vs:List Value} {ps:List T3},Wg h vs ps→∃fs,KatTups h vs fs∧fs.length=vs.length∧∀v∈fs,∃i t,v=Value.int i t
 | [],ps,x=>⟨[],KatTups.nil,rfl,λv hv=>by cases hv⟩
 | v::vs,ps,x=>by
  unfold Wg at x
  obtain⟨p,qs,e,⟨a,t,u,w,rfl,o,ho,hc,n,hd⟩,r⟩:=x
  obtain⟨fs,k,l,m⟩:=r.tups
  refine⟨.int p.1 t::fs,KatTups.cons ho hc hd rfl k,by rw[E7,E7,l],λw hw=>?_⟩
  rcases C4.mp hw with z | z
  ·exact⟨_,_,z⟩
  ·exact m w z
section
variable{prog:Program}{w:World}{A:Around}{E:Value→Shared→Prop}{s:Shared}{ks vs:List Value}{ts:List T3}{key:Nat→Int}
theorem su{i j:Nat}{C:Bool→Shared→Prop}(hp:Wg s.heap ks ts)(hk:∀i,i<ks.length→key i=enc (ts.getD i (0,0,0))∧Bd (ts.getD i (0,0,0)))(hi:i<ks.length)(hj:j<ks.length)(h:C (Tr key i j) s) :
  kas_ask prog w A (tuples' true) ks i j C s:=by
 obtain⟨a,t,u,x,e1,o1,ho1,hc1,n1,hd1⟩:=hp.at_ hi
 obtain⟨b,t',u',x',e2,o2,ho2,hc2,n2,hd2⟩:=hp.at_ hj
 obtain⟨k1,b1⟩:=hk i hi
 obtain⟨k2,b2⟩:=hk j hj
 unfold Tr at h
 rw[k1,k2]at h
 generalize ts.getD i (0,0,0)=p at *
 generalize ts.getD j (0,0,0)=q at *
 obtain⟨p1,p2,p3⟩:=p
 obtain⟨q1,q2,q3⟩:=q
 unfold enc at h
 unfold Bd at b1 b2
 dsimp only at *
 unfold kas_ask
 rw[e1,e2]
 refine kat_lt ho1 hd1 ho2 hd2 ?_
 refine kat_cons (wpAny_eqBool_int ?_)
 by_cases c1:p1=q1
 ·subst c1
  rw[beq_self_eq_true]
  refine kat_yes (kat_cons (wpAny_eqBool_int ?_))
  by_cases c2:p2=q2
  ·subst c2
   rw[beq_self_eq_true]
   refine kat_yes (kat_cons (wpAny_eqBool_int ?_))
   by_cases c3:p3=q3
   ·subst c3
    rw[beq_self_eq_true]
    refine kat_yes (kat_nil ?_)
    rw[decide_eq_false (Int.lt_irrefl _)]at h
    exact h
   ·rw[beq_eq_false_iff_ne.mpr c3]
    refine kat_no (kat_one _ _ (W9 ?_))
    show C (decide (p3<q3)) s
    rw[decide_eq_decide.mpr (show p3<q3↔p1*1000000+p2*1000+p3<p1*1000000+p2*1000+q3 by omega)]
    exact h
  ·rw[beq_eq_false_iff_ne.mpr c2]
   refine kat_no (kat_one _ _ (W9 ?_))
   show C (decide (p2<q2)) s
   rw[decide_eq_decide.mpr (show p2<q2↔p1*1000000+p2*1000+p3<p1*1000000+q2*1000+q3 by omega)]
   exact h
 ·rw[beq_eq_false_iff_ne.mpr c1]
  refine kat_no (oneLt_int ?_)
  rw[decide_eq_decide.mpr (show p1<q1↔p1*1000000+p2*1000+p3<q1*1000000+q2*1000+q3 by omega)]
  exact h
theorem UT{a kS:Addr}{e e1:Nat}{P:PySem.Fin→Shared→Prop}(hl:ks.length=vs.length)(h64:vs.length<64)(hp:Wg s.heap ks ts)(hk:∀i,i<ks.length→key i=enc (ts.getD i (0,0,0))∧Bd (ts.getD i (0,0,0)))(hd:∀i j,i<vs.length→j<vs.length→i≠j→key i≠key j)
  (hkS:s.heap.get? kS=some (seqObj "list" ks.toArray e)) (ha:s.heap.get? a=some (seqObj "list" #[] e1)) (hne:kS≠a)
  (h:∀(p:List Nat)(h':Heap)(c1 c2:Nat),p.Perm (D6 vs.length)→(p.map key).Pairwise (·≤·)→(∀b,b≠kS→b≠a→h'.get? b=s.heap.get? b)→h'.get? kS=some (seqObj "list" #[] c1)→h'.get? a=some (seqObj "list" (p.map λi=>vs.getD i Value.none).toArray c2)→P (.done (.ret .none)) {s with heap:=h'}) :
  wpAny (model prog w) A (ksk_end a false vs.toArray e1 (.ref kS) ks.toArray) P E s:=by
 have fin:∀(st:SortSt)(p:List Nat),(arrOf st).map (·.2)=(p.map λi=>vs.getD i Value.none).toArray→failedOf st=none→p.Perm (D6 vs.length)→(p.map key).Pairwise (·≤·)→wpAny (model prog w) A (ksk_tail a false e1 (.ref kS) st) P E s:=by
  intro st p hout hf hpm hs
  have hlp:p.length=vs.length:=by rw[hpm.length_eq,F3]
  unfold ksk_tail
  try dsimp only
  rw[hout]
  refine wpAny_bind (listUpdate_at hkS rfl ?_ (by rw[B6,sizeLine_eq];omega) (G9 _))
  obtain⟨c1,g1⟩:∃c1,(s.heap.update kS (Obj.mapSeq λ_=>(#[]:Array Value))).get? kS=some (seqObj "list" #[] c1):=⟨_,get?_update_seq hkS λ_=>#[]⟩
  have g2:(s.heap.update kS (Obj.mapSeq λ_=>(#[]:Array Value))).get? a=some (seqObj "list" #[] e1):=(Heap.get?_update_ne _ _ _ _ (Ne.symm hne)).trans ha
  refine wpAny_bind (wpAny_letGo ?_)
  refine wpAny_bind (seqEpoch_at g2 rfl ?_)
  refine wpAny_bind (listUpdate_at g2 rfl ?_ (G9 _) (by simp only[K5,if_false];rw[B6,B5,hlp,sizeLine_eq];omega))
  rw[hf]
  simp only[bne_self_eq_false,K5,if_false]
  obtain⟨c2,g3⟩:∃c2,((s.heap.update kS (Obj.mapSeq λ_=>(#[]:Array Value))).update a (Obj.mapSeq λ_=>(p.map λi=>vs.getD i Value.none).toArray)).get? a=some (seqObj "list" (p.map λi=>vs.getD i Value.none).toArray c2):=⟨_,get?_update_seq g2 λ_=>(p.map λi=>vs.getD i Value.none).toArray⟩
  refine wpAny_pure (h p _ c1 c2 hpm hs (λb hb1 hb2=>?_) ((Heap.get?_update_ne _ _ _ _ hne).trans g1) g3)
  exact(Heap.get?_update_ne _ _ _ _ hb2).trans (Heap.get?_update_ne _ _ _ _ hb1)
 unfold ksk_end
 try dsimp only
 simp only[K5,if_false]
 by_cases h2:vs.toArray.size<2
 ·rw[if_pos h2,if_pos h2]
  have h2':vs.length<2:=by rw[B6]at h2;exact h2
  refine wpAny_bind (wpAny_pure ?_)
  rw[StateT.run_pure]
  refine wpAny_bind (wpAny_pure ?_)
  dsimp only
  refine fin _ (D6 vs.length) ?_ rfl (Q4 _) ?_
  ·have hz:(ks.toArray.zip vs.toArray).size=vs.length:=by rw[Array.size_zip,B6,B6,hl,R3]
   have e:=kas_range (ks.toArray.zip vs.toArray)
   rw[hz]at e
   exact kat_snds (ks:=ks) (vs:=vs) hl (st:=SortSt.mk' general' (ks.toArray.zip vs.toArray) #[] 7 none) (p:=O0 (D6 vs.length)) e.symm
  ·rw[N2,G1]
   intro i j hi hj hij
   rw[F3]at hi hj
   omega
 ·rw[if_neg h2,if_neg h2]
  have h2':2≤vs.length:=by rw[B6]at h2;omega
  obtain⟨fs,hf1,hf2,hf3⟩:=hp.tups
  refine wpAny_bind (kat_kind (T:=.type "int") hf1 (by omega) (λv hv=>?_) rfl ?_)
  ·obtain⟨i,t,rfl⟩:=hf3 v hv
   exact Looks.of_pure rfl
  show wpAny _ _ (sortRuns'.run (SortSt.mk' (tuples' true) (ks.toArray.zip vs.toArray) #[] 7 none) >>= _) _ _ _
  refine wpAny_bind (wpAny_mono (kat_run (E:=E) (Q:=λst' s'=>∃p:Array Nat,p.size=vs.length∧arrOf st'=p.map (kas_item (ks.toArray.zip vs.toArray))∧failedOf st'=none∧(s'=s∧p.toList.Perm (D6 vs.length)∧TY key p vs.length))
   hl h2' h64 (λp' st' s' a1 a2 a3 a4=>⟨p',a1,a2,a3,a4⟩) (Tq (lt:=Tr key) (N:=vs.length) (λi j C hi hj q=>su hp hk (by omega) (by omega) q) _ (dG (λp q=>⟨rfl,q.1,q.2⟩) _ (UG key (by omega) hd)))) ?_ λ_ _ e=>e)
  rintro⟨⟨⟩,st'⟩ s' ⟨p,hz,har,hf,rfl,hpm,hs⟩
  dsimp only
  refine fin _ p.toList (kat_snds hl har) hf hpm ?_
  rw[N2,G1]
  intro i j hi hj hij
  have:=hs i j (by omega) (by rw[F1,hz]at hj;exact hj)
  unfold kA at this
  rw[J5,J5,←E9,←E9,B0 hi,B0 hj]at this
  exact this
end
end L2


namespace L2
open PySem PySem.W PySem.Spec PySem.Calls PyProof.Rows
section
variable{X:Cx}{pins:List (Addr×Obj)}{σ:St}{H:Hp}{s:Shared}{h':Heap}
theorem Inv.sy{x y:Addr}{o u:HO}{t':Nat}(I:Inv X pins σ H s)(mx:KQ (H x))(my:KQ (H y))(ne:x≠y)(k:∀b v,b≠x→b≠y→s.heap.get? b=some v→h'.get? b=some v)(hx:∃v,h'.get? x=some v)(hy:∃v,h'.get? y=some v)
  (nx:cI X.prog X.w (upd (upd H x o) y u) h' x o) (ny:cI X.prog X.w (upd (upd H x o) y u) h' y u):Inv X pins σ (upd (upd H x o) y u) {s with heap:=h',toks:=t'}:=by
 have n1:∀b,H b=none→b≠x∧b≠y:=λb n=>⟨λz=>by rw[←z,n]at mx;exact mx,λz=>by rw[←z,n]at my;exact my⟩
 have n2:∀b v,H b=some v→¬KQ (some v)→b≠x∧b≠y:=λb v e m=>⟨λz=>by rw[←z,e]at mx;exact m mx,λz=>by rw[←z,e]at my;exact m my⟩
 have st:∀{b:Addr} {v:HO},H b=some v→¬KQ (some v)→upd (upd H x o) y u b=some v:=λ{b v} e m=>by rw[aQ (n2 b v e m).2,aQ (n2 b v e m).1];exact e
 refine I.un ⟨λb v e n _ _=>k b v (n1 b n).1 (n1 b n).2 e,λb v e n _ _=>⟨v.slots,k b v (n1 b n).1 (n1 b n).2 e⟩,λb v e n _=>by rw[aQ (n1 b n).2,aQ (n1 b n).1];exact n,λb v e _=>?_,λb xs e=>st e λz=>z,λb ob v e=>st e λz=>z,λb qs e=>⟨#[],by rw[st e λz=>z];simp⟩⟩ λb v e=>?_
 ·by_cases h1:b=x
  ·rw[h1];exact hx
  ·by_cases h2:b=y
   ·rw[h2];exact hy
   ·exact⟨v,k b v h1 h2 e⟩
 ·by_cases h2:b=y
  ·subst h2;rw[aX]at e;cases e;exact ny
  ·rw[aQ h2]at e
   by_cases h1:b=x
   ·subst h1;rw[aX]at e;cases e;exact nx
   ·rw[aQ h1]at e
    refine(I.hok b v e).stay (λc w hc q=>?_) (λc q=>st q λz=>z) (λc xs q=>st q λz=>z) λc ob z q=>st q λz=>z
    rcases hc with z | z
    ·rw[z]at q ⊢;exact k b w h1 h2 q
    ·exact k c w (n2 c _ z λz=>z).1 (n2 c _ z λz=>z).2 q
def eN(K:aA)(H:Hp):List Value→List T3→Prop
 | [],ts=>ts=[]
 | k::ks,ts=>∃t r,ts=t::r∧(∃p,k=.ref p∧mO K H p [.int t.1,.int t.2.1,.int t.2.2])∧eN K H ks r
theorem eN.imp{K:aA}{H H':Hp}:∀{ks:List Value} {ts:List T3},eN K H ks ts→(∀p xs,mO K H p xs→mO K H' p xs)→eN K H' ks ts
 | [],ts,h,_=>by unfold eN at h ⊢;exact h
 | k::ks,ts,h,f=>by
  unfold eN at h ⊢
  obtain⟨t,r,e,⟨p,e2,q⟩,z⟩:=h
  exact⟨t,r,e,⟨p,e2,f _ _ q⟩,z.imp f⟩
theorem eN.snoc{K:aA}{H:Hp}{t:T3}{p:Addr}(q:mO K H p [.int t.1,.int t.2.1,.int t.2.2]):∀{ks:List Value} {ts:List T3},eN K H ks ts→eN K H (ks++[.ref p]) (ts++[t])
 | [],ts,h=>by
  unfold eN at h
  subst h
  exact⟨t,[],rfl,⟨p,rfl,q⟩,rfl⟩
 | k::ks,ts,h=>by
  unfold eN at h
  obtain⟨t',r,rfl,z,h2⟩:=h
  exact⟨t',r++[t],rfl,z,h2.snoc q⟩
theorem eN.trs(I:Inv X pins σ H s):∀{ks:List Value} {ts:List T3},eN X.K H ks ts→Wg s.heap ks ts
 | [],ts,h=>by unfold eN at h;unfold Wg;exact h
 | k::ks,ts,h=>by
  unfold eN at h
  unfold Wg
  obtain⟨t,r,rfl,⟨p,rfl,q⟩,z⟩:=h
  refine⟨t,r,rfl,?_,eN.trs I z⟩
  obtain⟨its,w1,w2,_⟩:=I.tuple q
  cases w1 with
  | cons c1 c2=>
   cases c2 with
   | cons d1 d2=>
    cases d2 with
    | cons f1 f2=>
     cases f2
     obtain⟨t1,rfl⟩:=c1
     obtain⟨t2,rfl⟩:=d1
     obtain⟨t3,rfl⟩:=f1
     exact⟨p,t1,t2,t3,rfl,w2⟩
theorem UW{K:aA}{H:Hp}{x:Addr}{φ:Heap→Prop}{o:HO}(e:H x=some (.ext φ))(p:Addr)(xs:List V)(h:mO K H p xs):mO K (upd H x o) p xs:=by
 rcases h with (h | ⟨ob,h⟩) | h
 ·exact .inl (.inl (by rw[aQ (λz=>by rw[z,e]at h;cases h)];exact h))
 ·exact .inl (.inr ⟨ob,by rw[aQ (λz=>by rw[z,e]at h;cases h)];exact h⟩)
 ·exact .inr h
def sortedK(ts:List T3)(ns:List Int):List Int:=(El ((ts.map enc).zip ns)).map (·.2)
theorem Lh{ts:List T3}{ns:List Int}{p:List Nat}(hl:ts.length=ns.length)(hnd:(ts.map enc).Nodup)(hp:p.Perm (D6 ns.length))(hs:(p.map λi=>enc (ts.getD i (0,0,0))).Pairwise (·≤·)) :
  (p.map λi=>(ns.map V.int).getD i V.non)=(sortedK ts ns).map V.int:=by
 have hin:∀i∈p,i<ns.length:=λi hi=>J8.mp (hp.mem_iff.mp hi)
 have hz:((ts.map enc).zip ns).length=ns.length:=by rw[a8,B5,hl,R3]
 have hf:((ts.map enc).zip ns).map (·.1)=ts.map enc:=T5 (by rw[B5,hl];exact B4 _)
 have at_:∀i,i<ns.length→((ts.map enc).zip ns).getD i (0,0)=(enc (ts.getD i (0,0,0)),ns.getD i 0):=λi hi=>by
  have h1:i<ts.length:=by omega
  rw[B3,B3,B3,B0 hi,B0 h1,B0 (by rw[hz];exact hi),Z4,Z5]
  rfl
 have e:=Px (ps:=(ts.map enc).zip ns) (q:=p) (by rw[hf];exact hnd) (by rw[hz];exact hp) (by
  have:p.map (prK ((ts.map enc).zip ns))=p.map λi=>enc (ts.getD i (0,0,0)):=L4 λi hi=>by
   unfold prK
   rw[at_ i (hin i hi)]
  rw[this];exact hs)
 unfold sortedK
 rw[←e,J0,J0]
 refine L4 λi hi=>?_
 have hi':=hin i hi
 show (ns.map V.int).getD i V.non=V.int (((ts.map enc).zip ns).getD i (0,0)).2
 rw[at_ i hi']
 show (ns.map V.int).getD i V.non=V.int (ns.getD i 0)
 rw[B3,B3,C8,B0 hi']
 rfl
theorem Wh{params:Arguments}{body:Expr}{scope:Scope}{N:List Str}{x0:Str}{fr:List Nat}{cl:List (Str×Addr)}{f c' P:Addr}{oc:Obj}{pm ctv:Value}{te:TE}{Q:VK}{l:Addr}{ns:List Int}{ts:List T3}(I:Inv X pins σ H s)(hcalm:X.calm=true)(B:oR X.env.scope scope X.N N x0 fr)(hroom:X.A.depth<recursionLimit)
  (hcl:∀x c,cl.lookup x=some c→(x,NameKind.free)∈scope.names∧X.env.cells.lookup x=some c) (vP:∀x,(x,NameKind.free)∈scope.names→∃c,cl.lookup x=some c)
  (hf:H f=some (.ext λh=>h.get? f=some (kla_obj "<lambda>" nR params body scope cl pm c' ctv))) (hc:H c'=some (.qG oc (.own P))) (hco:Rc oc nR)
  (hbind:∀(fd:FuncData)(u:Value),fd=kla_fn "<lambda>" nR params body scope cl pm (.ref c') ctv→bindArgs fd ⟨[u],[]⟩=pure [(x0,u)])
  (he:∀A f cd s H,PE (En X scope N cl A f cd s H) body te)
  (hq:lH X.K H l (ns.map V.int)) (h64:ns.length<64) (hl:ts.length=ns.length) (hb:∀t∈ts,Bd t) (hnd:(ts.map enc).Nodup)
  (hkey:∀(i:Nat)(n:Int)(t:T3),ns[i]?=some n→ts[i]?=some t→∀H2,aN H H2→te (some (.int n)::uJ σ fr) H2 (λv H3=>aN H2 H3∧∃pp,v=.ref pp∧mO X.K H3 pp [.int t.1,.int t.2.1,.int t.2.2]))
  (q:∀D H4,aN H H4→H D=none→H4 D=some (.lst ((sortedK ts ns).map V.int))→Q (.ref D) H4) :
  wpAny (model X.prog X.w) X.A (call (.builtin "sorted") [.ref l] [(Str.ofString "key", .ref f)]) (EP X pins σ Q) X.xe s:=by
 obtain⟨its,rv,pl,hz⟩:=I.list hq
 have hlen:=rv.length
 rw[B5]at hlen
 refine call_function_entry_kw kind_sorted plain_sorted entry_sorted (ksk_s1 _ _) ?_
 unfold Builtin.«sorted»
 refine wpAny_bind (m:=checkCount "sorted" 1 1 _) (wpAny_pure ?_)
 refine wpAny_bind (collect_list pl.isList ?_ (by rw[sizeLine_eq];omega))
 refine wpAny_bind (wpAny_newList ?_ (by rw[sizeLine_eq];omega))
 have hsz:((s.heap.push (seqObj "list" #[] 0)).update s.heap.objs.size (Obj.mapSeq (·++its.toArray))).objs.size=s.heap.objs.size+1:=by
  rw[Heap.size_update,size_push']
 have hoL:(((s.heap.push (seqObj "list" #[] 0)).update s.heap.objs.size (Obj.mapSeq (·++its.toArray))).push (seqObj "list" its.toArray 0)).get? (s.heap.objs.size+1)=some (seqObj "list" its.toArray 0):=by
  rw[←hsz];exact Heap.get?_push_size _ rfl
 have keep:∀b o,s.heap.get? b=some o→(((s.heap.push (seqObj "list" #[] 0)).update s.heap.objs.size (Obj.mapSeq (·++its.toArray))).push (seqObj "list" its.toArray 0)).get? b=some o:=λb o q=>by
  have hlt:b<s.heap.objs.size:=Heap.lt_size q
  rw[Heap.get?_push_ne _ _ _ (by rw[hsz];exact C9 (F8 hlt)),Heap.get?_update_ne _ _ _ _ (C9 hlt),Heap.get?_push_ne _ _ _ (C9 hlt)]
  exact q
 have hz0:(((s.heap.push (seqObj "list" #[] 0)).update s.heap.objs.size (Obj.mapSeq (·++its.toArray))).push (seqObj "list" its.toArray 0)).objs.size=s.heap.objs.size+2:=by rw[Heap.size_push,hsz]
 show wpAny _ _ _ _ _ {s with heap:=((s.heap.push (seqObj "list" #[] 0)).update s.heap.objs.size (Obj.mapSeq (·++its.toArray))).push (seqObj "list" its.toArray 0)}
 rw[hsz]
 generalize ((s.heap.push (seqObj "list" #[] 0)).update s.heap.objs.size (Obj.mapSeq (·++its.toArray))).push (seqObj "list" its.toArray 0)=g0 at *
 refine wpAny_bind (wpAny_holding (wpAny_call_entry_kw slot_list_sort ⟨_,hoL,rfl⟩ entry_list_sort ?body (ksk_l1 _ _)))
 case body=>
  rw[ksk_t1]
  unfold ksk_tree
  refine wpAny_bind (listItems_at hoL rfl ?_)
  refine wpAny_bind (listUpdate_at hoL rfl ?_ (by rw[B6,sizeLine_eq];omega) (G9 _))
  obtain⟨e1,ho1⟩:∃e1,(g0.update (s.heap.objs.size+1) (Obj.mapSeq λ_=>(#[]:Array Value))).get? (s.heap.objs.size+1)=some (seqObj "list" #[] e1):=⟨_,get?_update_seq hoL λ_=>#[]⟩
  refine wpAny_bind (seqEpoch_at ho1 rfl ?_)
  refine wpAny_bind (wpAny_newTuple ?_ (by show its.length≤_;rw[sizeLine_eq];omega))
  refine wpAny_bind (wpAny_newList ?_ (G9 _))
  refine wpAny_holding ?_
  have hkz:((g0.update (s.heap.objs.size+1) (Obj.mapSeq λ_=>(#[]:Array Value))).push (seqObj "tuple" its.toArray 0)).objs.size=s.heap.objs.size+3:=by rw[size_push',Heap.size_update,hz0]
  show wpAny _ _ _ _ _ {s with heap:=((g0.update (s.heap.objs.size+1) (Obj.mapSeq λ_=>(#[]:Array Value))).push (seqObj "tuple" its.toArray 0)).push (seqObj "list" #[] 0)}
  have gk0:(((g0.update (s.heap.objs.size+1) (Obj.mapSeq λ_=>(#[]:Array Value))).push (seqObj "tuple" its.toArray 0)).push (seqObj "list" #[] 0)).get? (s.heap.objs.size+3)=some (seqObj "list" #[] 0):=by rw[←hkz];exact Heap.get?_push_size _ rfl
  have gD0:(((g0.update (s.heap.objs.size+1) (Obj.mapSeq λ_=>(#[]:Array Value))).push (seqObj "tuple" its.toArray 0)).push (seqObj "list" #[] 0)).get? (s.heap.objs.size+1)=some (seqObj "list" #[] e1):=Heap.get?_push_of_some _ (Heap.get?_push_of_some _ ho1)
  have aAE:∀b o,s.heap.get? b=some o→(((g0.update (s.heap.objs.size+1) (Obj.mapSeq λ_=>(#[]:Array Value))).push (seqObj "tuple" its.toArray 0)).push (seqObj "list" #[] 0)).get? b=some o:=λb o e=>
   Heap.get?_push_of_some _ (Heap.get?_push_of_some _ ((Heap.get?_update_ne _ _ _ _ (C9 (F8 (Heap.lt_size e)))).trans (keep b o e)))
  rw[hkz]
  generalize ((g0.update (s.heap.objs.size+1) (Obj.mapSeq λ_=>(#[]:Array Value))).push (seqObj "tuple" its.toArray 0)).push (seqObj "list" #[] 0)=g3 at *
  have fD:H (s.heap.objs.size+1)=none:=I.hok.fresh (N9 _ _)
  have fK:H (s.heap.objs.size+3)=none:=I.hok.fresh (N9 _ _)
  have lD:s.heap.objs.size≤s.heap.objs.size+1:=N9 _ _
  have lK:s.heap.objs.size≤s.heap.objs.size+3:=N9 _ _
  have nDK:s.heap.objs.size+3≠s.heap.objs.size+1:=by omega
  generalize s.heap.objs.size+1=D at *
  generalize s.heap.objs.size+3=kS at *
  have I1:Inv X pins σ (upd (upd H D (.ext λh=>h.get? D=some (seqObj "list" #[] e1))) kS (.ext λh=>h.get? kS=some (seqObj "list" ([]:List Value).toArray 0))) {s with heap:=g3,toks:=s.toks}:=by
   refine I.more aAE (λb hb=>?_) λb o hb e=>?_
   ·rw[aQ (C9 (D1 hb lK)),aQ (C9 (D1 hb lD))]
   ·by_cases z:b=kS
    ·subst z;rw[aX]at e;cases e
     exact⟨gk0,⟨_,gk0⟩,λh1 h2 a1 a2=>a2 _ a1⟩
    ·rw[aQ z]at e
     by_cases z2:b=D
     ·subst z2;rw[aX]at e;cases e
      exact⟨gD0,⟨_,gD0⟩,λh1 h2 a1 a2=>a2 _ a1⟩
     ·rw[aQ z2,I.hok.fresh hb]at e;cases e
  have s01:aN H (upd (upd H D (.ext λh=>h.get? D=some (seqObj "list" #[] e1))) kS (.ext λh=>h.get? kS=some (seqObj "list" ([]:List Value).toArray 0))):=λb o e=>by
   rw[aQ (bH e fK),aQ (bH e fD)];exact e
  unfold ksk_rest
  refine wpAny_bind (wpAny_rule ?_)
  first
   | rw[List.forIn_toArray]
   | (rw[←X6];simp only[List.toList_toArray])
   | rw[←X6]
  refine wpAny_bind (ksk_fold (λj s'=>∃ks e Hj,Inv X pins σ Hj s'∧aN H Hj∧Hj D=some (.ext λh=>h.get? D=some (seqObj "list" #[] e1))∧Hj kS=some (.ext λh=>h.get? kS=some (seqObj "list" (ks:List Value).toArray e))∧ks.length=j∧eN X.K Hj ks (ts.take j)) its 0 _ ⟨[],0,_,I1,s01,by rw[aQ (Ne.symm nDK),aX],aX,rfl,rfl⟩ (λj x s' hx hI=>?_) λs' hI=>?_)
  ·rw[J7]at hI ⊢
   obtain⟨ks,e,Hj,Ij,sj,dj,kj,lj,aj⟩:=hI
   have hj:j<its.length:=(B8.mp hx).1
   have hjn:j<ns.length:=by omega
   have hjt:j<ts.length:=by omega
   obtain⟨u,hu,ru⟩:=rv.get (i:=j) (x:=.int ns[j]) (by rw[C8,B0 hjn];rfl)
   rw[hx]at hu
   cases hu
   have hkj:=hkey j ns[j] ts[j] (B0 hjn) (B0 hjt) Hj sj
   refine wpAny_bind (wpAny_attempt (wpAny_mono (CP (E:=λ_ _=>False) Ij B (A:=X.A.in1.in1) I.ok.frames (λz=>I.ok.hd z) hroom hcl vP ru (sj _ _ hf) (sj _ _ hc) hco hbind he hkj) (λk s'' hk=>?_) λ_ _ hF=>hF.elim))
   obtain⟨v',Hk,Ik,r',sk,pp,rfl,tk⟩:=hk
   obtain rfl:k=.ref pp:=r'
   have kk:=sk _ _ kj
   obtain⟨gk,_⟩:=Ik.hok kS _ kk
   have ea:(O0 ks).push (.ref pp)=O0 (ks++[.ref pp]):=by simp
   obtain⟨c2,hc2⟩:∃c2,(s''.heap.update kS (Obj.mapSeq (·.push (.ref pp)))).get? kS=some (seqObj "list" (O0 (ks++[.ref pp])) c2):=⟨_,by rw[←ea];exact get?_update_seq gk (·.push (.ref pp))⟩
   try dsimp only
   refine wpAny_bind (listUpdate_at gk rfl ?_ (by rw[B6,sizeLine_eq];omega) (E5 (T1 (Array.size_push ..)) (by rw[B6,sizeLine_eq];omega)))
   refine wpAny_pure ⟨rfl,ks++[.ref pp],c2,upd Hk kS (.ext λh=>h.get? kS=some (seqObj "list" (O0 (ks++[.ref pp])) c2)),Ik.write (t':=s''.toks) (by rw[kk];trivial) (.inl rfl) (λb v hb e=>(Heap.get?_update_ne _ _ _ _ hb).trans e) ⟨_,hc2⟩ ⟨hc2,⟨_,hc2⟩,λh1 h2 a1 a2=>a2 _ a1⟩,λb o e=>?_,?_,aX,by rw[C7,lj];rfl,?_⟩
   ·rw[aQ (bH e fK)];exact sk _ _ (sj _ _ e)
   ·rw[aQ (Ne.symm nDK)];exact sk _ _ dj
   ·have a2:eN X.K Hk ks (ts.take j):=aj.imp λp xs h=>sk.tup h
    have a3:=a2.snoc (t:=ts[j]) tk
    rw[L3,B0 hjt]
    exact a3.imp λp xs h=>UW kk p xs h
  ·rw[J7]at hI
   obtain⟨ks,e,Hn,In,sn,dn,kn,ln,an⟩:=hI
   obtain⟨gk,_⟩:=In.hok kS _ kn
   obtain⟨gD,_⟩:=In.hok D _ dn
   rw[E1 (by omega)]at an
   refine wpAny_bind (listItems_at gk rfl ?_)
   have hgd:∀i,i<ts.length→ts.getD i (0,0,0)∈ts:=λi hi=>by
    rw[B3,B0 hi];exact O9 _
   refine UT (ts:=ts) (key:=λi=>enc (ts.getD i (0,0,0))) ln (by omega) (an.trs In) (λi hi=>⟨rfl,hb _ (hgd i (by omega))⟩) (λi j hi hj ne ee=>?_) gk gD nDK λp h' c1 c2 hpm hs kp g1 g2=>⟨_,rfl,wpAny_pure ⟨_,rfl,?_⟩⟩
   ·have nd:=N1.mp hnd
    rw[N2,G1]at nd
    have hi':i<ts.length:=by omega
    have hj':j<ts.length:=by omega
    rw[B3,B3,B0 hi',B0 hj']at ee
    rcases Nat.lt_or_gt_of_ne ne with z | z
    ·exact nd i j hi' hj' z ee
    ·exact nd j i hj' hi' z ee.symm
   ·have tu:p.Perm (D6 ns.length):=by rw[hlen];exact hpm
    have hin:∀i∈p,i<(ns.map V.int).length:=λi hi=>by
     have:=J8.mp (tu.mem_iff.mp hi)
     rw[B5];exact this
    have vv:=Em rv p hin
    rw[Lh hl hnd tu hs]at vv
    have hsl:((sortedK ts ns).map V.int).length≤sizeLine:=by
     rw[vv.length,B5,tu.length_eq,F3,sizeLine_eq];omega
    have I':Inv X pins σ (upd (upd Hn kS (.ext λh=>h.get? kS=some (seqObj "list" #[] c1))) D (.lst ((sortedK ts ns).map V.int))) {s' with heap:=h',toks:=s'.toks}:=
     In.sy (by rw[kn];trivial) (by rw[dn];trivial) nDK (λb v h1 h2 eb=>(kp b h1 h2).trans eb) ⟨_,g1⟩ ⟨_,g2⟩ ⟨g1,⟨_,g1⟩,λh1 h2 a1 a2=>a2 _ a1⟩ ⟨hsl,_,c2,vv,g2⟩
    refine⟨.ref D,_,I',rfl,q D _ (λb o eb=>?_) fD aX⟩
    rw[aQ (bH eb fD),aQ (bH eb fK)]
    exact sn _ _ eb
end
end L2


namespace L2
open PySem PySem.W PySem.Spec PySem.Calls PyProof.Rows
section
variable{K:aA}{X:Cx}{e a b c:Expr}{es:List Expr}{t ta tb te:TE}{f g fe:FE}{tA:TA}{fs:FA}{pos p kp uc:Pos}
def uU(hi:Int)(n:Nat):List D:=(D6 n).map λi:Nat=>D.int (hi-(i:Int))
theorem CQ{H:Hp}(hi:Int)(n:Nat):bW K H (uU hi n) ((D6 n).map λi:Nat=>V.int (hi-(i:Int))):=by
 unfold uU
 refine bW.of (by simp) λi d x h1 h2=>?_
 rw[C8]at h1 h2
 cases q:(D6 n)[i]? with
 | none=>rw[q]at h1;cases h1
 | some j=>rw[q]at h1 h2;cases h1;cases h2;unfold Rv;rfl
def Li(fs:FA):FA:=λe=>(fs e).bind λds=>match ds with
 | [.int i,.int j,.int m]=>if lim i=true∧lim j=true∧m=-1 then some (uU i (i-j).toNat)else none
 | _=>none
theorem Lj{H:Hp}{d d' d2:D}{vs:List V}(h:bW K H [d,d',d2] vs):∃v v' v2,vs=[v,v',v2]∧Rv K H d v∧Rv K H d' v'∧Rv K H d2 v2:=by
 unfold bW at h
 obtain⟨v,ys,rfl,h1,h⟩:=h
 obtain⟨v',v2,rfl,h2,h3⟩:=Ol h
 exact⟨v,v',v2,rfl,h1,h2,h3⟩
theorem VB{tg:Expr}{p:Pos}(hg:Gl X "range") (hm:X.mg "range" = none) (ha:XA K X [a,b,c] tA fs) (hs:starEach [a,b,c] X.env=(false,eval a X.env)::starEach [b,c] X.env:=by rfl) (h2:∀pos,((backTo pos (starEach [b,c] X.env)).any λx=>x.fst)=false:=by intro _;rfl) :
  XJ K X tg (.Call (.Name "range" p) [a,b,c] [] pos) (YF tA) (Li fs):=⟨QS hg hm ha.pa hs h2,λσ H e ds R re q k=>by
 unfold Li at q
 obtain⟨es,q1,q2⟩:=aV q
 split at q2
 ·rename_i i j m
  split at q2
  ·rename_i hl
   cases q2
   have hl1:=wC hl.1
   have hl2:=wC hl.2.1
   obtain rfl:=hl.2.2
   refine ha.ev σ H H e _ _ (Zn.self K H) re q1 λvs H1 Z1 s1 t1 z1 rs=>?_
   obtain⟨v,w,x,rfl,r,r',r''⟩:=Lj rs
   unfold Rv at r r' r''
   subst r r' r''
   exact⟨i,j,rfl,⟨by omega,by omega,by omega,by omega⟩,k _ H1 _ _ s1 Yp (λ_=>True.intro) λZ=>CQ i (i-j).toNat⟩
  ·cases q2
 ·cases q2⟩
def CT:List V→Hp→VK→Prop:=λxs H Q=>∃(p:Addr)(kvs:List (Key×V)),xs=[.ref p]∧Rd H p (.dK kvs)∧∀l,H l=none→Q (.ref l) (upd H l (.dK kvs))
theorem Lk:gW X (.type "dict") CT:=by
 intro pins s σ H xs us Q I r h
 obtain⟨p,kvs,rfl,hq,q⟩:=h
 obtain⟨u,rfl,rx⟩:=vals1 r
 cases rx
 exact Ym I hq λl s' hl I'=>⟨.ref l,_,I',rfl,q l hl⟩
def wJ:List D→Option D
 | [.dk ks vs]=>if D.bB vs=true then some (.dk ks vs)else none
 | _=>none
theorem Ln:pY K CT wJ:=λvs H ds d Q rs q k=>by
 unfold wJ at q
 split at q
 ·split at q
  ·rename_i hl
   cases q
   obtain⟨v,rfl,r⟩:=lU rs
   unfold Rv at r
   obtain⟨p,xs,rfl,r2,r3,r4⟩:=r
   refine⟨p,_,rfl,r2,λl hn=>k _ _ (bF hn _) ⟨(·=l),?_,λa z=>by cases z;exact hn⟩⟩
   unfold Ow
   exact⟨l,xs,nil,rfl,aX,r3,λz=>z,λx=>⟨.inl,λz=>z.elim id False.elim⟩,rP _ _ hl ((bF hn _).Vp _ _ r4)⟩
  ·cases q
 ·cases q
def ZK(K:aA)(fr:List Nat)(te:TE)(σ:St)(x:V)(H1:Hp)(Q:VK):Prop:=∃(p:Addr)(ns:List Int)(ts:List T3),x=.ref p∧lH K H1 p (ns.map V.int)∧ns.length<64∧ts.length=ns.length∧(∀t∈ts,Bd t)∧(ts.map enc).Nodup ∧
 (∀(i:Nat)(n:Int)(t:T3),ns[i]?=some n→ts[i]?=some t→∀H2,aN H1 H2→te (some (.int n)::uJ σ fr) H2 (λv H3=>aN H2 H3∧∃pp,v=.ref pp∧mO K H3 pp [.int t.1,.int t.2.1,.int t.2.2])) ∧
 ∀D H4,aN H1 H4→H1 D=none→H4 D=some (.lst ((sortedK ts ns).map V.int))→Q (.ref D) H4
def Pz(K:aA)(ta:TE)(fr:List Nat)(te:TE):TE:=λσ H Q=>ta σ H λx H1=>ZK K fr te σ x H1 Q
theorem CV{params:Arguments}{body:Expr}{scope:Scope}{x:Str}(N:List Str)(x0:Str)(fr:List Nat)(hcalm:X.calm=true)(hroom:X.A.depth<recursionLimit)(B:oR X.env.scope scope X.N N x0 fr)(hcode:∃c,X.env.code=.ref c∧F7 X.K (.ref c) "wanted_by_turn" = true) (hq:X.env.qual ++ "<lambda>" = nR)
  (hdef:defaultsOf params X.env=([],[])) (hbind:∀(cl:List (Str×Addr))(pm cd ctv u:Value),bindArgs (kla_fn "<lambda>" nR params body scope cl pm cd ctv) ⟨[u],[]⟩=pure [(x0,u)])
  (hg:Gl X x) (hm:X.mg x=none) (hv:bootBuiltins x=some (.builtin "sorted")) (ha:PE X e ta) (he:∀cl A f cd s H,PE (En X scope N cl A f cd s H) body te) (hn:x ≠ "__name__" := by decide) (hdb:(x==("__debug__" : Str))=false:=by decide)
  (hst:starEach [e] X.env=[(false,eval e X.env)]:=by rfl):PE X (.Call (.Name x p) [e] [⟨some "key", .Lambda params body scope uc,kp⟩] pos) (Pz X.K ta fr te):=by
 intro pins s σ H Q I h
 obtain⟨cl,ecl,hcl,vP⟩:=nJ scope X.env λy hy hk=>I.ok.has y.1 (B.free y hy hk)
 refine wpAny_Call_Name_kw (jT I hg hm hv ?_ hn hdb)
 have ha':PA X [e] (mR ta vO):=eQ ha iZ hst
 refine T7 (eE (ha' pos pins s σ H (λvs H1=>match vs with | [a]=>ZK X.K fr te σ a H1 Q | _=>False) I h) λus s1 ⟨vs,H1,I1,r1,q1⟩=>?_) (by rw[hst];rfl) (by rw[hst];rfl)
 match vs,q1 with
 | [a],q1=>
  obtain⟨u,rfl,ra⟩:=vals1 r1
  show wpAny _ _ (evalAll ((do let v ←eval (.Lambda params body scope uc) X.env;standAt pos;pure v)::[])) _ _ s1
  refine wpAny_evalAll_cons (wpAny_bind (CN I1 hcode hq ecl hdef λf c' oc P pm ctv H2 s2 I2 s12 hf hc hco=>wpAny_bind (wpAny_standAt (wpAny_pure ?_))))
  refine wpAny_evalAll_nil ?_
  obtain⟨p,ns,ts,rfl,w1,w2,w3,w4,w5,w6,w7⟩:=q1
  cases ra
  show wpAny (model X.prog X.w) X.A (call (.builtin "sorted") [.ref p] [(Str.ofString "key", .ref f)]) _ _ _
  have w1':lH X.K H2 p (ns.map V.int):=by
   rcases w1 with z | z
   ·exact .inl (s12.rd z)
   ·exact .inr z
  exact Wh I2 hcalm B hroom hcl vP hf hc hco (λfd u' e=>by rw[e];exact hbind cl pm (.ref c') ctv u') (λA f cd s H=>he cl A f cd s H) w1' w2 w3 w4 w5 (λi n t h1 h2 H3 s3=>w6 i n t h1 h2 H3 (s12.trans s3)) λD H4 s4 hD h4=>w7 D H4 (s12.trans s4) (s12.free hD) h4
def keysOf(g:Int→Option D):List Int→Option (List T3)
 | []=>some []
 | n::ns=>match g n with
  | some (.tup [.int a,.int b,.int c])=>(keysOf g ns).map ((a,b,c)::·)
  | _=>none
theorem Eo{g:Int→Option D}:∀{ns:List Int} {ts:List T3},keysOf g ns=some ts→ts.length=ns.length∧∀(i:Nat)(n:Int)(t:T3),ns[i]?=some n→ts[i]?=some t→g n=some (.tup [.int t.1,.int t.2.1,.int t.2.2])
 | [],ts,h=>by
  unfold keysOf at h
  cases h
  exact⟨rfl,λi n t h1=>by simp at h1⟩
 | n::ns,ts,h=>by
  unfold keysOf at h
  split at h
  ·rename_i a b c hg
   obtain⟨r,hr,rfl⟩:=iT h
   obtain⟨l,at_⟩:=Eo hr
   refine⟨by rw[E7,E7,l],λi m t h1 h2=>?_⟩
   cases i with
   | zero=>cases h1;cases h2;exact hg
   | succ i=>exact at_ i m t h1 h2
  ·cases h
def wK(f:FE)(fr:List Nat)(fe:FE):FE:=λe=>(f e).bind λd=>match d with
 | .lst ds=>(intsOf ds).bind λns=>(keysOf (λn=>fe (some (.int n)::jW e fr)) ns).bind λts=>if ns.length<64∧(∀t∈ts,Bd t)∧(ts.map enc).Nodup then some (.lst ((sortedK ts ns).map D.int))else none
 | _=>none
theorem VD:∀{H:Hp} {ns:List Int},bW K H (ns.map D.int) (ns.map V.int):=λ{H ns}=>iH.mpr rfl
theorem CW{fr:List Nat}(h:Iz K ta f)(he:Gq K te fe):Gq K (Pz K ta fr te) (wK f fr fe):=by
 intro σ H e d Q re q k
 unfold wK at q
 obtain⟨d0,q1,qa⟩:=aV q
 split at qa
 ·rename_i ds
  obtain⟨ns,q2,qb⟩:=aV qa
  obtain⟨ts,q3,qc⟩:=aV qb
  split at qc
  ·rename_i hc
   cases qc
   obtain⟨hl,at_⟩:=Eo q3
   refine h σ H H e _ _ (Zn.self K H) re q1 λv H1 Z1 s1 t1 z1 rv=>?_
   obtain⟨p,rfl,r2⟩:=uO q2 (z1.sm.rv _ _ rv)
   refine⟨p,ns,ts,rfl,r2,hc.1,hl,hc.2.1,hc.2.2,λi n t h1 h2 H2 s2=>?_,λD H4 s4 hD h4=>k _ H4 (s1.trans s4) ⟨(·=D),?_,λa z=>by cases z;exact s1.free hD⟩⟩
   ·refine he _ H2 _ _ _ (Sq (re.same (s1.trans s2)) (show Rv K H2 (.int n) (.int n) by unfold Rv;rfl)) (at_ i n t h1 h2) λv H3 s3 n3=>⟨s3,?_⟩
    have r:=n3.rv
    unfold Rv at r
    obtain⟨a,xs,rfl,ht,hx⟩:=r
    obtain⟨v1,v2,v3,rfl,x1,x2,x3⟩:=Lj hx
    unfold Rv at x1 x2 x3
    subst x1 x2 x3
    exact⟨a,rfl,ht⟩
   ·unfold Ow
    exact⟨D,_,nil,rfl,h4,λz=>z,λx=>⟨.inl,λz=>z.elim id False.elim⟩,rP _ _ (bR _) VD⟩
  ·cases qc
 ·cases qa
theorem CZ{params:Arguments}{body:Expr}{scope:Scope}{x:Str}(N:List Str)(x0:Str)(fr:List Nat)(hcalm:X.calm=true)(hroom:X.A.depth<recursionLimit)(B:oR X.env.scope scope X.N N x0 fr)(hcode:∃c,X.env.code=.ref c∧F7 K (.ref c) "wanted_by_turn" = true) (hq:X.env.qual ++ "<lambda>" = nR)
  (hdef:defaultsOf params X.env=([],[])) (hbind:∀(cl:List (Str×Addr))(pm cd ctv u:Value),bindArgs (kla_fn "<lambda>" nR params body scope cl pm cd ctv) ⟨[u],[]⟩=pure [(x0,u)])
  (hg:Gl X x) (hm:X.mg x=none) (hv:bootBuiltins x=some (.builtin "sorted")) (ha:XR K X e ta f) (he:∀cl A f cd s H,XN K (En X scope N cl A f cd s H) body te fe) (hn:x ≠ "__name__" := by decide) (hdb:(x==("__debug__" : Str))=false:=by decide)
  (hst:starEach [e] X.env=[(false,eval e X.env)]:=by rfl):XN K X (.Call (.Name x p) [e] [⟨some "key", .Lambda params body scope uc,kp⟩] pos) (Pz K ta fr te) (wK f fr fe):=
 ⟨ha.hk,by
  have hk:=ha.hk
  subst hk
  exact CV N x0 fr hcalm hroom B hcode hq hdef hbind hg hm hv ha.pe (λcl A f cd s H=>(he cl A f cd s H).pe) hn hdb hst,CW ha.ev (he [] X.A 0 .none X.s₀ X.H₀).ev⟩
end
end L2


namespace L2
open PySem PySem.Spec PyProof.Rows
abbrev aD(ns:List Int):D:=.lst (ns.map D.int)
theorem lA{i:Nat}{g:GS}(I:Nat→EN→Prop):∀(xs:List D)(env:EN)(n:Nat),I n env→(∀k x env,xs[k]?=some x→I (n+k) env→i<env.length∧∃env',g (env.set i (.fro x))=.next env'∧I (n+k+1) env')→∃env',qC i g xs env=.next env'∧I (n+xs.length) env'
 | [],env,n,h,_=>⟨env,by unfold qC;rfl,h⟩
 | x::xs,env,n,h,st=>by
  obtain⟨h1,env',h2,h3⟩:=st 0 x env rfl h
  obtain⟨gC,a1,a2⟩:=lA I xs env' (n+1) h3 λk y e hk hi=>by
   have:=st (k+1) y e (by simpa using hk) (by rw[show n+(k+1)=n+1+k by omega];exact hi)
   rw[show n+(k+1)+1=n+1+k+1 by omega]at this
   exact this
  refine⟨gC,?_,?_⟩
  ·unfold qC
   rw[if_pos h1,h2]
   exact a1
  ·rw[E7,show n+(xs.length+1)=n+1+xs.length by omega]
   exact a2
theorem jD{g1 g2:GS}{env env':EN}(h:g1 env=.next env'):aU g1 g2 env=g2 env':=by unfold aU;rw[h]
theorem DG{g1 g2:GS}{env:EN}{d:D}(h:g1 env=.ret d):aU g1 g2 env=.ret d:=by unfold aU;rw[h]
theorem qY{f:FT}{g1 g2:GS}{env:EN}(h:f (rE env)=some true):rR f g1 g2 env=g1 env:=by unfold rR;rw[h]
theorem oU{f:FT}{g1 g2:GS}{env:EN}(h:f (rE env)=some false):rR f g1 g2 env=g2 env:=by unfold rR;rw[h]
theorem uV{i:Nat}{f:FE}{env:EN}{d:D}(h:f (rE env)=some d)(hi:i<env.length):bJ i f env=.next (env.set i (.own d)):=by unfold bJ;rw[h];dsimp only;rw[if_pos hi]
theorem mY{f:FE}{env:EN}{d:D}(h:f (rE env)=some d):iK f env=.ret d:=by unfold iK;rw[h]
theorem Lp{i:Nat}{fi:FA}{g:GS}{env:EN}{xs:List D}(h:fi (rE env)=some xs):jM i fi g env=qC i g xs env:=by unfold jM;rw[h]
theorem Hs{js:List Nat}{i:Nat}{fi:FA}{g:GS}{env qD:EN}{xs:List D}(h0:qG js env=qD)(h:fi (zE qD)=some xs):pI js i fi g env=qC i g xs qD:=by unfold pI;rw[h0,h]
theorem lY{n m:Nat}{g:GS}{ds:List D}{d:D}(hl:ds.length=m)(h:g (ds.map SD.fro++E8 (n-m) SD.no)=.ret d):fJ n m g ds=some d:=by unfold fJ;rw[if_pos hl,h]
theorem aP{φ:D→D→Option D}{f g:FE}{e:DE}{a b d:D}(h1:f e=some a)(h2:g e=some b)(h:φ a b=some d):f2 φ f g e=some d:=by unfold f2;rw[h1,h2];exact h
theorem cR{φ:List D→Option D}{fs:FA}{e:DE}{ds:List D}{d:D}(h1:fs e=some ds)(h:φ ds=some d):fL φ fs e=some d:=by unfold fL;rw[h1];exact h
theorem aF{f:FE}{fs:FA}{e:DE}{a:D}{r:List D}(h1:f e=some a)(h2:fs e=some r):aC f fs e=some (a::r):=by unfold aC;rw[h1,h2];rfl
theorem bL{n:Nat}{F:List D→Option D}{fs:FA}{e:DE}{ds:List D}{d:D}(h1:fs e=some ds)(hl:ds.length=n)(h:F ds=some d):bI n F fs e=some d:=by unfold bI;rw[h1];dsimp only[C3];rw[if_pos hl];exact h
theorem bU{f:FE}{e:DE}{b:Bool}(h:f e=some (.bl b)):fB f e=some b:=by unfold fB;rw[h];rfl
theorem yO{f:FT}{e:DE}{b:Bool}(h:f e=some b):Ke f e=some (!b):=by unfold Ke;rw[h];rfl
theorem ud{f g:FT}{e:DE}(h:f e=some false):pH f g e=some false:=by unfold pH;rw[h];rfl
theorem bM{f:FE}{e:DE}{d:D}(h:f e=some d)(i:d.fU=true):cC f e=some d:=Dz.mpr ⟨h,i⟩
theorem jE(i j:Int):dJ (.int i) (.int j)=some (.int (i+j)):=rfl
theorem qZ(i j:Int):zU (.int i) (.int j)=some (.int (i-j)):=by unfold zU yH;exact if_pos True.intro
theorem uW{i j:Int}(h:Ci i j):xY (.int i) (.int j)=some (.int (i*j)):=by unfold xY yH;exact if_pos h
theorem An{i j:Int}(h:0<j)(h2:j<1073741824):nM (.int i) (.int j)=some (.int (i/j)):=by unfold nM yH;exact if_pos (show Ux i j from⟨h,h2⟩)
theorem uX{i j:Int}(h:0<j):fG (.int i) (.int j)=some (.int (i%j)):=by unfold fG yH;exact if_pos h
theorem uY{i j:Int}(h:Uy i j):Jx (.int i) (.int j)=some (.int (i ^ j.toNat)):=by unfold Jx yH;exact if_pos h
theorem uZ(i j:Int):KJ (.int i) (.int j)=some (.bl (decide (i<j))):=by unfold KJ yH;exact if_pos True.intro
theorem rY(i j:Int):Rz (.int i) (.int j)=some (.bl (decide (j<i))):=by unfold Rz yH;exact if_pos True.intro
theorem Ht(i j:Int):dGe (.int i) (.int j)=some (.bl (decide (j≤i))):=by unfold dGe yH;exact if_pos True.intro
theorem Tw(i j:Int):decide (V.int i=V.int j)=decide (i=j):=by
 by_cases c:i=j
 ·subst c;simp
 ·rw[decide_eq_false c,decide_eq_false (λz=>c (by cases z;rfl))]
theorem pK(i j:Int):yJ (.int i) (.int j)=some (.bl (decide (i=j))):=by
 unfold yJ toV
 dsimp only
 rw[if_pos (by rfl),Tw]
theorem yP(i j:Int):Nf (.int i) (.int j)=some (.bl (!decide (i=j))):=by
 unfold Nf toV
 dsimp only
 rw[if_pos (by rfl),Tw]
theorem Qa{α:Type}{xs:List α}{i:Int}{x:α}(h0:0≤i)(h:xs[i.toNat]?=some x):Ye xs i=some x:=by
 have h1:i.toNat<xs.length:=by
  obtain⟨h1,_⟩:=B8.mp h
  exact h1
 unfold Ye yz
 rw[if_pos h0,if_pos (by omega)]
 exact h
theorem vA{ds:List D}{i:Int}{d:D}(h0:0≤i)(h:ds[i.toNat]?=some d):dD (.lst ds) (.int i)=some d:=Qa h0 h
theorem Tz{ds:List D}{i:Int}{d:D}(h0:0≤i)(h:ds[i.toNat]?=some d):dD (.tup ds) (.int i)=some d:=Qa h0 h
theorem jN{ns:List Int}{i:Int}(h0:0≤i)(h:i<ns.length):dD (aD ns) (.int i)=some (.int (ns.getD i.toNat 0)):=Qa h0 (by
 rw[C8,B3,B0 (show i.toNat<ns.length by omega)];rfl)
theorem fY(ns:List Int):jV [aD ns]=some (.int ns.length):=by show some (D.int ((ns.map D.int).length:Nat))=_;rw[B5]
theorem Lq{fi:FA}{fr:List Nat}{fc:FT}{fe:FE}{e:DE}{xs ys:List D}(h1:fi e=some xs)(hl:xs.length≤100000)(h:qR (λx=>fc (some x::jW e fr)) (λx=>fe (some x::jW e fr)) xs=some ys):dF fi fr fc fe e=some (.lst ys):=by
 unfold dF
 rw[h1,C3,if_pos hl,h]
 rfl
theorem Ao(lo:Int)(n:Nat):(dR lo n).length=n:=by unfold dR;rw[B5,F3]
theorem Aq{lo:Int}{n k:Nat}{x:D}(h:(dR lo n)[k]?=some x):k<n∧x=.int (lo+k):=by
 unfold dR at h
 rw[C8]at h
 cases q:(D6 n)[k]? with
 | none=>rw[q]at h;cases h
 | some j=>
  rw[q]at h
  obtain⟨h1,h2⟩:=B8.mp q
  rw[F3]at h1
  rw[X7]at h2
  subst h2
  exact⟨h1,(F5 h).symm⟩
theorem DK{fs:FA}{e:DE}{n:Int}(h:fs e=some [.int n])(h1:-100000≤n)(h2:n≤100000):jL fs e=some (dR 0 n.toNat):=by
 unfold jL
 rw[h]
 dsimp only[C3]
 rw[if_pos (show lim n=true from decide_eq_true ⟨h1,h2⟩)]
theorem DN{fs:FA}{e:DE}{i j:Int}(h:fs e=some [.int i,.int j])(h1:-100000≤i)(h2:i≤100000)(h3:-100000≤j)(h4:j≤100000):Ed fs e=some (dR i (j-i).toNat):=by
 unfold Ed
 rw[h]
 dsimp only[C3]
 rw[if_pos ⟨show lim i=true from decide_eq_true ⟨h1,h2⟩,show lim j=true from decide_eq_true ⟨h3,h4⟩⟩]
theorem aBQ{i j:Int}(h1:-18446744073709551616<i)(h2:i<18446744073709551616):Ci i j:=.inl ⟨h1,h2⟩
theorem ue{i j:Int}(h1:-18446744073709551616<j)(h2:j<18446744073709551616):Ci i j:=.inr ⟨h1,h2⟩
theorem DP{i:Nat}{f:FE}{env:EN}{ds:List D}{d:D}(h1:env[i]?=some (.own (.lst ds)))(h2:f (rE env)=some d)(hl:ds.length<100000):sY i fH f env=.next (env.set i (.own (.lst (ds++[d])))):=by
 unfold sY fH
 rw[h1,h2]
 dsimp only[xZ]
 rw[if_pos hl]
 rfl
end L2


namespace L2
open PySem PySem.Spec PyProof.Rows
section
variable{i j:Nat}{f:FE}{c:FT}{g1 g2 g:GS}{env env':EN}{d:D}{r:SR}{ds:List D}
theorem ZL{b:Bool}(h:c (rE env)=some b)(k1:b=true→aU g1 g env=r)(k2:b=false→aU g2 g env=r):aU (rR c g1 g2) g env=r:=by
 cases b with
 | true=>have k:=k1 rfl;unfold aU at k ⊢;rw[qY h];exact k
 | false=>have k:=k2 rfl;unfold aU at k ⊢;rw[oU h];exact k
theorem DQ{b:Bool}(h:c (rE env)=some b)(hb:b=false)(k:aU g2 g env=r):aU (rR c g1 g2) g env=r:=ZL h (λz=>by rw[hb]at z;cases z) λ_=>k
theorem DR{b:Bool}(h:c (rE env)=some b)(hb:b=true)(k:aU g1 g env=r):aU (rR c g1 g2) g env=r:=ZL h (λ_=>k) (λz=>by rw[hb]at z;cases z)
theorem ZM(k:g env=r):aU eX g env=r:=k
theorem ZP(h:f (rE env)=some d)(k:SR.ret d=r):aU (iK f) g env=r:=(DG (mY h)).trans k
theorem Wi(h:env[i]?=some (.own d)):lV i env=.ret d:=by unfold lV;rw[h]
theorem Hu{fs:FA}{e:DE}(h:fs e=some ds)(hl:ds.length≤100000):Cu fs e=some (.tup ds):=by unfold Cu cap;rw[h];dsimp only[C3];rw[if_pos hl]
theorem eY{fs:FA}{e:DE}(h:fs e=some ds)(hl:ds.length≤100000):iV fs e=some (.lst ds):=by unfold iV cap;rw[h];dsimp only[C3];rw[if_pos hl]
theorem Hv{e:DE}{z:Int}(h:f e=some (.int z)):Ou f e=some (.int (-z)):=by unfold Ou;rw[h];rfl
theorem Hw{e:DE}{T:String}{d':D}(h:f e=some d)(k:Kr T d=some d'):Oq T f e=some d':=by unfold Oq;rw[h];exact k
theorem DW{e:DE}{b:Bool}(h:f e=some (.bl b)):Kf f e=some (.bl (!b)):=by unfold Kf;rw[bU h];rfl
theorem VF{e:DE}{f':FE}(h:f e=some (.bl true))(k:f' e=some d):xM f f' e=some d:=by unfold xM;rw[bU h];exact k
theorem DX{e:DE}{f':FE}{a b:Bool}(h:f e=some (.bl a))(k:f' e=some (.bl b)):xM f f' e=some (.bl (a&&b)):=by
 unfold xM;rw[bU h]
 cases a with
 | true=>exact k
 | false=>rfl
theorem mZ{e:DE}{c':FT}{a b:Bool}(h:c e=some a)(k:c' e=some b):pH c c' e=some (a&&b):=by
 unfold pH;rw[h]
 cases a with
 | true=>exact k
 | false=>rfl
theorem Hx{e:DE}{c':FT}{a b:Bool}(h:c e=some a)(k:c' e=some b):YK c c' e=some (a||b):=by
 unfold YK;rw[h]
 cases a with
 | true=>rfl
 | false=>exact k
theorem cU{e:DE}(h:f e=some (.lst ds)):cM f e=some ds:=by unfold cM;rw[h];rfl
theorem DY{e:DE}(h:f e=some (.tup ds)):cM f e=some ds:=by unfold cM;rw[h];rfl
theorem Wj{a b:List D}(h:D.bB (a++b)=true)(hl:a.length+b.length≤100000):dJ (.lst a) (.lst b)=some (.lst (a++b)):=by
 show (if D.bB (a++b)=true∧a.length+b.length≤100000 then some (D.lst (a++b))else none)=_
 rw[if_pos ⟨h,hl⟩]
theorem lB(d:D)(ds:List D):D.bB (d::ds)=(d.fU&&D.bB ds):=by rw[D.bB]
theorem EY{a b:List D}:D.bB (a++b)=(D.bB a&&D.bB b):=by
 induction a with
 | nil=>rw[P6,D.bB];rfl
 | cons x a ih=>rw[K7,lB,lB,ih,Bool.and_assoc]
theorem Lr{ds:List D}(h:∀d∈ds,d.fU=true):D.bB ds=true:=by
 induction ds with
 | nil=>unfold D.bB;rfl
 | cons d ds ih=>unfold D.bB;rw[h d B9,ih λe he=>h e (B7 _ he)];rfl
theorem vB(ns:List Int):(dTup ns).fU=true:=by unfold dTup D.fU;exact bR ns
theorem wL(h:D.bB ds=true):dList [.lst ds]=some (.lst ds):=by
 show (if D.bB ds=true then some (D.lst ds)else none)=_
 rw[if_pos h]
theorem lZ(ns:List Int):dC (ns.map D.int)=some (ns.map DV.int):=by
 induction ns with
 | nil=>unfold dC;rfl
 | cons n ns ih=>rw[D4];unfold dC cF;rw[C3,ih];rfl
theorem Ls(ns ms:List Int):yJ (aD ns) (aD ms)=some (.bl (decide (ns=ms))):=by
 unfold yJ toV
 dsimp only
 unfold cF
 rw[lZ,lZ]
 dsimp only[Option.map_some]
 rw[if_pos (by unfold DV.depth;rw[lM];decide)]
 congr 2
 rw[M3,oG,decide_eq_true_iff]
 constructor
 ·intro z;injection z with z;exact Jv.mp z
 ·intro z;rw[z]
end
end L2
namespace L2
theorem VG{i:Nat}{e:DE}{d:D}(h:e[i]?=some (some d)):aB i e=some d:=by unfold aB;rw[h];rfl
theorem aAF{e:DE}{d:D}:fC d e=some d:=rfl
theorem FJ{e:DE}:aM e=some []:=rfl
end L2
namespace L2
theorem Lw{i:Nat}{fi:FA}{gb:GS}{env:EN}{n:Nat}(I:Nat→EN→Prop)(h:fi (rE env)=some (dR 0 n))(h0:I 0 env)
  (st:∀(k:Nat) env,k<n→I k env→i<env.length∧∃env',gb (env.set i (.fro (.int k)))=.next env'∧I (k+1) env'):∃env',jM i fi gb env=.next env'∧I n env':=by
 obtain⟨env',h1,h2⟩:=lA (i:=i) (g:=gb) I (dR 0 n) env 0 h0 λk x e hx hi=>by
  rw[J7]at hi ⊢
  obtain⟨hk,rfl⟩:=Aq hx
  rw[X8]
  exact st k e hk hi
 rw[J7,Ao]at h2
 exact⟨env',(Lp h).trans h1,h2⟩
theorem gK(ns:List Int)(n:Int):D.lst (ns.map D.int++[.int n])=aD (ns++[n]):=by unfold aD;rw[O2];rfl
end L2


namespace L2
open PySem PySem.Spec PyProof.Rows
def Qs(Pr:SR→Prop)(r:SR):Prop:=Pr r
section
variable{i j:Nat}{f:FE}{c:FT}{g1 g2 g gb:GS}{env env':EN}{d:D}{ds:List D}{Pr:SR→Prop}
theorem dH(h:f (rE env)=some d)(hi:i<env.length)(k:Qs Pr (g (env.set i (.own d)))):Qs Pr (aU (bJ i f) g env):=by rw[jD (uV h hi)];exact k
theorem Wk(h:g1 env=.next env')(k:Qs Pr (g env')):Qs Pr (aU g1 g env):=by rw[jD h];exact k
theorem VH(k:Qs Pr (g env)):Qs Pr (aU eX g env):=k
theorem Av(k:Pr (.next env)):Qs Pr (eX env):=k
theorem uf{b:Bool}(h:c (rE env)=some b)(k1:b=true→Qs Pr (aU g1 g env))(k2:b=false→Qs Pr (aU g2 g env)):Qs Pr (aU (rR c g1 g2) g env):=by
 cases b with
 | true=>have k:=k1 rfl;unfold aU at k ⊢;rw[qY h];exact k
 | false=>have k:=k2 rfl;unfold aU at k ⊢;rw[oU h];exact k
theorem vC{b:Bool}(h:c (rE env)=some b)(k1:b=true→Qs Pr (g1 env))(k2:b=false→Qs Pr (g2 env)):Qs Pr (rR c g1 g2 env):=by
 cases b with
 | true=>rw[qY h];exact k1 rfl
 | false=>rw[oU h];exact k2 rfl
theorem FN{b:Bool}(h:c (rE env)=some b)(hb:b=false)(k:Qs Pr (aU g2 g env)):Qs Pr (aU (rR c g1 g2) g env):=uf h (λz=>by rw[hb]at z;cases z) λ_=>k
theorem mC(h:f (rE env)=some d)(k:Pr (.ret d)):Qs Pr (iK f env):=by rw[mY h];exact k
theorem tX(h:env[i]?=some (.own d))(k:Pr (.ret d)):Qs Pr (lV i env):=by rw[Wi h];exact k
theorem ZQ(h1:env[i]?=some (.own (.lst ds)))(h2:f (rE env)=some d)(hl:ds.length<100000)(k:Qs Pr (g (env.set i (.own (.lst (ds++[d])))))):Qs Pr (aU (sY i fH f) g env):=by rw[jD (DP h1 h2 hl)];exact k
theorem wM(h1:env[i]?=some (.own (.lst ds)))(h2:f (rE env)=some d)(hl:ds.length<100000)(k:Pr (.next (env.set i (.own (.lst (ds++[d])))))):Qs Pr (sY i fH f env):=by rw[DP h1 h2 hl];exact k
theorem vD{fi:FA}{n:Nat}(I:Nat→EN→Prop)(h:fi (rE env)=some (dR 0 n))(h0:I 0 env)
  (st:∀(k:Nat) env,k<n→I k env→i<env.length∧Qs (λr=>∃env',r=.next env'∧I (k+1) env') (gb (env.set i (.fro (.int k))))) (k:∀env',I n env'→Qs Pr (g env')):Qs Pr (aU (jM i fi gb) g env):=by
 obtain⟨env',h1,h2⟩:=Lw (gb:=gb) I h h0 λk env hk hi=>⟨(st k env hk hi).1,let ⟨e,a,b⟩:=(st k env hk hi).2;⟨e,a,b⟩⟩
 rw[jD h1]
 exact k env' h2
theorem FQ{fi:FA}{n:Nat}(I:Nat→EN→Prop)(h:fi (rE env)=some (dR 0 n))(h0:I 0 env)
  (st:∀(k:Nat) env,k<n→I k env→i<env.length∧Qs (λr=>∃env',r=.next env'∧I (k+1) env') (gb (env.set i (.fro (.int k))))) (k:∀env',I n env'→Pr (.next env')):Qs Pr (jM i fi gb env):=by
 obtain⟨env',h1,h2⟩:=Lw (gb:=gb) I h h0 λk env hk hi=>⟨(st k env hk hi).1,let ⟨e,a,b⟩:=(st k env hk hi).2;⟨e,a,b⟩⟩
 rw[h1]
 exact k env' h2
theorem Lx{js:List Nat}{fi:FA}{qD:EN}{xs:List D}(I:Nat→EN→Prop)(hf:qG js env=qD)(h:fi (zE qD)=some xs)(h0:I 0 qD)
  (st:∀(k:Nat) x env,xs[k]?=some x→I k env→i<env.length∧Qs (λr=>∃env',r=.next env'∧I (k+1) env') (gb (env.set i (.fro x)))) (k:∀env',I xs.length env'→Qs Pr (g env')):Qs Pr (aU (pI js i fi gb) g env):=by
 obtain⟨env',h1,h2⟩:=lA (i:=i) (g:=gb) I xs qD 0 h0 λk x e hx hi=>by
  rw[J7]at hi ⊢
  exact⟨(st k x e hx hi).1,let ⟨e,a,b⟩:=(st k x e hx hi).2;⟨e,a,b⟩⟩
 rw[J7]at h2
 rw[jD ((Hs hf h).trans h1)]
 exact k env' h2
theorem eO{n m:Nat}{Pd:D→Prop}(hl:ds.length=m)(h:Qs (λr=>∃d,r=.ret d∧Pd d) (g (ds.map SD.fro++E8 (n-m) SD.no))):∃d,fJ n m g ds=some d∧Pd d:=by
 obtain⟨d,h1,h2⟩:=h
 exact⟨d,lY hl h1,h2⟩
theorem nA{fs:FA}{e:DE}{n:Nat}(h:fs e=some [.int (n:Int)])(hn:n≤100000):jL fs e=some (dR 0 n):=by
 rw[DK h (by omega) (by omega),C5]
end
end L2
namespace L2
theorem Wl{fi:FA}{fr:List Nat}{fe:FE}{e:DE}{α:Type}{xs:List α}{ψ φ:α→D}(h1:fi e=some (xs.map ψ))(hn:xs.length≤1000)(he:∀x∈xs,fe (some (ψ x)::jW e fr)=some (φ x)):dF fi fr qT fe e=some (.lst (xs.map φ)):=by
 refine Lq h1 (by rw[B5];omega) ?_
 clear h1 hn
 induction xs with
 | nil=>rw[G5,G5];unfold qR;rfl
 | cons x xs ih=>
  rw[D4]
  unfold qR
  show (some true).bind _=_
  rw[C3,if_pos rfl,he x B9,C3,ih λy hy=>he y (B7 _ hy)]
  rfl
theorem Aw{α:Type}{l:List α}{k:Nat}{d:α}(h:k<l.length):l[k]?=some (l.getD k d):=by rw[B3,B0 h];rfl
theorem ug{b:Bool}{f:FE}{l h:FO}{e:DE}{ds:List D}{lo hi:Option Int}(h1:f e=some (.lst ds))(h2:l e=some lo)(h3:h e=some hi)(h4:b=false∨D.bB (kE ds lo hi)=true):Zh b f l h e=some (.lst (kE ds lo hi)):=by
 unfold Zh
 rw[h1,h2,h3]
 dsimp only[C3]
 rw[if_pos h4]
theorem mD(ns ms:List Int)(h:ns.length+ms.length≤100000):dJ (aD ns) (aD ms)=some (aD (ns++ms)):=by
 have:=Wj (a:=ns.map D.int) (b:=ms.map D.int) (by rw[EY,bR,bR];rfl) (by rw[B5,B5];exact h)
 rw[←O2]at this
 exact this
end L2


namespace L2
open PySem PySem.Spec PyProof.Rows
section
variable{i j:Nat}{f:FE}{c:FT}{g1 g2 g gb:GS}{env env':EN}{d:D}{ds:List D}{Pr:SR→Prop}
theorem FW{js:List Nat}{fi:FA}{qD:EN}{xs:List D}(I:Nat→EN→Prop)(hf:qG js env=qD)(h:fi (zE qD)=some xs)(h0:I 0 qD)
  (st:∀(k:Nat) x env,xs[k]?=some x→I k env→i<env.length∧Qs (λr=>∃env',r=.next env'∧I (k+1) env') (gb (env.set i (.fro x)))) (k:∀env',I xs.length env'→Pr (.next env')):Qs Pr (pI js i fi gb env):=by
 obtain⟨env',h1,h2⟩:=lA (i:=i) (g:=gb) I xs qD 0 h0 λk x e hx hi=>by
  rw[J7]at hi ⊢
  exact⟨(st k x e hx hi).1,let ⟨e,a,b⟩:=(st k x e hx hi).2;⟨e,a,b⟩⟩
 rw[J7]at h2
 rw[(Hs hf h).trans h1]
 exact k env' h2
theorem Ep{fc:FT}(I:Nat→EN→Prop)(hs:∀n env,I n env→(fc (rE env)=some false)∨(fc (rE env)=some true∧0<n∧∃env',gb env=.next env'∧I (n-1) env')):∀(fuel n:Nat)(env:EN),n<fuel→I n env→∃env' n',jC fc gb fuel env=.next env'∧I n' env'∧fc (rE env')=some false
 | 0,n,env,h,_=>absurd h (by omega)
 | fuel+1,n,env,h,hi=>by
  rcases hs n env hi with q | ⟨q,hn,env',h1,h2⟩
  ·exact⟨env,n,by unfold jC;rw[q],hi,q⟩
  ·obtain⟨e2,n2,a1,a2,a3⟩:=Ep I hs fuel (n-1) env' (by omega) h2
   refine⟨e2,n2,?_,a2,a3⟩
   unfold jC
   rw[q,h1]
   exact a1
end
end L2
namespace L2
theorem Ua{l:List Int}{b:Int}:(D8 b:Key)∈l.map (D8:Int→Key)↔b∈l:=by
 rw[E2]
 constructor
 ·rintro⟨a,h1,h2⟩;cases h2;exact h1
 ·intro h;exact⟨b,h,rfl⟩
theorem Ly{l:List Int}{b:Int}(h:b∉l):posK (l.map (D8:Int→Key)) (D8 b)=none:=vZ.mpr λz=>h (Ua.mp z)
theorem VJ{i:Nat}{f f':FE}{env:EN}{ks:List Key}{ds:List D}{kd d:D}{k:Key}(h1:env[i]?=some (.own (.dk ks ds)))(h2:f (rE env)=some kd)(h3:f' (rE env)=some d)(h4:Vq kd=some k)(h5:posK ks k=none)(im:d.fU=true)(hl:ks.length<100000):dX i fH f f' env=.next (env.set i (.own (.dk (ks++[k]) (ds++[d])))):=by
 have e1:zW ks k=ks++[k]:=by unfold zW;rw[h5];rfl
 have e2:putD ks ds k d=ds++[d]:=by unfold putD;rw[h5];rfl
 unfold dX fH
 rw[h1,h2,h3]
 dsimp only[xZ]
 rw[h4]
 dsimp only
 rw[if_pos ⟨im,hl⟩,e1,e2]
 rfl
theorem Wm(l:List Int):D.lst ((l.map (D8:Int→Key)).map kD)=aD l:=by
 unfold aD
 rw[J0]
 rfl
theorem Ub{fc:FT}{gb g:GS}{env:EN}{Pr:SR→Prop}{fuel n:Nat}(I:Nat→EN→Prop)(h0:I n env)(hn:n<fuel)(hs:∀n env,I n env→(fc (rE env)=some false)∨(fc (rE env)=some true∧0<n∧∃env',gb env=.next env'∧I (n-1) env'))
  (k:∀env' n',I n' env'→fc (rE env')=some false→Qs Pr (g env')):Qs Pr (aU (jC fc gb fuel) g env):=by
 obtain⟨env',n',a1,a2,a3⟩:=Ep I hs fuel n env hn h0
 rw[jD a1]
 exact k env' n' a2 a3
end L2
namespace L2
theorem Wn(ns:List Int):Ka (ns.map D.int)=some (ns.map V.int):=by
 induction ns with
 | nil=>unfold Ka;rfl
 | cons n ns ih=>rw[D4];unfold Ka toV;rw[C3,ih];rfl
theorem FZ(neg:Bool)(i:Int)(ns:List Int):wy neg (.int i) (aD ns)=some (.bl (if neg then !decide (i∈ns)else decide (i∈ns))):=by
 unfold wy
 show (some (V.int i)).bind _=_
 rw[C3]
 show (some (ns.map D.int)).bind _=_
 rw[C3,Wn,C3,if_pos ⟨rfl,Vn ns⟩,QV]
end L2


namespace L2
open PySem PySem.Spec PyProof.Rows
def cV(ks:List Int):D:=.dk (ks.map D8) (ks.map λ_=>.bl true)
theorem GC(i:Int)(ks:List Int):(posK (ks.map (D8:Int→Key)) (D8 i)).isSome=decide (i∈ks):=by
 by_cases c:i∈ks
 ·rw[decide_eq_true c]
  cases q:posK (ks.map (D8:Int→Key)) (D8 i)with
  | some j=>rfl
  | none=>exact absurd (Ua.mpr c) (vZ.mp q)
 ·rw[decide_eq_false c,Ly c]
  rfl
theorem jF(neg:Bool)(i:Int)(ks:List Int):iB neg (.int i) (cV ks)=some (.bl (if neg then !decide (i∈ks)else decide (i∈ks))):=by
 show some (D.bl (if neg then !(posK (ks.map (D8:Int→Key)) (D8 i)).isSome else(posK (ks.map (D8:Int→Key)) (D8 i)).isSome))=_
 rw[GC]
def oV(ks:List Int)(k:Int):List Int:=if k∈ks then ks else ks++[k]
theorem Ax(ks:List Int)(k j:Int):j∈oV ks k↔j∈ks∨j=k:=by
 unfold oV
 split
 ·rename_i c
  exact⟨.inl,λz=>z.elim id λe=>by rw[e];exact c⟩
 ·simp
theorem tY{ks:List Int}{k:Int}(h:ks.Nodup):(oV ks k).Nodup:=by
 unfold oV
 split
 ·exact h
 ·rename_i c
  exact Y5.mpr ⟨h,by simp,λx hx y hy=>by
   rw[C6.mp hy]
   intro z
   rw[z]at hx
   exact c hx⟩
theorem GD(ks:List Int)(k:Int):(oV ks k).length≤ks.length+1:=by
 unfold oV
 split
 ·omega
 ·simp
theorem Er(k:Key):∀ks:List Int,T4 (λ(k':Key) (d':D)=>if k'=k then D.bl true else d') (ks.map D8) (ks.map λ_=>D.bl true)=ks.map λ_=>D.bl true
 | []=>rfl
 | a::ks=>by
  rw[D4,D4,L6,Er k ks]
  split<;>rfl
theorem Es{i:Nat}{f f':FE}{env:EN}{ks:List Int}{k:Int}(h1:env[i]?=some (.own (cV ks)))(h2:f (rE env)=some (.int k))(h3:f' (rE env)=some (.bl true))(hl:ks.length<1000):dX i fH f f' env=.next (env.set i (.own (cV (oV ks k)))):=by
 unfold dX fH
 rw[h1,h2,h3]
 dsimp only[xZ,cV]
 show (if D.fU (.bl true)=true∧(ks.map (D8:Int→Key)).length<100000 then _ else _)=_
 rw[if_pos ⟨rfl,by rw[B5];omega⟩]
 have e1:zW (ks.map (D8:Int→Key)) (D8 k)=(oV ks k).map D8:=by
  unfold zW oV
  rw[GC]
  by_cases c:k∈ks
  ·simp[c]
  ·simp[c]
 have e2:putD (ks.map (D8:Int→Key)) (ks.map λ_=>D.bl true) (D8 k) (.bl true)=(oV ks k).map λ_=>D.bl true:=by
  unfold putD oV
  rw[GC]
  by_cases c:k∈ks
  ·rw[decide_eq_true c,if_pos rfl,if_pos c,Er]
  ·rw[decide_eq_false c,if_neg (by decide),if_neg c,O2]
   rfl
 rw[e1,e2]
 rfl
theorem Uc{l:List Int}(hl:l.length≤900):∃ks,fJ 3 1 (aU (bJ 1 (fC (.dk [] []))) (aU (pI [] 2 (cM (aB 0)) (dX 1 fH (aB 2) (fC (.bl true)))) (lV 1))) [aD l]=some (cV ks)∧ks.Nodup∧(∀k,k∈ks↔k∈l)∧ks.length≤l.length:=by
 suffices h:∃d,fJ 3 1 (aU (bJ 1 (fC (.dk [] []))) (aU (pI [] 2 (cM (aB 0)) (dX 1 fH (aB 2) (fC (.bl true)))) (lV 1))) [aD l]=some d∧∃ks,d=cV ks∧ks.Nodup∧(∀k,k∈ks↔k∈l)∧ks.length≤l.length by
  obtain⟨d,h1,ks,rfl,h2⟩:=h
  exact⟨ks,h1,h2⟩
 refine eO rfl ?_
 refine dH (d:=cV []) rfl (V7 rfl) ?_
 refine Lx (xs:=l.map D.int) (λn env=>∃(ks:List Int)(v:SD),env=[.fro (aD l),.own (cV ks),v]∧ks.Nodup∧(∀k,k∈ks↔k∈l.take n)∧ks.length≤n) rfl (cU rfl) ⟨[],_,rfl,c9,λk=>by simp,B4 _⟩ ?_ ?_
 ·rintro k x env hx ⟨ks,v,rfl,h1,h2,h3⟩
  refine⟨by simp,?_⟩
  rw[C8]at hx
  cases qq:l[k]? with
  | none=>rw[qq]at hx;cases hx
  | some j=>
   rw[qq]at hx
   cases hx
   have hk:=(B8.mp qq).1
   refine⟨_,Es (ks:=ks) (k:=j) rfl rfl rfl (by omega),oV ks j,_,rfl,tY h1,λm=>?_,?_⟩
   ·rw[Ax,h2,L3,qq]
    simp
   ·have:=GD ks j
    omega
 ·rintro env ⟨ks,v,rfl,h1,h2,h3⟩
  rw[B5,Z6]at *
  exact tX rfl ⟨_,rfl,ks,rfl,h1,h2,h3⟩
theorem Wo{fi:FA}{fr:List Nat}{fc:FT}{fe:FE}{e:DE}{ms:List Int}(p:Int→Bool)(φ:Int→D)(h1:fi e=some (ms.map D.int))(hn:ms.length≤1000)(hc:∀m∈ms,fc (some (.int m)::jW e fr)=some (p m))(he:∀m∈ms,p m=true→fe (some (.int m)::jW e fr)=some (φ m)) :
  dF fi fr fc fe e=some (.lst ((ms.filter p).map φ)):=by
 refine Lq h1 (by rw[B5];omega) ?_
 clear h1 hn
 induction ms with
 | nil=>rw[G5];unfold qR;rfl
 | cons m ms ih=>
  have ih:=ih (λy hy=>hc y (B7 _ hy)) λy hy=>he y (B7 _ hy)
  rw[D4]
  unfold qR
  rw[hc m B9,C3,K6]
  cases q:p m with
  | true=>rw[if_pos rfl,if_pos rfl,he m B9 q,C3,ih];rfl
  | false=>rw[if_neg (by decide),if_neg (by decide)];exact ih
theorem bV{fi:FA}{fr:List Nat}{fc:FT}{fe:FE}{e:DE}{ms:List Int}(p:Int→Bool)(φ:Int→Int)(h1:fi e=some (ms.map D.int))(hn:ms.length≤1000)(hc:∀m∈ms,fc (some (.int m)::jW e fr)=some (p m))(he:∀m∈ms,p m=true→fe (some (.int m)::jW e fr)=some (.int (φ m))) :
  dF fi fr fc fe e=some (aD ((ms.filter p).map φ)):=by
 rw[Wo p (λm=>.int (φ m)) h1 hn hc he]
 unfold aD
 rw[J0]
 rfl
theorem GF{φ:D→Option D}{f:FE}{e:DE}{a d:D}(h1:f e=some a)(h:φ a=some d):qy φ f e=some d:=by unfold qy;rw[h1];exact h
theorem Qc{ns:List Int}(h:ns.length<64):Tf (aD ns)=some (aD (Vz ns)):=by
 show (intsOf (ns.map D.int)).bind _=_
 rw[jB,C3,if_pos h]
theorem Qd(ns:List Int):La (aD ns)=some (aD ns.reverse):=by
 show (if D.bB (ns.map D.int)=true then some (D.lst (ns.map D.int).reverse)else none)=_
 rw[if_pos (bR _),←List.map_reverse]
theorem Lz(ns:List Int):zY [aD ns]=some (dTup ns):=by
 unfold zY
 dsimp only
 rw[show pZ (aD ns)=some (ns.map D.int)from by unfold aD pZ;rfl,C3,if_pos (bR _)]
 rfl
theorem tZ{ns:List Int}(h:0<ns.length):Af [aD ns]=some (.int (wH ns)):=by
 show (intsOf (ns.map D.int)).bind _=_
 rw[jB,C3,if_pos h]
theorem Ay{α β:Type}(φ:α→β)(l:List α)(lo hi:Option Int):kE (l.map φ) lo hi=(kE l lo hi).map φ:=by
 unfold kE
 rw[B5,←List.map_drop,←List.map_take]
theorem Wq{f:FE}{l h:FO}{e:DE}{ts:List Int}{lo hi:Option Int}(h1:f e=some (dTup ts))(h2:l e=some lo)(h3:h e=some hi):BR f l h e=some (dTup (kE ts lo hi)):=by
 unfold BR
 rw[h1,h2,h3]
 dsimp only[C3,dTup]
 rw[if_pos (bR _),Ay]
theorem vG{b:Bool}{f:FE}{l h:FO}{e:DE}{ns:List Int}{lo hi:Option Int}(h1:f e=some (aD ns))(h2:l e=some lo)(h3:h e=some hi):Zh b f l h e=some (aD (kE ns lo hi)):=by
 rw[ug h1 h2 h3 (.inr (by rw[Ay];exact bR _)),Ay]
theorem uh{α:Type}{l:List α}{c:Nat}(h:c≤l.length):kE l (some (c:Int)) none=l.drop c:=by
 unfold kE
 show (l.drop (HT.fM l.length 0 (some (c:Int)))).take (l.length-HT.fM l.length 0 (some (c:Int)))=_
 rw[uK,show min c l.length=c by omega,E1 (by rw[N8];omega)]
theorem GJ{α:Type}(l:List α)(c:Nat):kE l none (some (c:Int))=l.take c:=by
 unfold kE
 show (l.drop 0).take (HT.fM l.length l.length (some (c:Int))-0)=_
 rw[uK,List.drop_zero,Nat.sub_zero]
 rcases E3 c l.length with z | z
 ·rw[show min c l.length=c by omega]
 ·rw[show min c l.length=l.length by omega,E1 (B4 _),E1 z]
theorem GK{α:Type}(l:List α)(a b:Nat):kE l (some (a:Int)) (some (b:Int))=(l.drop a).take (b-a):=by
 unfold kE
 rw[uK,uK]
 refine O3 λk=>?_
 rw[X9,P9,X9,P9]
 rcases E3 a l.length with z | z
 ·rw[show min a l.length=a by omega]
  by_cases c:k<min b l.length-a
  ·rw[if_pos c,if_pos (by omega)]
  ·rw[if_neg c]
   by_cases c2:k<b-a
   ·rw[if_pos c2,F0 (by omega)]
   ·rw[if_neg c2]
 ·rw[show min a l.length=l.length by omega,F0 (show l.length≤l.length+k by omega),F0 (show l.length≤a+k by omega)]
  split<;>split<;>rfl
structure cX where
 bG:Int
 place:Int
 thing:List Int
 needs:List Int
 deriving Inhabited
def Ma(c:cX):D:=.tup [.int c.bG,.int c.place,dTup c.thing,dTup c.needs]
def bA(cs:List cX):D:=.lst (cs.map Ma)
theorem um(c:cX):(Ma c).fU=true:=by
 unfold Ma D.fU
 rw[lB,lB,lB,lB,vB,vB]
 rfl
theorem GP(cs:List cX):D.bB (cs.map Ma)=true:=Lr λd h=>by
 obtain⟨c,_,rfl⟩:=E2.mp h
 exact um c
abbrev at_(cs:List cX)(k:Nat):cX:=cs.getD k default
theorem pL{cs:List cX}{k:Nat}(h:k<cs.length):dD (bA cs) (.int k)=some (Ma (at_ cs k)):=vA (by omega) (by
 rw[C5,C8,Aw (d:=default) h]
 rfl)
theorem pM(c:cX):dD (Ma c) (.int 0)=some (.int c.bG):=Tz (by decide) rfl
theorem mF(c:cX):dD (Ma c) (.int 3)=some (dTup c.needs):=Tz (by decide) rfl
theorem pN(cs:List cX):jV [bA cs]=some (.int cs.length):=by show some (D.int ((cs.map Ma).length:Nat))=_;rw[B5]
def Good(cs:List cX):Prop:=cs.length≤60∧∀k,k<cs.length→(∀m∈(at_ cs k).needs,0≤m∧m<k)∧(at_ cs k).needs.Pairwise (·<·)∧(at_ cs k).needs.length≤4
def ZR(c:cX):DV:=.tup [.int c.bG,.int c.place,.tup (c.thing.map DV.int),.tup (c.needs.map DV.int)]
theorem Mf(ns:List Int):cF (dTup ns)=some (.tup (ns.map DV.int)):=by
 unfold dTup cF
 rw[lZ]
 rfl
theorem VL(c:cX):cF (Ma c)=some (ZR c):=by
 have i1:∀i:Int,cF (.int i)=some (.int i):=λi=>by unfold cF;rfl
 unfold Ma cF dC
 rw[i1,C3]
 unfold dC
 rw[i1,C3]
 unfold dC
 rw[Mf,C3]
 unfold dC
 rw[Mf,C3]
 unfold dC
 rfl
theorem Et:∀cs:List cX,dC (cs.map Ma)=some (cs.map ZR)
 | []=>by rw[G5];unfold dC;rfl
 | c::cs=>by rw[D4];unfold dC;rw[VL,C3,Et cs];rfl
theorem GQ(cs:List cX):cF (bA cs)=some (.lst (cs.map ZR)):=by
 unfold bA cF
 rw[Et]
 rfl
theorem GR(c:cX):(ZR c).depth≤2:=by
 unfold ZR DV.depth bC
 have e:∀i:Int,(DV.int i).depth=0:=λi=>by unfold DV.depth;rfl
 have t:∀ns:List Int,(DV.tup (ns.map DV.int)).depth=1:=λns=>by unfold DV.depth;rw[lM]
 rw[e]
 unfold bC
 rw[e]
 unfold bC
 rw[t]
 unfold bC
 rw[t]
 unfold bC
 decide
theorem Az:∀cs:List cX,bC (cs.map ZR)≤2
 | []=>by rw[G5];unfold bC;decide
 | c::cs=>by
  rw[D4]
  unfold bC
  have:=GR c
  have:=Az cs
  omega
theorem Wr{ds:List D}{xs:List DV}(h:dC ds=some xs)(hd:bC xs≤32):Nf (.lst ds) (.lst ds)=some (.bl false):=by
 have e:cF (.lst ds)=some (.lst xs):=by unfold cF;rw[h];rfl
 unfold Nf toV
 dsimp only
 rw[e]
 dsimp only
 rw[if_pos hd,oH]
 rfl
theorem GX(ns ms:List Int):Nf (aD ns) (aD ms)=some (.bl (!decide (ns=ms))):=by
 have e:∀l:List Int,cF (aD l)=some (.lst (l.map DV.int)):=λl=>by unfold aD cF;rw[lZ];rfl
 unfold Nf
 rw[e,e]
 unfold toV
 dsimp only
 rw[if_pos (by rw[lM];decide)]
 congr 3
 rw[M3,oG,decide_eq_true_iff]
 constructor
 ·intro z;injection z with z;exact Jv.mp z
 ·intro z;rw[z]
theorem Hy(ns:List Int):yJ (aD ns) (.lst [])=some (.bl (decide (ns=[]))):=Ls ns []
theorem Ud(ns:List Int):Nf (aD ns) (.lst [])=some (.bl (!decide (ns=[]))):=GX ns []
theorem Ws{i j:Int}(h1:Builtin.Int.intBits i≤4000000)(h2:Builtin.Int.intBits j≤4000000):Tg (.int i) (.int j)=some (.int (i*j)):=by unfold Tg yH;exact if_pos (show xN i j from⟨h1,h2⟩)
theorem Wt(i j:Int):Kh [.int i,.int j]=some (.int (if j<i then j else i)):=rfl
theorem Ba(c:Bool):Ld [.bl c]=some (.int (if c then 1 else 0)):=rfl
end L2
namespace L2
theorem lC{f:FE}{e:DE}{i:Int}(h:f e=some (.int i)):nO f e=some (some i):=by unfold nO;rw[h];rfl
theorem Bb(ks:List Int):wA [cV ks]=some (aD ks):=by
 show some (D.lst ((ks.map (D8:Int→Key)).map kD))=_
 rw[Wm]
theorem Bc{cs:List cX}{c:cX}{k:Nat}(h:k<cs.length):at_ (cs++[c]) k=at_ cs k:=by
 unfold at_
 rw[B3,B3,N3 h]
theorem Ue(cs:List cX)(c:cX):at_ (cs++[c]) cs.length=c:=by
 unfold at_
 rw[B3,L7 (B4 _)]
 simp
theorem Wu(cs:List cX)(c:cX):D.lst (cs.map Ma++[Ma c])=bA (cs++[c]):=by unfold bA;rw[O2];rfl
theorem lE{f:FE}{e:DE}{ns:List Int}(h:f e=some (dTup ns)):cM f e=some (ns.map D.int):=DY h
end L2
namespace L2
end L2


namespace L2
open PySem PySem.Spec PyProof.Rows
end L2


namespace L2
open PySem PySem.Spec PyProof.Rows
section
variable{i j:Nat}{f f':FE}{c:FT}{g1 g2 g gb:GS}{env env':EN}{d d0 d' r:D}{ds:List D}{Pr:SR→Prop}{v:V}{π:FP}{p:List Step}
theorem Qe{ks:List Int}(h:ks.length<64):uT [cV ks]=some (aD (sortI ks)):=by
 show (uR (ks.map D8)).bind _=_
 rw[Ek,C3,if_pos h]
end
end L2


local macro_rules | `(tactic| walk_at "fs")=>`(tactic| exact⟨rfl,rfl,rfl,by decide +kernel,rfl,by decide +kernel,by decide +kernel⟩)
namespace Rs
open PySem L2
def top(i:Nat):Stmt:=PySem.Challenge.pw_ripestone_k09_plan.main.body.getD i (.Pass ⟨0,0,0,0⟩)
abbrev wN:Stmt:=top 19
noncomputable def Eu:GS:=aU (bJ 1 (Cu (aC (f2 fG (f2 fG (f2 xY (aB 0) (fC (.int 16807))) (fC (.int 2147483647))) (fC (.int 1009))) (aC (f2 zU (f2 fG (aB 0) (f2 Jx (fC (.int 10)) (fC (.int 58)))) (f2 Jx (fC (.int 10)) (fC (.int 57)))) (aC (f2 fG (f2 Tg (aB 0) (aB 0)) (f2 Jx (fC (.int 10)) (fC (.int 58)))) aM)))))
 (iK (BR (aB 1) (zZ) (nO (f2 fG (f2 fG (f2 xY (aB 0) (fC (.int 69621))) (fC (.int 2147483647))) (fC (.int 4))))))
noncomputable def oW:List D→Option D:=fJ 2 1 (Eu)
abbrev wO:Stmt:=top 18
noncomputable def Ew:GS:=aU (bJ 2 (iV aM))
 (aU (bJ 3 (f2 fG (f2 xY (f2 dJ (aB 0) (fC (.int 11))) (fC (.int 1103515245))) (fC (.int 2147483647))))
 (aU (pI [] 4 (cM (iV (aC (fC (.int 48271)) (aC (fC (.int 69621)) (aC (fC (.int 16807)) (aC (fC (.int 40014)) aM)))))) (aU (bJ 5 (f2 fG (f2 xY (aB 3) (aB 4)) (fC (.int 2147483647))))
 (rR (pH (fB (f2 Rz (aB 1) (fC (.int 0)))) (fB (f2 yJ (f2 fG (aB 5) (fC (.int 2))) (fC (.int 0))))) (aU (bJ 6 (cC (aB 1)))
 (aU (rR (fB (f2 Rz (f2 fG (f2 nM (aB 5) (fC (.int 2))) (fC (.int 3))) (fC (.int 0)))) (bJ 6 (fL Kh (aC (aB 1) (aC (fC (.int 4)) aM)))) eX)
 (sY 2 fH (f2 zU (f2 zU (aB 1) (fC (.int 1))) (f2 fG (f2 nM (aB 5) (fC (.int 6))) (aB 6)))))) eX)))
 (iK (fL zY (aC (qy Tf (aB 2)) aM)))))
noncomputable def oX:List D→Option D:=fJ 7 2 (Ew)
abbrev rA:Stmt:=top 20
noncomputable def xO:GS:=aU (bJ 3 (iV aM))
 (aU (jM 4 (jL (aC (fL jV (aC (aB 0) aM)) aM)) (aU (bJ 5 (f2 fG (f2 xY (f2 dJ (f2 dD (aB 0) (aB 4)) (fC (.int 7))) (fC (.int 39373))) (fC (.int 2147483647))))
 (aU (bJ 6 (bI 1 oW (aC (f2 dD (aB 0) (aB 4)) aM)))
 (sY 3 fH (Cu (aC (f2 fG (aB 5) (aB 1)) (aC (f2 fG (f2 nM (aB 5) (fC (.int 8))) (aB 2)) (aC (cC (aB 6)) (aC (bI 2 oX (aC (f2 dD (aB 0) (aB 4)) (aC (aB 4) aM))) aM)))))))))
 (lV 3))
noncomputable def jO:List D→Option D:=fJ 7 3 (xO)
abbrev uA:Stmt:=top 21
noncomputable def Be:GS:=aU (bJ 2 (f2 fG (aB 1) (f2 dJ (fL jV (aC (aB 0) aM)) (fC (.int 1)))))
 (aU (bJ 3 (f2 dJ (Zh false (aB 0) (nO (aB 2)) (zZ)) (Zh false (aB 0) (zZ) (nO (aB 2)))))
 (aU (rR (fB (f2 yJ (f2 fG (f2 nM (aB 1) (fC (.int 64))) (fC (.int 2))) (fC (.int 1)))) (bJ 3 (qy La (aB 3))) eX)
 (iK (f2 dJ (aB 3) (Zh false (aB 3) (zZ) (nO (f2 fG (f2 nM (aB 1) (fC (.int 128))) (fC (.int 3)))))))))
noncomputable def jG:List D→Option D:=fJ 4 2 (Be)
abbrev wQ:Stmt:=top 23
noncomputable def Wv:GS:=aU (bJ 1 (fC (.dk [] [])))
 (aU (pI [] 2 (cM (aB 0)) (dX 1 fH (aB 2) (fC (.bl true))))
 (lV 1))
noncomputable def lF:List D→Option D:=fJ 3 1 (Wv)
abbrev pO:Stmt:=top 27
noncomputable def Bf:GS:=aU (bJ 3 (bI 1 lF (aC (aB 2) aM)))
 (aU (jM 4 (Li (aC (f2 zU (fL jV (aC (aB 0) aM)) (fC (.int 1))) (aC (Ou (fC (.int 1))) (aC (Ou (fC (.int 1))) aM)))) (rR (fB (f2 (iB false) (aB 4) (aB 3))) (pI [4] 5 (cM (f2 dD (f2 dD (aB 0) (aB 4)) (fC (.int 3)))) (dX 3 fH (aB 5) (fC (.bl true)))) eX))
 (iK (dF (jL (aC (fL jV (aC (aB 0) aM)) aM)) [3,1] (pH (fB (f2 (iB false) (aB 0) (aB 1))) (fB (f2 (iB true) (aB 0) (aB 2)))) (cC (aB 0)))))
noncomputable def mG:List D→Option D:=fJ 6 3 (Bf)
abbrev Hz:Stmt:=top 1
noncomputable def VM:GS:=aU (bJ 1 (fC (.dk [] [])))
 (aU (pI [] 2 (cM (aB 0)) (dX 1 fH (aB 2) (fC (.bl true))))
 (lV 1))
noncomputable def rZ:List D→Option D:=fJ 3 1 (VM)
abbrev jJ:Stmt:=top 8
noncomputable def Cv:GS:=iK (dF (cM (f2 dD (f2 dD (aB 0) (aB 2)) (fC (.int (3))))) [1] (fB (f2 Rz (f2 dD (aB 1) (aB 0)) (fC (.int 0)))) (cC (aB 0)))
noncomputable def cW:List D→Option D:=fJ 3 3 (Cv)
abbrev pP:Stmt:=top 9
noncomputable def vH:GS:=aU (rR (fB (f2 yJ (f2 dD (f2 dD (aB 0) (aB 3)) (fC (.int (0)))) (f2 dD (f2 dD (aB 0) (aB 2)) (fC (.int (0)))))) (iK (cC (f2 dD (aB 1) (aB 3)))) eX)
 (iK (f2 dJ (f2 dD (aB 1) (aB 3)) (fC (.int 1))))
noncomputable def fZ:List D→Option D:=fJ 4 4 (vH)
abbrev Ib:Stmt:=top 10
noncomputable def HD:GS:=aU (bJ 2 (bI 1 rZ (aC (aB 1) aM)))
 (aU (bJ 3 (iV aM))
 (aU (jM 4 (jL (aC (fL jV (aC (aB 0) aM)) aM)) (rR (fB (f2 (iB false) (aB 4) (aB 2))) (sY 3 fH (fC (.int 0))) (aU (bJ 5 (bI 3 cW (aC (aB 0) (aC (aB 3) (aC (aB 4) aM)))))
 (sY 3 fH (fL Af (aC (f2 dJ (iV (aC (fC (.int 1)) aM)) (dF (cM (aB 5)) [0,3,4] qT (bI 4 fZ (aC (aB 1) (aC (aB 2) (aC (aB 3) (aC (aB 0) aM))))))) aM))))))
 (lV 3)))
noncomputable def Bg:List D→Option D:=fJ 6 2 (HD)
abbrev Bh:Stmt:=top 2
noncomputable def Mg:GS:=aU (bJ 2 (bI 1 rZ (aC (aB 1) aM)))
 (aU (bJ 3 (fL wA (aC (aB 2) aM)))
 (aU (jC (fB (f2 Rz (fL jV (aC (aB 3) aM)) (fC (.int 0)))) (aU (Am 3 4)
 (pI [4] 5 (cM (f2 dD (aB 0) (aB 4))) (rR (fB (f2 (iB true) (aB 5) (aB 2))) (aU (dX 2 fH (aB 5) (fC (.bl true)))
 (sY 3 fH (cC (aB 5)))) eX))) 400)
 (iK (fL uT (aC (aB 2) aM)))))
noncomputable def oY:List D→Option D:=fJ 6 2 (Mg)
abbrev vI:Stmt:=top 6
noncomputable def HF:GS:=iK (dF (cM (aB 0)) [] qT (cC (f2 dD (aB 0) (fC (.int (3))))))
noncomputable def rB:List D→Option D:=fJ 1 1 (HF)
abbrev gF:Stmt:=top 11
noncomputable def tK:GS:=aU (bJ 3 (dF (cM (bI 2 oY (aC (bI 1 rB (aC (aB 0) aM)) (aC (aB 2) aM)))) [1] (fB (f2 Rz (f2 dD (aB 1) (aB 0)) (fC (.int 0)))) (cC (aB 0))))
 (iK (wK (aB 3) [1,0] (Cu (aC (cC (f2 dD (aB 1) (aB 0))) (aC (cC (f2 dD (f2 dD (aB 2) (aB 0)) (fC (.int (0))))) (aC (cC (aB 0)) aM))))))
noncomputable def gG:List D→Option D:=fJ 4 3 (tK)
abbrev nT:Stmt:=top 12
noncomputable def tL:GS:=aU (bJ 3 (cC (aB 2)))
 (aU (jC (pH (fB (f2 KJ (aB 3) (fL jV (aC (aB 0) aM)))) (fB (f2 Nf (f2 dD (aB 0) (aB 3)) (aB 1)))) (bJ 3 (f2 dJ (aB 3) (fC (.int 1)))) 400)
 (lV 3))
noncomputable def gH:List D→Option D:=fJ 4 3 (tL)
abbrev Ug:Stmt:=top 13
noncomputable def ZV:GS:=aU (bJ 3 (bI 2 Bg (aC (aB 0) (aC (aB 1) aM))))
 (aU (bJ 4 (iV aM))
 (aU (bJ 5 (fC (.dk [] [])))
 (aU (pI [3] 6 (cM (bI 3 gG (aC (aB 0) (aC (aB 3) (aC (aB 2) aM))))) (aU (bJ 7 (cC (f2 dD (f2 dD (aB 0) (aB 6)) (fC (.int (0))))))
 (aU (bJ 8 (f2 Tn (dF (cM (bI 3 cW (aC (aB 0) (aC (aB 3) (aC (aB 6) aM))))) [5] qT (cC (f2 Vr (aB 1) (aB 0)))) (fC (.int 0))))
 (aU (bJ 9 (bI 3 gH (aC (aB 4) (aC (aB 7) (aC (aB 8) aM)))))
 (aU (rR (fB (f2 yJ (aB 9) (fL jV (aC (aB 4) aM)))) (sY 4 fH (cC (aB 7))) eX)
 (dX 5 fH (aB 6) (aB 9)))))))
 (lV 4))))
noncomputable def Mh:List D→Option D:=fJ 10 3 (ZV)
abbrev uB:Stmt:=top 15
noncomputable def Bj:GS:=aU (rR (fB (f2 KJ (aB 1) (fL jV (aC (aB 0) aM)))) (iK (cC (f2 dD (aB 0) (aB 1)))) eX)
 (iK (fC (.int 0)))
noncomputable def pQ:List D→Option D:=fJ 2 2 (Bj)
abbrev nC:Stmt:=top 22
noncomputable def xP:GS:=aU (bJ 3 (fC (.dk [] [])))
 (aU (jM 4 (jL (aC (fL jV (aC (aB 1) aM)) aM)) (aU (bJ 5 (f2 fG (f2 xY (f2 dJ (f2 dD (aB 0) (aB 4)) (fC (.int 3))) (fC (.int 742938285))) (fC (.int 2147483647))))
 (rR (pH (fB (f2 KJ (f2 fG (f2 nM (aB 5) (fC (.int 5))) (fC (.int 4))) (aB 2))) (fB (f2 yJ (dF (cM (f2 dD (f2 dD (aB 1) (aB 4)) (fC (.int 3)))) [3] (fB (f2 (iB true) (aB 0) (aB 1))) (cC (aB 0))) (iV aM)))) (dX 3 fH (aB 4) (fC (.bl true))) eX)))
 (iK (fL wA (aC (aB 3) aM))))
noncomputable def gQ:List D→Option D:=fJ 6 3 (xP)
abbrev nD:Stmt:=top 26
noncomputable def xQ:GS:=aU (bJ 3 (fC (.dk [] [])))
 (aU (jM 4 (jL (aC (fL jV (aC (aB 0) aM)) aM)) (rR (pH (fB (f2 (iB true) (aB 4) (aB 1))) (fB (f2 yJ (f2 dD (f2 dD (aB 0) (aB 4)) (fC (.int 0))) (aB 2)))) (rR (fB (f2 yJ (dF (cM (f2 dD (f2 dD (aB 0) (aB 4)) (fC (.int 3)))) [1,3] (pH (fB (f2 (iB true) (aB 0) (aB 1))) (fB (f2 (iB true) (aB 0) (aB 2)))) (cC (aB 0))) (iV aM))) (dX 3 fH (aB 4) (fC (.bl true))) eX) eX))
 (iK (fL wA (aC (aB 3) aM))))
noncomputable def cJ:List D→Option D:=fJ 5 3 (xQ)
abbrev mH:Stmt:=top 28
noncomputable def Bk:GS:=aU (bJ 4 (fL wJ (aC (aB 2) aM)))
 (aU (pI [] 5 (cM (aB 0)) (aU (bJ 6 (bI 3 cJ (aC (aB 1) (aC (aB 4) (aC (aB 5) aM)))))
 (aU (rR (fB (f2 yJ (dF (cM (aB 6)) [3] (fB (f2 (wy false) (aB 0) (aB 1))) (cC (aB 0))) (iV aM))) (iK (fC (.bl false))) eX)
 (pI [6] 7 (cM (aB 6)) (dX 4 fH (aB 7) (fC (.bl true)))))))
 (iK (f2 yJ (dF (cM (aB 3)) [4] (fB (f2 (iB true) (aB 0) (aB 1))) (cC (aB 0))) (iV aM))))
noncomputable def mJ:List D→Option D:=fJ 8 4 (Bk)
abbrev wU:Stmt:=top 16
noncomputable def Ww:GS:=iK (xM (Oq "int" (aB 0)) (Kf (Oq "bool" (aB 0))))
noncomputable def sE:List D→Option D:=fJ 1 1 (Ww)
abbrev rC:Stmt:=top 17
noncomputable def xR:GS:=aU (rR (Ke (fB (Oq "list" (aB 0)))) (iK (fC (.bl false))) eX)
 (aU (pI [] 2 (cM (aB 0)) (rR (YK (Ke (fB (bI 1 sE (aC (aB 2) aM)))) (YK (fB (f2 KJ (aB 2) (fC (.int 0)))) (fB (f2 dGe (aB 2) (aB 1))))) (iK (fC (.bl false))) eX))
 (iK (fC (.bl true))))
noncomputable def jP:List D→Option D:=fJ 3 2 (xR)
abbrev Bl:Stmt:=top 24
noncomputable def HH:GS:=iK (fL Ld (aC (f2 Nf (f2 dD (f2 dD (aB 0) (aB 1)) (fC (.int 0))) (f2 dD (f2 dD (aB 0) (aB 2)) (fC (.int 0)))) aM))
noncomputable def rD:List D→Option D:=fJ 3 3 (HH)
abbrev kJ:Stmt:=top 25
noncomputable def vJ:GS:=aU (bJ 2 (iV aM))
 (aU (jM 3 (jL (aC (fL jV (aC (aB 0) aM)) aM)) (aU (bJ 4 (dF (cM (f2 dD (f2 dD (aB 0) (aB 3)) (fC (.int 3)))) [1,2,0,3] (fB (f2 (iB true) (aB 0) (aB 1))) (f2 dJ (f2 dD (aB 2) (aB 0)) (bI 3 rD (aC (aB 3) (aC (aB 4) (aC (aB 0) aM)))))))
 (sY 2 fH (f2 xY (fL Af (aC (f2 dJ (iV (aC (fC (.int 1)) aM)) (aB 4)) aM)) (fL Ld (aC (f2 (iB true) (aB 3) (aB 1)) aM))))))
 (lV 2))
noncomputable def iQ:List D→Option D:=fJ 5 2 (vJ)
abbrev sG:Stmt:=top 29
noncomputable def Uh:GS:=aU (bJ 3 (iV aM))
 (aU (bJ 4 (fL wJ (aC (aB 1) aM)))
 (aU (bJ 5 (bI 2 iQ (aC (aB 0) (aC (aB 1) aM))))
 (aU (jM 6 (Ed (aC (fC (.int 1)) (aC (f2 dJ (fL Af (aC (f2 dJ (iV (aC (fC (.int 0)) aM)) (dF (cM (aB 2)) [5] qT (cC (f2 dD (aB 1) (aB 0))))) aM)) (fC (.int 1))) aM))) (aU (bJ 7 (dF (cM (aB 2)) [5,6] (fB (f2 yJ (f2 dD (aB 1) (aB 0)) (aB 2))) (cC (aB 0))))
 (jM 8 (jL (aC (fC (.int 8)) aM)) (rR (fB (f2 Nf (dF (cM (aB 7)) [0,8,4] (pH (fB (f2 yJ (f2 dD (f2 dD (aB 1) (aB 0)) (fC (.int 0))) (aB 2))) (fB (f2 (iB true) (aB 0) (aB 3)))) (cC (aB 0))) (iV aM))) (aU (sY 3 fH (cC (aB 8)))
 (Ak 9 (bI 3 cJ (aC (aB 0) (aC (aB 4) (aC (aB 8) aM)))) (dX 4 fH (aB 9) (fC (.bl true))))) eX))))
 (lV 3))))
noncomputable def vK:List D→Option D:=fJ 10 3 (Uh)
abbrev VN:Stmt:=top 30
noncomputable def aAG:GS:=aU (bJ 1 (f2 fG (bI 2 pQ (aC (aB 0) (aC (fC (.int 0)) aM))) (fC (.int 2147483647))))
 (aU (bJ 2 (Zh true (aB 0) (nO (fC (.int 1))) (nO (fC (.int 41)))))
 (aU (bJ 3 (bI 3 jO (aC (aB 2) (aC (f2 dJ (fC (.int 1)) (f2 fG (aB 1) (fC (.int 8)))) (aC (fC (.int 9)) aM)))))
 (aU (bJ 4 (bI 2 jG (aC (bI 3 gQ (aC (aB 2) (aC (aB 3) (aC (f2 fG (f2 nM (aB 1) (fC (.int 8))) (fC (.int 5))) aM)))) (aC (f2 nM (aB 1) (fC (.int 40))) aM))))
 (aU (bJ 5 (f2 dJ (fC (.int 1)) (f2 fG (f2 nM (aB 1) (fC (.int 1000))) (fC (.int 6)))))
 (aU (bJ 6 (dF (jL (aC (fL jV (aC (aB 2) aM)) aM)) [2,5] (fB (f2 KJ (f2 fG (f2 nM (f2 fG (f2 xY (f2 dJ (f2 dD (aB 1) (aB 0)) (fC (.int 17))) (fC (.int 62089911))) (fC (.int 2147483647))) (fC (.int 7))) (fC (.int 6))) (f2 zU (aB 2) (fC (.int 1))))) (cC (aB 0))))
 (aU (rR (pH (fB (f2 yJ (aB 5) (fC (.int 6)))) (fB (f2 Nf (aB 2) (iV aM)))) (bJ 6 (iV (aC (f2 zU (fL jV (aC (aB 2) aM)) (fC (.int 1))) aM))) eX)
 (aU (bJ 6 (bI 2 jG (aC (aB 6) (aC (f2 nM (aB 1) (fC (.int 7000))) aM))))
 (aU (bJ 7 (bI 1 lF (aC (aB 4) aM)))
 (aU (bJ 8 (bI 3 mG (aC (aB 3) (aC (aB 7) (aC (aB 6) aM)))))
 (aU (bJ 9 (iV (aC (fL dList (aC (aB 3) aM)) (aC (fL dList (aC (aB 4) aM)) (aC (fL dList (aC (aB 6) aM)) aM)))))
 (aU (bJ 10 (bI 3 Mh (aC (f2 dD (aB 9) (fC (.int 0))) (aC (f2 dD (aB 9) (fC (.int 1))) (aC (f2 dD (aB 9) (fC (.int 2))) aM)))))
 (aU (rR (YK (fB (f2 Nf (aB 9) (iV (aC (aB 3) (aC (aB 4) (aC (aB 6) aM)))))) (Ke (fB (bI 2 jP (aC (aB 10) (aC (fC (.int 8)) aM)))))) (iK (fC (.bl false))) eX)
 (iK (xM (bI 4 mJ (aC (aB 10) (aC (aB 3) (aC (aB 7) (aC (aB 8) aM))))) (f2 yJ (aB 10) (bI 3 vK (aC (aB 3) (aC (aB 7) (aC (aB 8) aM)))))))))))))))))))
noncomputable def uo:List D→Option D:=fJ 11 1 (aAG)
section
variable{P:Program}{w:World}{K:aA}{mg:Str→Option Value}{base:Heap}
theorem Bm:aZ ["number", "some"] ["number"] (aJ wN):=by walk_at "fs"
theorem Mi(R:Raw K mg "_law_thing" wN):iU P w K mg base "_law_thing" 1 1 (iW K 1 oW):=by
 refine R.lW Bm (λ_ _ _ _ _ _ us hl=>match us,hl with | [_],_=>rfl) (λ_ _ _ _ _ _ _ hr=>?_)
 have cZ:=hr.units
 have hu:=dW hr
 exact⟨_,aL (aY (i:=1) (Oi (eV (cD (XN.r (cD (XN.r (qL (aH (pv 0)) (XN.r (aK)))) (XN.r (aK)))) (XN.r (aK))) (eV (vW (XN.r (cD (aH (pv 0)) (XN.r (Oc (XN.r (aK)) (XN.r (aK)))))) (XN.r (Oc (XN.r (aK)) (XN.r (aK))))) (eV (cD (XN.r (SQ (aH (pv 0)) (aH (pv 0)))) (XN.r (Oc (XN.r (aK)) (XN.r (aK))))) lQ)))) (λh=>aW Bm.nd rfl (by first | exact D2 rfl | exact D3 rfl) h))
  (aR (cO (Wc (aH (pv 1)) (yL) (rQ (XN.r (cD (XN.r (cD (XN.r (qL (aH (pv 0)) (XN.r (aK)))) (XN.r (aK)))) (XN.r (aK))))))))⟩
theorem gO:aZ ["cell", "k", "wanted", "base", "by", "number", "near"] ["cell", "k"] (aJ wO):=by walk_at "fs"
theorem Mj(R:Raw K mg "_law_needs" wO) (uq:mg "min" = none) (kO:mg "sorted" = none) (ur:mg "set" = none) (Qf:mg "tuple" = none):iU P w K mg base "_law_needs" 1 2 (iW K 2 oX):=by
 refine R.lW gO (λ_ _ _ _ _ _ us hl=>match us,hl with | [_,_],_=>rfl) (λ_ _ _ _ _ _ _ hr=>?_)
 have cZ:=hr.units
 have hu:=dW hr
 exact⟨_,aL (aY (i:=2) (qN lQ) (λh=>aW gO.nd rfl (by first | exact D2 rfl | exact D3 rfl) h))
  (aL (aY (i:=3) (cD (XN.r (qL (XN.r (dB (aH (pv 0)) (XN.r (aK)))) (XN.r (aK)))) (XN.r (aK))) (λh=>aW gO.nd rfl (by first | exact D2 rfl | exact D3 rfl) h))
  (aL (pJ [] PassesOwn.never rfl (cN (lR (aG (XN.r (aK)) (aG (XN.r (aK)) (aG (XN.r (aK)) (aG (XN.r (aK)) aO)))))) (cG (i:=4) gO.nd rfl (by first | exact D2 rfl | exact D3 rfl)) (aL (aY (i:=5) (cD (XN.r (qL (aH (pv 3)) (aH (pv 4)))) (XN.r (aK))) (λh=>aW gO.nd rfl (by first | exact D2 rfl | exact D3 rfl) h))
  (aR (iY (XW.xt (qO (bY Ji lN (aH (pv 1)) (XN.r (aK)) (bQ _)) (mV (bY (or_eq cZ rfl) oM (XN.r (cD (aH (pv 5)) (XN.r (aK)))) (XN.r (aK)) (bQ _))))) (aL (aY (i:=6) (XR.n (aH (pv 1))) (λh=>aW gO.nd rfl (by first | exact D2 rfl | exact D3 rfl) h))
  (aL (iY (bY Ji lN (XN.r (cD (XN.r (lO (aH (pv 5)) (XN.r (aK)))) (XN.r (aK)))) (XN.r (aK)) (bQ _)) (aR (aY (i:=6) (iC RG (Uz rfl) rfl uq PyProof.Rows.boot_min (aG (aH (pv 1)) (aG (XN.r (aK)) aO))) (λh=>aW gO.nd rfl (by first | exact D2 rfl | exact D3 rfl) h))) fP)
  (aR (qW (qU (pv 2)) (vW (XN.r (vW (aH (pv 1)) (XN.r (aK)))) (XN.r (cD (XN.r (lO (aH (pv 5)) (XN.r (aK)))) (aH (pv 6))))) (λa b=>mQ (xG G0 G6 G7 fV a (eQ b iZ))))))) fP))))
  (aR (cO (qP Zf (Zg rfl) rfl Qf PyProof.Rows.boot_tuple (aG (XN.r (SJ (aH (pv 2)) rfl kO Q3 rfl ur PyProof.Rows.boot_set)) aO))))))⟩
theorem iR:aZ ["cells", "panes", "places", "changes", "k", "number", "thing"] ["cells", "panes", "places"] (aJ rA):=by walk_at "fs"
theorem Cw(R:Raw K mg "_law_changes" rA) (wV:iU P w K mg base "_law_thing" 1 1 (iW K 1 oW)) (wW:iU P w K mg base "_law_needs" 1 2 (iW K 2 oX)) (dY:mg "len" = none) (bZ:mg "range" = none):iU P w K mg base "_law_changes" 2 3 (iW K 3 jO):=by
 refine R.lW iR (λ_ _ _ _ _ _ us hl=>match us,hl with | [_,_,_],_=>rfl) (λ_ _ _ _ _ _ _ hr=>?_)
 have cZ:=hr.units
 have hu:=dW hr
 exact⟨_,aL (aY (i:=3) (qN lQ) (λh=>aW iR.nd rfl (by first | exact D2 rfl | exact D3 rfl) h))
  (aL (mX PassesOwn.never rfl (kY rfl bZ (aG (XN.r (iC iD (iG rfl) rfl dY G2 (aG (aH (pv 0)) aO))) aO)) (cG (i:=4) iR.nd rfl (by first | exact D2 rfl | exact D3 rfl)) (aL (aY (i:=5) (cD (XN.r (qL (XN.r (dB (bD (aH (pv 0)) (aH (pv 4)) (λ_ _=>rfl)) (XN.r (aK)))) (XN.r (aK)))) (XN.r (aK))) (λh=>aW iR.nd rfl (by first | exact D2 rfl | exact D3 rfl) h))
  (aL (aY (i:=6) (bT wV (hr.mono (by decide)) rfl (aG (bD (aH (pv 0)) (aH (pv 4)) (λ_ _=>rfl)) aO)) (λh=>aW iR.nd rfl (by first | exact D2 rfl | exact D3 rfl) h))
  (aR (qW (qU (pv 3)) (Oi (eV (cD (aH (pv 5)) (aH (pv 1))) (eV (cD (XN.r (lO (aH (pv 5)) (XN.r (aK)))) (aH (pv 2))) (eV (XR.n (aH (pv 6))) (eV (bT wW (hr.mono (by decide)) rfl (aG (bD (aH (pv 0)) (aH (pv 4)) (λ_ _=>rfl)) (aG (aH (pv 4)) aO))) lQ))))) (λa b=>mQ (xG G0 G6 G7 fV a (eQ b iZ))))))))
  (aR (mW (pv 3))))⟩
theorem nF:aZ ["some", "cell", "cut", "turned"] ["some", "cell"] (aJ uA):=by walk_at "fs"
theorem Ie(R:Raw K mg "_law_turned" uA) (dY:mg "len" = none) (gR:mg "list" = none) (wX:mg "reversed" = none):iU P w K mg base "_law_turned" 1 2 (iW K 2 jG):=by
 refine R.lW nF (λ_ _ _ _ _ _ us hl=>match us,hl with | [_,_],_=>rfl) (λ_ _ _ _ _ _ _ hr=>?_)
 have cZ:=hr.units
 have hu:=dW hr
 exact⟨_,aL (aY (i:=2) (cD (aH (pv 1)) (XN.r (dB (XN.r (iC iD (iG rfl) rfl dY G2 (aG (aH (pv 0)) aO))) (XN.r (aK))))) (λh=>aW nF.nd rfl (by first | exact D2 rfl | exact D3 rfl) h))
  (aL (aY (i:=3) (dB (Aa (aH (pv 0)) (rQ (aH (pv 2))) (yL)) (Aa (aH (pv 0)) (yL) (rQ (aH (pv 2))))) (λh=>aW nF.nd rfl (by first | exact D2 rfl | exact D3 rfl) h))
  (aL (iY (bY (or_eq cZ rfl) oM (XN.r (cD (XN.r (lO (aH (pv 1)) (XN.r (aK)))) (XN.r (aK)))) (XN.r (aK)) (bQ _)) (aR (aY (i:=3) (SM (aH (pv 3)) rfl gR J2 rfl wX PyProof.Rows.boot_reversed) (λh=>aW nF.nd rfl (by first | exact D2 rfl | exact D3 rfl) h))) fP)
  (aR (cO (dB (aH (pv 3)) (Aa (aH (pv 3)) (yL) (rQ (XN.r (cD (XN.r (lO (aH (pv 1)) (XN.r (aK)))) (XN.r (aK)))))))))))⟩
theorem uC:aZ ["some", "marks", "k"] ["some"] (aJ wQ):=by walk_at "fs"
theorem Ml(R:Raw K mg "_law_marks" wQ):iU P w K mg base "_law_marks" 1 1 (iW K 1 lF):=by
 refine R.lW uC (λ_ _ _ _ _ _ us hl=>match us,hl with | [_],_=>rfl) (λ_ _ _ _ _ _ _ hr=>?_)
 have cZ:=hr.units
 have hu:=dW hr
 exact⟨_,aL (aY (i:=1) (uN) (λh=>aW uC.nd rfl (by first | exact D2 rfl | exact D3 rfl) h))
  (aL (pJ [] PassesOwn.never rfl (cN (aH (pv 0))) (cG (i:=2) uC.nd rfl (by first | exact D2 rfl | exact D3 rfl)) (aR (kI (qU (pv 1)) (aH (pv 2)) (XN.r (oK)) (λa b c=>jY hu a b c rfl))))
  (aR (mW (pv 1))))⟩
theorem nG:aZ ["changes", "held", "goals", "marks", "k", "other"] ["changes", "held", "goals"] (aJ pO):=by walk_at "fs"
theorem Ig(R:Raw K mg "_law_wanted" pO) (lG:iU P w K mg base "_law_marks" 1 1 (iW K 1 lF)) (dY:mg "len" = none) (bZ:mg "range" = none):iU P w K mg base "_law_wanted" 2 3 (iW K 3 mG):=by
 refine R.lW nG (λ_ _ _ _ _ _ us hl=>match us,hl with | [_,_,_],_=>rfl) (λ_ _ _ _ _ _ _ hr=>?_)
 have cZ:=hr.units
 have hu:=dW hr
 exact⟨_,aL (aY (i:=3) (bT lG (hr.mono (by decide)) rfl (aG (aH (pv 2)) aO)) (λh=>aW nG.nd rfl (by first | exact D2 rfl | exact D3 rfl) h))
  (aL (mX PassesOwn.never rfl (VB rfl bZ (aG (XN.r (vW (XN.r (iC iD (iG rfl) rfl dY G2 (aG (aH (pv 0)) aO))) (XN.r (aK)))) (aG (XN.r (Su (XN.r (aK)))) (aG (XN.r (Su (XN.r (aK)))) aO)))) (cG (i:=4) nG.nd rfl (by first | exact D2 rfl | exact D3 rfl)) (aR (iY (Oh hu (aH (pv 4)) (aH (pv 3))) (aR (pJ [4] PassesOwn.never rfl (cN (bD (bD (aH (pv 0)) (aH (pv 4)) (λ_ _=>rfl)) (XN.r (aK)) (λ_ _=>rfl))) (cG (i:=5) nG.nd rfl (by first | exact D2 rfl | exact D3 rfl)) (aR (kI (qU (pv 3)) (aH (pv 5)) (XN.r (oK)) (λa b c=>jY hu a b c rfl))))) fP)))
  (aR (cO (iJ ["k", "marks", "held"] [3,1] rfl (.at (aJ pO) ["changes", "held", "goals", "marks", "k", "other"] (by decide +kernel)) (Ef rfl bZ (aG (XN.r (iC iD (iG rfl) rfl dY G2 (aG (aH (pv 0)) aO))) aO)) (dM (by decide +kernel) rfl rfl) (λ_ _ _ _ _=>iI (XW.xt (qO (Oh hu (aH (pv 0)) (aH (pv 1))) (mV (fW hu (aH (pv 0)) (aH (pv 2))))))) (λ_ _ _ _ _=>XR.n (aH (pv 0)))))))⟩
theorem Bo:aZ ["numbers", "marks", "number"] ["numbers"] (aJ Hz):=by walk_at "fs"
theorem Wx(R:Raw K mg "marked" Hz):iU P w K mg base "marked" 1 1 (iW K 1 rZ):=by
 refine R.lW Bo (λ_ _ _ _ _ _ us hl=>match us,hl with | [_],_=>rfl) (λ_ _ _ _ _ _ _ hr=>?_)
 have cZ:=hr.units
 have hu:=dW hr
 exact⟨_,aL (aY (i:=1) (uN) (λh=>aW Bo.nd rfl (by first | exact D2 rfl | exact D3 rfl) h))
  (aL (pJ [] PassesOwn.never rfl (cN (aH (pv 0))) (cG (i:=2) Bo.nd rfl (by first | exact D2 rfl | exact D3 rfl)) (aR (kI (qU (pv 1)) (aH (pv 2)) (XN.r (oK)) (λa b c=>jY hu a b c rfl))))
  (aR (mW (pv 1))))⟩
theorem Bp:aZ ["changes", "known", "number"] ["changes", "known", "number"] (aJ jJ):=by walk_at "fs"
theorem yC(R:Raw K mg "waiting_needs" jJ) (wY:uP mg "NEEDS" (3)):iU P w K mg base "waiting_needs" 1 3 (iW K 3 cW):=by
 refine R.lW Bp (λ_ _ _ _ _ _ us hl=>match us,hl with | [_,_,_],_=>rfl) (λ_ _ _ _ _ _ _ hr=>?_)
 have cZ:=hr.units
 have hu:=dW hr
 exact⟨_,aR (cO (iJ ["need", "known"] [1] rfl (.at (aJ jJ) ["changes", "known", "number"] (by decide +kernel)) (cN (bD (bD (aH (pv 0)) (aH (pv 2)) (λ_ _=>rfl)) (XN.r (Eg wY rfl)) (λ_ _=>rfl))) (dM (by decide +kernel) rfl rfl) (λ_ _ _ _ _=>iI (bY Ji lN (bD (aH (pv 1)) (aH (pv 0)) (λ_ _=>rfl)) (XN.r (aK)) (bQ _))) (λ_ _ _ _ _=>XR.n (aH (pv 0)))))⟩
theorem Cy:aZ ["changes", "known", "number", "need"] ["changes", "known", "number", "need"] (aJ pP):=by walk_at "fs"
theorem Bq(R:Raw K mg "turn_through" pP) (tO:uP mg "PANE" (0)):iU P w K mg base "turn_through" 1 4 (iW K 4 fZ):=by
 refine R.lW Cy (λ_ _ _ _ _ _ us hl=>match us,hl with | [_,_,_,_],_=>rfl) (λ_ _ _ _ _ _ _ hr=>?_)
 have cZ:=hr.units
 have hu:=dW hr
 exact⟨_,aL (iY (bY (or_eq cZ rfl) oM (bD (bD (aH (pv 0)) (aH (pv 3)) (λ_ _=>rfl)) (XN.r (Eg tO rfl)) (λ_ _=>rfl)) (bD (bD (aH (pv 0)) (aH (pv 2)) (λ_ _=>rfl)) (XN.r (Eg tO rfl)) (λ_ _=>rfl)) (bQ _)) (aR (cO (XR.n (bD (aH (pv 1)) (aH (pv 3)) (λ_ _=>rfl))))) fP)
  (aR (cO (dB (bD (aH (pv 1)) (aH (pv 3)) (λ_ _=>rfl)) (XN.r (aK)))))⟩
theorem vL:aZ ["changes", "settled", "held", "known", "number", "needed"] ["changes", "settled"] (aJ Ib):=by walk_at "fs"
theorem HJ(R:Raw K mg "turns" Ib) (sH:iU P w K mg base "marked" 1 1 (iW K 1 rZ)) (dZ:iU P w K mg base "waiting_needs" 1 3 (iW K 3 cW)) (pR:iU P w K mg base "turn_through" 1 4 (iW K 4 fZ)) (dY:mg "len" = none) (bZ:mg "range" = none) (yD:mg "max" = none):iU P w K mg base "turns" 2 2 (iW K 2 Bg):=by
 refine R.lW vL (λ_ _ _ _ _ _ us hl=>match us,hl with | [_,_],_=>rfl) (λ_ _ _ _ _ _ _ hr=>?_)
 have cZ:=hr.units
 have hu:=dW hr
 exact⟨_,aL (aY (i:=2) (bT sH (hr.mono (by decide)) rfl (aG (aH (pv 1)) aO)) (λh=>aW vL.nd rfl (by first | exact D2 rfl | exact D3 rfl) h))
  (aL (aY (i:=3) (qN lQ) (λh=>aW vL.nd rfl (by first | exact D2 rfl | exact D3 rfl) h))
  (aL (mX PassesOwn.never rfl (kY rfl bZ (aG (XN.r (iC iD (iG rfl) rfl dY G2 (aG (aH (pv 0)) aO))) aO)) (cG (i:=4) vL.nd rfl (by first | exact D2 rfl | exact D3 rfl)) (aR (iY (Oh hu (aH (pv 4)) (aH (pv 2))) (aR (qW (qU (pv 3)) aK (λa b=>mQ (xG G0 G6 G7 fV a (eQ b iZ))))) (aL (aY (i:=5) (bT dZ (hr.mono (by decide)) rfl (aG (aH (pv 0)) (aG (aH (pv 3)) (aG (aH (pv 4)) aO)))) (λh=>aW vL.nd rfl (by first | exact D2 rfl | exact D3 rfl) h))
  (aR (qW (qU (pv 3)) (iC Hi (Ho rfl) rfl yD O6 (aG (XN.r (dB (lR (aG (XN.r (aK)) aO)) (XN.r (iJ ["need", "changes", "known", "number"] [0,3,4] rfl (.at (aJ Ib) ["changes", "settled", "held", "known", "number", "needed"] (by decide +kernel)) (cN (aH (pv 5))) (dM (by decide +kernel) rfl rfl) (λ_ _ _ _ _=>yM) (λ_ _ _ _ _=>bT pR (hr.mono (by decide)) rfl (aG (aH (pv 1)) (aG (aH (pv 2)) (aG (aH (pv 3)) (aG (aH (pv 0)) aO))))))))) aO)) (λa b=>mQ (xG G0 G6 G7 fV a (eQ b iZ)))))))))
  (aR (mW (pv 3)))))⟩
theorem oZ:aZ ["needs", "some", "held", "unseen", "number", "need"] ["needs", "some"] (aJ Bh):=by walk_at "fs"
theorem Qg(R:Raw K mg "closure" Bh) (sH:iU P w K mg base "marked" 1 1 (iW K 1 rZ)) (gR:mg "list" = none) (dY:mg "len" = none) (kO:mg "sorted" = none):iU P w K mg base "closure" 2 2 (iW K 2 oY):=by
 refine R.lW oZ (λ_ _ _ _ _ _ us hl=>match us,hl with | [_,_],_=>rfl) (λ_ _ _ _ _ _ _ hr=>?_)
 have cZ:=hr.units
 have hu:=dW hr
 exact⟨_,aL (aY (i:=2) (bT sH (hr.mono (by decide)) rfl (aG (aH (pv 1)) aO)) (λh=>aW oZ.nd rfl (by first | exact D2 rfl | exact D3 rfl) h))
  (aL (aY (i:=3) (qP zX (lJ rfl) rfl gR J2 (aG (aH (pv 2)) aO)) (λh=>aW oZ.nd rfl (by first | exact D2 rfl | exact D3 rfl) h))
  (aL (Km 400 PassesOwn.never (bY Ji lN (XN.r (iC iD (iG rfl) rfl dY G2 (aG (aH (pv 3)) aO))) (XN.r (aK)) (bQ _)) (aL (UL (t:=3) (i:=4) (pv 3) (λa=>jf G0 PySem.F.slot_list_pop PySem.F.type_list_pop jg a) (λh=>aW oZ.nd rfl (by first | exact D2 rfl | exact D3 rfl) h))
  (aR (pJ [4] PassesOwn.never rfl (cN (bD (aH (pv 0)) (aH (pv 4)) (λ_ _=>rfl))) (cG (i:=5) oZ.nd rfl (by first | exact D2 rfl | exact D3 rfl)) (aR (iY (fW hu (aH (pv 5)) (aH (pv 2))) (aL (kI (qU (pv 2)) (aH (pv 5)) (XN.r (oK)) (λa b c=>jY hu a b c rfl))
  (aR (qW (qU (pv 3)) (XR.n (aH (pv 5))) (λa b=>mQ (xG G0 G6 G7 fV a (eQ b iZ)))))) fP))))))
  (aR (cO (iC Pk (vR rfl) rfl kO Q3 (aG (aH (pv 2)) aO))))))⟩
theorem Wy:aZ ["changes"] ["changes"] (aJ vI):=by walk_at "fs"
theorem Qh(R:Raw K mg "needs_of" vI) (wY:uP mg "NEEDS" (3)):iU P w K mg base "needs_of" 1 1 (iW K 1 rB):=by
 refine R.lW Wy (λ_ _ _ _ _ _ us hl=>match us,hl with | [_],_=>rfl) (λ_ _ _ _ _ _ _ hr=>?_)
 have cZ:=hr.units
 have hu:=dW hr
 exact⟨_,aR (cO (iJ ["change"] [] rfl (.at (aJ vI) ["changes"] (by decide +kernel)) (cN (aH (pv 0))) (dM (by decide +kernel) rfl rfl) (λ_ _ _ _ _=>yM) (λ_ _ _ _ _=>XR.n (bD (aH (pv 0)) (XN.r (Eg wY rfl)) (λ_ _=>rfl)))))⟩
theorem rF:aZ ["changes", "known", "goals", "wanted"] ["changes", "known", "goals"] (aJ gF):=by walk_at "fs"
theorem yE(R:Raw K mg "wanted_by_turn" gF) (Br:iU P w K mg base "needs_of" 1 1 (iW K 1 rB)) (Bu:iU P w K mg base "closure" 2 2 (iW K 2 oY)) (kO:mg "sorted" = none) (tO:uP mg "PANE" (0)):iU P w K mg base "wanted_by_turn" 3 3 (iW K 3 gG):=by
 refine R.aAD rF (λ_ _ _ _ _ _ us hl=>match us,hl with | [_,_,_],_=>rfl) (λf cdv A outer s H E hcd hr=>?_)
 obtain⟨cc,rfl⟩:=CK hcd
 have cZ:=hr.units
 have hu:=dW hr
 exact⟨_,aL (yN (i:=3) ["number", "known"] [1] rfl (.at (aJ gF) ["changes", "known", "goals", "wanted"] (by decide +kernel)) rF.nd rfl (by first | exact D2 rfl | exact D3 rfl) (cN (XN.r (bT Bu (hr.mono (by decide)) rfl (aG (XN.r (bT Br (hr.mono (by decide)) rfl (aG (aH (pv 0)) aO))) (aG (aH (pv 2)) aO))))) (dM (by decide +kernel) rfl rfl) (λ_ _ _ _ _=>iI (bY Ji lN (bD (aH (pv 1)) (aH (pv 0)) (λ_ _=>rfl)) (XN.r (aK)) (bQ _))) (λ_ _ _ _ _=>XR.n (aH (pv 0))))
  (aR (cO (CZ ["number", "known", "changes"] "number" [1,0] rfl hr.depth (show oR (aJ gF) _ ["changes", "known", "goals", "wanted"] _ _ _ from⟨by rfl,by rfl,by rfl,by decide +kernel,by decide +kernel,by rfl,by rfl,by decide +kernel,by rfl,by decide +kernel⟩) ⟨_,rfl,hcd⟩ (show (("wanted_by_turn" : Str) ++ ".<locals>.") ++ "<lambda>" = nR by decide +kernel) rfl (λ_ _ _ _ _=>rfl) rfl kO Q3 (aH (pv 3)) (λ_ _ _ _ _ _=>Oi (eV (XR.n (bD (aH (pv 1)) (aH (pv 0)) (λ_ _=>rfl))) (eV (XR.n (bD (bD (aH (pv 2)) (aH (pv 0)) (λ_ _=>rfl)) (XN.r (Eg tO rfl)) (λ_ _=>rfl))) (eV (XR.n (aH (pv 0))) lQ)))))))⟩
theorem mK:aZ ["carvings", "pane", "start", "place"] ["carvings", "pane", "start"] (aJ nT):=by walk_at "fs"
theorem yF(R:Raw K mg "first_carving" nT) (dY:mg "len" = none):iU P w K mg base "first_carving" 1 3 (iW K 3 gH):=by
 refine R.lW mK (λ_ _ _ _ _ _ us hl=>match us,hl with | [_,_,_],_=>rfl) (λ_ _ _ _ _ _ _ hr=>?_)
 have cZ:=hr.units
 have hu:=dW hr
 exact⟨_,aL (aY (i:=3) (XR.n (aH (pv 2))) (λh=>aW mK.nd rfl (by first | exact D2 rfl | exact D3 rfl) h))
  (aL (Km 400 PassesOwn.never (XW.xt (qO (bY Jh lN (aH (pv 3)) (XN.r (iC iD (iG rfl) rfl dY G2 (aG (aH (pv 0)) aO))) (bQ _)) (mV (bY (Jz cZ rfl) Jy (bD (aH (pv 0)) (aH (pv 3)) (λ_ _=>rfl)) (aH (pv 1)) (bQ _))))) (aR (aY (i:=3) (dB (aH (pv 3)) (XN.r (aK))) (λh=>aW mK.nd rfl (by first | exact D2 rfl | exact D3 rfl) h))))
  (aR (mW (pv 3))))⟩
theorem rG:aZ ["changes", "settled", "goals", "known", "carvings", "settled_by", "number", "pane", "start", "place"] ["changes", "settled", "goals"] (aJ Ug):=by walk_at "fs"
theorem VP(R:Raw K mg "plan" Ug) (Qi:iU P w K mg base "turns" 2 2 (iW K 2 Bg)) (nU:iU P w K mg base "wanted_by_turn" 3 3 (iW K 3 gG)) (dZ:iU P w K mg base "waiting_needs" 1 3 (iW K 3 cW)) (nW:iU P w K mg base "first_carving" 1 3 (iW K 3 gH)) (yD:mg "max" = none) (dY:mg "len" = none) (tO:uP mg "PANE" (0)):iU P w K mg base "plan" 4 3 (iW K 3 Mh):=by
 refine R.lW rG (λ_ _ _ _ _ _ us hl=>match us,hl with | [_,_,_],_=>rfl) (λ_ _ _ _ _ _ _ hr=>?_)
 have cZ:=hr.units
 have hu:=dW hr
 exact⟨_,aL (aY (i:=3) (bT Qi (hr.mono (by decide)) rfl (aG (aH (pv 0)) (aG (aH (pv 1)) aO))) (λh=>aW rG.nd rfl (by first | exact D2 rfl | exact D3 rfl) h))
  (aL (aY (i:=4) (qN lQ) (λh=>aW rG.nd rfl (by first | exact D2 rfl | exact D3 rfl) h))
  (aL (aY (i:=5) (uN) (λh=>aW rG.nd rfl (by first | exact D2 rfl | exact D3 rfl) h))
  (aL (pJ [3] PassesOwn.never rfl (cN (XN.r (bT nU (hr.mono (by decide)) rfl (aG (aH (pv 0)) (aG (aH (pv 3)) (aG (aH (pv 2)) aO)))))) (cG (i:=6) rG.nd rfl (by first | exact D2 rfl | exact D3 rfl)) (aL (aY (i:=7) (XR.n (bD (bD (aH (pv 0)) (aH (pv 6)) (λ_ _=>rfl)) (XN.r (Eg tO rfl)) (λ_ _=>rfl))) (λh=>aW rG.nd rfl (by first | exact D2 rfl | exact D3 rfl) h))
  (aL (aY (i:=8) (TX (XN.r (iJ ["need", "settled_by"] [5] rfl (.at (aJ Ug) ["changes", "settled", "goals", "known", "carvings", "settled_by", "number", "pane", "start", "place"] (by decide +kernel)) (cN (XN.r (bT dZ (hr.mono (by decide)) rfl (aG (aH (pv 0)) (aG (aH (pv 3)) (aG (aH (pv 6)) aO)))))) (dM (by decide +kernel) rfl rfl) (λ_ _ _ _ _=>yM) (λ_ _ _ _ _=>XR.n (RC hu (aH (pv 1)) (aH (pv 0)) (λ_ _=>rfl))))) (XN.r (aK)) rfl yD O6) (λh=>aW rG.nd rfl (by first | exact D2 rfl | exact D3 rfl) h))
  (aL (aY (i:=9) (bT nW (hr.mono (by decide)) rfl (aG (aH (pv 4)) (aG (aH (pv 7)) (aG (aH (pv 8)) aO)))) (λh=>aW rG.nd rfl (by first | exact D2 rfl | exact D3 rfl) h))
  (aL (iY (bY (or_eq cZ rfl) oM (aH (pv 9)) (XN.r (iC iD (iG rfl) rfl dY G2 (aG (aH (pv 4)) aO))) (bQ _)) (aR (qW (qU (pv 4)) (XR.n (aH (pv 7))) (λa b=>mQ (xG G0 G6 G7 fV a (eQ b iZ))))) fP)
  (aR (kI (qU (pv 5)) (aH (pv 6)) (aH (pv 9)) (λa b c=>jY hu a b c rfl))))))))
  (aR (mW (pv 4))))))⟩
theorem Mm:aZ ["script", "k"] ["script", "k"] (aJ uB):=by walk_at "fs"
theorem Ih(R:Raw K mg "_law_cell_at" uB) (dY:mg "len" = none):iU P w K mg base "_law_cell_at" 1 2 (iW K 2 pQ):=by
 refine R.lW Mm (λ_ _ _ _ _ _ us hl=>match us,hl with | [_,_],_=>rfl) (λ_ _ _ _ _ _ _ hr=>?_)
 have cZ:=hr.units
 have hu:=dW hr
 exact⟨_,aL (iY (bY Jh lN (aH (pv 1)) (XN.r (iC iD (iG rfl) rfl dY G2 (aG (aH (pv 0)) aO))) (bQ _)) (aR (cO (XR.n (bD (aH (pv 0)) (aH (pv 1)) (λ_ _=>rfl))))) fP)
  (aR (cO aK))⟩
theorem kW:aZ ["cells", "changes", "mode", "done", "k", "number"] ["cells", "changes", "mode"] (aJ nC):=by walk_at "fs"
theorem Cz(R:Raw K mg "_law_settled" nC) (dY:mg "len" = none) (bZ:mg "range" = none) (gR:mg "list" = none):iU P w K mg base "_law_settled" 1 3 (iW K 3 gQ):=by
 refine R.lW kW (λ_ _ _ _ _ _ us hl=>match us,hl with | [_,_,_],_=>rfl) (λ_ _ _ _ _ _ _ hr=>?_)
 have cZ:=hr.units
 have hu:=dW hr
 exact⟨_,aL (aY (i:=3) (uN) (λh=>aW kW.nd rfl (by first | exact D2 rfl | exact D3 rfl) h))
  (aL (mX PassesOwn.never rfl (kY rfl bZ (aG (XN.r (iC iD (iG rfl) rfl dY G2 (aG (aH (pv 1)) aO))) aO)) (cG (i:=4) kW.nd rfl (by first | exact D2 rfl | exact D3 rfl)) (aL (aY (i:=5) (cD (XN.r (qL (XN.r (dB (bD (aH (pv 0)) (aH (pv 4)) (λ_ _=>rfl)) (XN.r (aK)))) (XN.r (aK)))) (XN.r (aK))) (λh=>aW kW.nd rfl (by first | exact D2 rfl | exact D3 rfl) h))
  (aR (iY (XW.xt (qO (bY Jh lN (XN.r (cD (XN.r (lO (aH (pv 5)) (XN.r (aK)))) (XN.r (aK)))) (aH (pv 2)) (bQ _)) (mV (bY (or_eq cZ rfl) oM (XN.r (iJ ["other", "done"] [3] rfl (.at (aJ nC) ["cells", "changes", "mode", "done", "k", "number"] (by decide +kernel)) (cN (bD (bD (aH (pv 1)) (aH (pv 4)) (λ_ _=>rfl)) (XN.r (aK)) (λ_ _=>rfl))) (dM (by decide +kernel) rfl rfl) (λ_ _ _ _ _=>iI (fW hu (aH (pv 0)) (aH (pv 1)))) (λ_ _ _ _ _=>XR.n (aH (pv 0))))) (lR aO) (bQ _))))) (aR (kI (qU (pv 3)) (aH (pv 4)) (XN.r (oK)) (λa b c=>jY hu a b c rfl))) fP))))
  (aR (cO (qP zX (lJ rfl) rfl gR J2 (aG (aH (pv 3)) aO)))))⟩
theorem pU:aZ ["changes", "held", "pane", "ready", "k"] ["changes", "held", "pane"] (aJ nD):=by walk_at "fs"
theorem Dc(R:Raw K mg "_law_own_ripe" nD) (dY:mg "len" = none) (bZ:mg "range" = none) (gR:mg "list" = none):iU P w K mg base "_law_own_ripe" 1 3 (iW K 3 cJ):=by
 refine R.lW pU (λ_ _ _ _ _ _ us hl=>match us,hl with | [_,_,_],_=>rfl) (λ_ _ _ _ _ _ _ hr=>?_)
 have cZ:=hr.units
 have hu:=dW hr
 exact⟨_,aL (aY (i:=3) (uN) (λh=>aW pU.nd rfl (by first | exact D2 rfl | exact D3 rfl) h))
  (aL (mX PassesOwn.never rfl (kY rfl bZ (aG (XN.r (iC iD (iG rfl) rfl dY G2 (aG (aH (pv 0)) aO))) aO)) (cG (i:=4) pU.nd rfl (by first | exact D2 rfl | exact D3 rfl)) (aR (iY (XW.xt (qO (fW hu (aH (pv 4)) (aH (pv 1))) (mV (bY (or_eq cZ rfl) oM (bD (bD (aH (pv 0)) (aH (pv 4)) (λ_ _=>rfl)) (XN.r (aK)) (λ_ _=>rfl)) (aH (pv 2)) (bQ _))))) (aR (iY (bY (or_eq cZ rfl) oM (XN.r (iJ ["other", "held", "ready"] [1,3] rfl (.at (aJ nD) ["changes", "held", "pane", "ready", "k"] (by decide +kernel)) (cN (bD (bD (aH (pv 0)) (aH (pv 4)) (λ_ _=>rfl)) (XN.r (aK)) (λ_ _=>rfl))) (dM (by decide +kernel) rfl rfl) (λ_ _ _ _ _=>iI (XW.xt (qO (fW hu (aH (pv 0)) (aH (pv 1))) (mV (fW hu (aH (pv 0)) (aH (pv 2))))))) (λ_ _ _ _ _=>XR.n (aH (pv 0))))) (lR aO) (bQ _)) (aR (kI (qU (pv 3)) (aH (pv 4)) (XN.r (oK)) (λa b c=>jY hu a b c rfl))) fP)) fP)))
  (aR (cO (qP zX (lJ rfl) rfl gR J2 (aG (aH (pv 3)) aO)))))⟩
theorem jQ:aZ ["answer", "changes", "held", "wanted", "done", "pane", "some", "k"] ["answer", "changes", "held", "wanted"] (aJ mH):=by walk_at "fs"
theorem Ii(R:Raw K mg "_law_walked" mH) (gU:iU P w K mg base "_law_own_ripe" 1 3 (iW K 3 cJ)) (zdict:mg "dict" = none):iU P w K mg base "_law_walked" 2 4 (iW K 4 mJ):=by
 refine R.lW jQ (λ_ _ _ _ _ _ us hl=>match us,hl with | [_,_,_,_],_=>rfl) (λ_ _ _ _ _ _ _ hr=>?_)
 have cZ:=hr.units
 have hu:=dW hr
 exact⟨_,aL (aY (i:=4) (qP Ln Lk rfl zdict V1 (aG (aH (pv 2)) aO)) (λh=>aW jQ.nd rfl (by first | exact D2 rfl | exact D3 rfl) h))
  (aL (pJ [] PassesOwn.never rfl (cN (aH (pv 0))) (cG (i:=5) jQ.nd rfl (by first | exact D2 rfl | exact D3 rfl)) (aL (aY (i:=6) (bT gU (hr.mono (by decide)) rfl (aG (aH (pv 1)) (aG (aH (pv 4)) (aG (aH (pv 5)) aO)))) (λh=>aW jQ.nd rfl (by first | exact D2 rfl | exact D3 rfl) h))
  (aL (iY (bY (or_eq cZ rfl) oM (XN.r (iJ ["k", "wanted"] [3] rfl (.at (aJ mH) ["answer", "changes", "held", "wanted", "done", "pane", "some", "k"] (by decide +kernel)) (cN (aH (pv 6))) (dM (by decide +kernel) rfl rfl) (λ_ _ _ _ _=>iI (bY (aAi rfl) (aAh false) (aH (pv 0)) (aH (pv 1)) (by with_unfolding_all rfl))) (λ_ _ _ _ _=>XR.n (aH (pv 0))))) (lR aO) (bQ _)) (aR (cO (oK))) fP)
  (aR (pJ [6] PassesOwn.never rfl (cN (aH (pv 6))) (cG (i:=7) jQ.nd rfl (by first | exact D2 rfl | exact D3 rfl)) (aR (kI (qU (pv 4)) (aH (pv 7)) (XN.r (oK)) (λa b c=>jY hu a b c rfl))))))))
  (aR (cO (Od (or_eq cZ rfl) oM (XN.r (iJ ["k", "done"] [4] rfl (.at (aJ mH) ["answer", "changes", "held", "wanted", "done", "pane", "some", "k"] (by decide +kernel)) (cN (aH (pv 3))) (dM (by decide +kernel) rfl rfl) (λ_ _ _ _ _=>iI (fW hu (aH (pv 0)) (aH (pv 1)))) (λ_ _ _ _ _=>XR.n (aH (pv 0))))) (lR aO) (bQ _)))))⟩
theorem Qj:aZ ["answer"] ["answer"] (aJ wU):=by walk_at "fs"
theorem Mp(R:Raw K mg "_law_whole" wU) (fQ:mg "isinstance" = none) (HN:mg "bool" = none) (Il:mg "int" = none):iU P w K mg base "_law_whole" 1 1 (iW K 1 sE):=by
 refine R.lW Qj (λ_ _ _ _ _ _ us hl=>match us,hl with | [_],_=>rfl) (λ_ _ _ _ _ _ _ hr=>?_)
 have cZ:=hr.units
 have hu:=dW hr
 exact⟨_,aR (cO (Zc (XN.r (Ot (aH (pv 0)) (Fo (v:=.ty "int") rfl Il Q8 rfl) rfl fQ)) (Sg (mj (XN.r (Ot (aH (pv 0)) (Fo (v:=.ty "bool") rfl HN PyProof.Rows.boot_bool rfl) rfl fQ))))))⟩
theorem vM:aZ ["answer", "many", "k"] ["answer", "many"] (aJ rC):=by walk_at "fs"
theorem Dd(R:Raw K mg "_law_numbers" rC) (wZ:iU P w K mg base "_law_whole" 1 1 (iW K 1 sE)) (fQ:mg "isinstance" = none) (gR:mg "list" = none):iU P w K mg base "_law_numbers" 2 2 (iW K 2 jP):=by
 refine R.lW vM (λ_ _ _ _ _ _ us hl=>match us,hl with | [_,_],_=>rfl) (λ_ _ _ _ _ _ _ hr=>?_)
 have cZ:=hr.units
 have hu:=dW hr
 exact⟨_,aL (iY (Oj (Oe (XN.r (Ot (aH (pv 0)) (Fo (v:=.ty "list") rfl gR J2 rfl) rfl fQ)))) (aR (cO (oK))) fP)
  (aL (pJ [] PassesOwn.never rfl (cN (aH (pv 0))) (cG (i:=2) vM.nd rfl (by first | exact D2 rfl | exact D3 rfl)) (aR (iY (XW.xt (Zb (Oj (Oe (XN.r (bT wZ (hr.mono (by decide)) rfl (aG (aH (pv 2)) aO))))) (Zb (bY Jh lN (aH (pv 2)) (XN.r (aK)) (bQ _)) (Za (bY yw lN (aH (pv 2)) (aH (pv 1)) (bQ _)))))) (aR (cO (oK))) fP)))
  (aR (cO (oK))))⟩
theorem Wz:aZ ["changes", "k", "other"] ["changes", "k", "other"] (aJ Bl):=by walk_at "fs"
theorem Qk(R:Raw K mg "_law_more" Bl) (Il:mg "int" = none):iU P w K mg base "_law_more" 1 3 (iW K 3 rD):=by
 refine R.lW Wz (λ_ _ _ _ _ _ us hl=>match us,hl with | [_,_,_],_=>rfl) (λ_ _ _ _ _ _ _ hr=>?_)
 have cZ:=hr.units
 have hu:=dW hr
 exact⟨_,aR (cO (qP Ti Th rfl Il Q8 (aG (XN.r (Od (Jz cZ rfl) Jy (bD (bD (aH (pv 0)) (aH (pv 1)) (λ_ _=>rfl)) (XN.r (aK)) (λ_ _=>rfl)) (bD (bD (aH (pv 0)) (aH (pv 2)) (λ_ _=>rfl)) (XN.r (aK)) (λ_ _=>rfl)) (bQ _))) aO)))⟩
theorem jK:aZ ["changes", "held", "answer", "k", "some"] ["changes", "held"] (aJ kJ):=by walk_at "fs"
theorem Bv(R:Raw K mg "_law_own_turns" kJ) (Bw:iU P w K mg base "_law_more" 1 3 (iW K 3 rD)) (dY:mg "len" = none) (bZ:mg "range" = none) (yD:mg "max" = none) (Il:mg "int" = none):iU P w K mg base "_law_own_turns" 2 2 (iW K 2 iQ):=by
 refine R.lW jK (λ_ _ _ _ _ _ us hl=>match us,hl with | [_,_],_=>rfl) (λ_ _ _ _ _ _ _ hr=>?_)
 have cZ:=hr.units
 have hu:=dW hr
 exact⟨_,aL (aY (i:=2) (qN lQ) (λh=>aW jK.nd rfl (by first | exact D2 rfl | exact D3 rfl) h))
  (aL (mX PassesOwn.never rfl (kY rfl bZ (aG (XN.r (iC iD (iG rfl) rfl dY G2 (aG (aH (pv 0)) aO))) aO)) (cG (i:=3) jK.nd rfl (by first | exact D2 rfl | exact D3 rfl)) (aL (yN (i:=4) ["other", "held", "answer", "changes", "k"] [1,2,0,3] rfl (.at (aJ kJ) ["changes", "held", "answer", "k", "some"] (by decide +kernel)) jK.nd rfl (by first | exact D2 rfl | exact D3 rfl) (cN (bD (bD (aH (pv 0)) (aH (pv 3)) (λ_ _=>rfl)) (XN.r (aK)) (λ_ _=>rfl))) (dM (by decide +kernel) rfl rfl) (λ_ _ _ _ _=>iI (fW hu (aH (pv 0)) (aH (pv 1)))) (λ_ _ _ _ _=>dB (bD (aH (pv 2)) (aH (pv 0)) (λ_ _=>rfl)) (XN.r (bT Bw (hr.mono (by decide)) rfl (aG (aH (pv 3)) (aG (aH (pv 4)) (aG (aH (pv 0)) aO)))))))
  (aR (qW (qU (pv 2)) (qL (XN.r (iC Hi (Ho rfl) rfl yD O6 (aG (XN.r (dB (lR (aG (XN.r (aK)) aO)) (aH (pv 4)))) aO))) (XN.r (qP Ti Th rfl Il Q8 (aG (XN.r (Ea hu (aH (pv 3)) (aH (pv 1)))) aO)))) (λa b=>mQ (xG G0 G6 G7 fV a (eQ b iZ)))))))
  (aR (mW (pv 2))))⟩
theorem jR:aZ ["changes", "held", "wanted", "due", "done", "before", "rank", "some", "pane", "k"] ["changes", "held", "wanted"] (aJ sG):=by walk_at "fs"
theorem Xa(R:Raw K mg "_law_due" sG) (pW:iU P w K mg base "_law_own_turns" 2 2 (iW K 2 iQ)) (gU:iU P w K mg base "_law_own_ripe" 1 3 (iW K 3 cJ)) (zdict:mg "dict" = none) (yD:mg "max" = none) (bZ:mg "range" = none):iU P w K mg base "_law_due" 3 3 (iW K 3 vK):=by
 refine R.lW jR (λ_ _ _ _ _ _ us hl=>match us,hl with | [_,_,_],_=>rfl) (λ_ _ _ _ _ _ _ hr=>?_)
 have cZ:=hr.units
 have hu:=dW hr
 exact⟨_,aL (aY (i:=3) (qN lQ) (λh=>aW jR.nd rfl (by first | exact D2 rfl | exact D3 rfl) h))
  (aL (aY (i:=4) (qP Ln Lk rfl zdict V1 (aG (aH (pv 1)) aO)) (λh=>aW jR.nd rfl (by first | exact D2 rfl | exact D3 rfl) h))
  (aL (aY (i:=5) (bT pW (hr.mono (by decide)) rfl (aG (aH (pv 0)) (aG (aH (pv 1)) aO))) (λh=>aW jR.nd rfl (by first | exact D2 rfl | exact D3 rfl) h))
  (aL (mX PassesOwn.never rfl (Vt (λh=>Uv rfl bZ h) (aG (XN.r (aK)) (aG (XN.r (dB (XN.r (iC Hi (Ho rfl) rfl yD O6 (aG (XN.r (dB (lR (aG (XN.r (aK)) aO)) (XN.r (iJ ["k", "before"] [5] rfl (.at (aJ sG) ["changes", "held", "wanted", "due", "done", "before", "rank", "some", "pane", "k"] (by decide +kernel)) (cN (aH (pv 2))) (dM (by decide +kernel) rfl rfl) (λ_ _ _ _ _=>yM) (λ_ _ _ _ _=>XR.n (bD (aH (pv 1)) (aH (pv 0)) (λ_ _=>rfl))))))) aO))) (XN.r (aK)))) aO))) (cG (i:=6) jR.nd rfl (by first | exact D2 rfl | exact D3 rfl)) (aL (yN (i:=7) ["k", "before", "rank"] [5,6] rfl (.at (aJ sG) ["changes", "held", "wanted", "due", "done", "before", "rank", "some", "pane", "k"] (by decide +kernel)) jR.nd rfl (by first | exact D2 rfl | exact D3 rfl) (cN (aH (pv 2))) (dM (by decide +kernel) rfl rfl) (λ_ _ _ _ _=>iI (bY (or_eq cZ rfl) oM (bD (aH (pv 1)) (aH (pv 0)) (λ_ _=>rfl)) (aH (pv 2)) (bQ _))) (λ_ _ _ _ _=>XR.n (aH (pv 0))))
  (aR (mX PassesOwn.never rfl (kY rfl bZ (aG (XN.r (aK)) aO)) (cG (i:=8) jR.nd rfl (by first | exact D2 rfl | exact D3 rfl)) (aR (iY (bY (Jz cZ rfl) Jy (XN.r (iJ ["k", "changes", "pane", "done"] [0,8,4] rfl (.at (aJ sG) ["changes", "held", "wanted", "due", "done", "before", "rank", "some", "pane", "k"] (by decide +kernel)) (cN (aH (pv 7))) (dM (by decide +kernel) rfl rfl) (λ_ _ _ _ _=>iI (XW.xt (qO (bY (or_eq cZ rfl) oM (bD (bD (aH (pv 1)) (aH (pv 0)) (λ_ _=>rfl)) (XN.r (aK)) (λ_ _=>rfl)) (aH (pv 2)) (bQ _)) (mV (fW hu (aH (pv 0)) (aH (pv 3))))))) (λ_ _ _ _ _=>XR.n (aH (pv 0))))) (lR aO) (bQ _)) (aL (qW (qU (pv 3)) (XR.n (aH (pv 8))) (λa b=>mQ (xG G0 G6 G7 fV a (eQ b iZ))))
  (aR (TJ PassesOwn.never rfl (bT gU (hr.mono (by decide)) rfl (aG (aH (pv 0)) (aG (aH (pv 4)) (aG (aH (pv 8)) aO)))) (cG (i:=9) jR.nd rfl (by first | exact D2 rfl | exact D3 rfl)) (aR (kI (qU (pv 4)) (aH (pv 9)) (XN.r (oK)) (λa b c=>jY hu a b c rfl)))))) fP))))))
  (aR (mW (pv 3))))))⟩
theorem pA:aZ ["script", "first", "cells", "changes", "settled", "share", "goals", "held", "wanted", "given", "answer"] ["script"] (aJ VN):=by walk_at "fs"
theorem uv{f:Addr}{fd:FuncData}(F:Xm K "law" "law" VN f fd) (uD:iU P w K mg base "_law_cell_at" 1 2 (iW K 2 pQ)) (rH:iU P w K mg base "_law_changes" 2 3 (iW K 3 jO)) (rJ:iU P w K mg base "_law_settled" 1 3 (iW K 3 gQ)) (pX:iU P w K mg base "_law_turned" 1 2 (iW K 2 jG)) (lG:iU P w K mg base "_law_marks" 1 1 (iW K 1 lF)) (uE:iU P w K mg base "_law_wanted" 2 3 (iW K 3 mG)) (HQ:iU P w K mg base "plan" 4 3 (iW K 3 Mh)) (rK:iU P w K mg base "_law_numbers" 2 2 (iW K 2 jP)) (Im:iU P w K mg base "_law_due" 3 3 (iW K 3 vK)) (uF:iU P w K mg base "_law_walked" 2 4 (iW K 4 mJ)) (dY:mg "len" = none) (bZ:mg "range" = none) (gR:mg "list" = none) (qz:∀ns:List Int,ns.length≤63→(∀k∈ns,Small k)→uo [.lst (ns.map D.int)]=some (.bl true)):uH P w K mg base Nu 5 f fd ["script"] (spB K):=by
 refine F.okB pA (λcdv A outer s H E hr=>?_) qz
 have cZ:=hr.units
 have hu:=dW hr
 exact⟨_,aL (aY (i:=1) (cD (XN.r (bT uD (hr.mono (by decide)) rfl (aG (aH (pv 0)) (aG (XN.r (aK)) aO)))) (XN.r (aK))) (λh=>aW pA.nd rfl (by first | exact D2 rfl | exact D3 rfl) h))
  (aL (aY (i:=2) (Zi (aH (pv 0)) (rQ (XN.r (aK))) (rQ (XN.r (aK)))) (λh=>aW pA.nd rfl (by first | exact D2 rfl | exact D3 rfl) h))
  (aL (aY (i:=3) (bT rH (hr.mono (by decide)) rfl (aG (aH (pv 2)) (aG (XN.r (dB (XN.r (aK)) (XN.r (cD (aH (pv 1)) (XN.r (aK)))))) (aG (XN.r (aK)) aO)))) (λh=>aW pA.nd rfl (by first | exact D2 rfl | exact D3 rfl) h))
  (aL (aY (i:=4) (bT pX (hr.mono (by decide)) rfl (aG (XN.r (bT rJ (hr.mono (by decide)) rfl (aG (aH (pv 2)) (aG (aH (pv 3)) (aG (XN.r (cD (XN.r (lO (aH (pv 1)) (XN.r (aK)))) (XN.r (aK)))) aO))))) (aG (XN.r (lO (aH (pv 1)) (XN.r (aK)))) aO))) (λh=>aW pA.nd rfl (by first | exact D2 rfl | exact D3 rfl) h))
  (aL (aY (i:=5) (dB (XN.r (aK)) (XN.r (cD (XN.r (lO (aH (pv 1)) (XN.r (aK)))) (XN.r (aK))))) (λh=>aW pA.nd rfl (by first | exact D2 rfl | exact D3 rfl) h))
  (aL (yN (i:=6) ["k", "cells", "share"] [2,5] rfl (.at (aJ VN) ["script", "first", "cells", "changes", "settled", "share", "goals", "held", "wanted", "given", "answer"] (by decide +kernel)) pA.nd rfl (by first | exact D2 rfl | exact D3 rfl) (Ef rfl bZ (aG (XN.r (iC iD (iG rfl) rfl dY G2 (aG (aH (pv 2)) aO))) aO)) (dM (by decide +kernel) rfl rfl) (λ_ _ _ _ _=>iI (bY Jh lN (XN.r (cD (XN.r (lO (XN.r (cD (XN.r (qL (XN.r (dB (bD (aH (pv 1)) (aH (pv 0)) (λ_ _=>rfl)) (XN.r (aK)))) (XN.r (aK)))) (XN.r (aK)))) (XN.r (aK)))) (XN.r (aK)))) (XN.r (vW (aH (pv 2)) (XN.r (aK)))) (bQ _))) (λ_ _ _ _ _=>XR.n (aH (pv 0))))
  (aL (iY (XW.xt (qO (bY (or_eq cZ rfl) oM (aH (pv 5)) (XN.r (aK)) (bQ _)) (mV (bY (Jz cZ rfl) Jy (aH (pv 2)) (lR aO) (bQ _))))) (aR (aY (i:=6) (qN (eV (vW (XN.r (iC iD (iG rfl) rfl dY G2 (aG (aH (pv 2)) aO))) (XN.r (aK))) lQ)) (λh=>aW pA.nd rfl (by first | exact D2 rfl | exact D3 rfl) h))) fP)
  (aL (aY (i:=6) (bT pX (hr.mono (by decide)) rfl (aG (aH (pv 6)) (aG (XN.r (lO (aH (pv 1)) (XN.r (aK)))) aO))) (λh=>aW pA.nd rfl (by first | exact D2 rfl | exact D3 rfl) h))
  (aL (aY (i:=7) (bT lG (hr.mono (by decide)) rfl (aG (aH (pv 4)) aO)) (λh=>aW pA.nd rfl (by first | exact D2 rfl | exact D3 rfl) h))
  (aL (aY (i:=8) (bT uE (hr.mono (by decide)) rfl (aG (aH (pv 3)) (aG (aH (pv 7)) (aG (aH (pv 6)) aO)))) (λh=>aW pA.nd rfl (by first | exact D2 rfl | exact D3 rfl) h))
  (aL (aY (i:=9) (qN (eV (qP Gv (Gw rfl) rfl gR J2 (aG (aH (pv 3)) aO)) (eV (qP Gv (Gw rfl) rfl gR J2 (aG (aH (pv 4)) aO)) (eV (qP Gv (Gw rfl) rfl gR J2 (aG (aH (pv 6)) aO)) lQ)))) (λh=>aW pA.nd rfl (by first | exact D2 rfl | exact D3 rfl) h))
  (aL (aY (i:=10) (bT HQ (hr.mono (by decide)) rfl (aG (bD (aH (pv 9)) (XN.r (aK)) (λ_ _=>rfl)) (aG (bD (aH (pv 9)) (XN.r (aK)) (λ_ _=>rfl)) (aG (bD (aH (pv 9)) (XN.r (aK)) (λ_ _=>rfl)) aO)))) (λh=>aW pA.nd rfl (by first | exact D2 rfl | exact D3 rfl) h))
  (aL (iY (XW.xt (Zb (bY (Jz cZ rfl) Jy (aH (pv 9)) (lR (aG (aH (pv 3)) (aG (aH (pv 4)) (aG (aH (pv 6)) aO)))) (bQ _)) (Za (Oj (Oe (XN.r (bT rK (hr.mono (by decide)) rfl (aG (aH (pv 10)) (aG (XN.r (aK)) aO))))))))) (aR (cO (oK))) fP)
  (aR (cO (Zc (XN.r (bT uF (hr.mono (by decide)) rfl (aG (aH (pv 10)) (aG (aH (pv 3)) (aG (aH (pv 7)) (aG (aH (pv 8)) aO)))))) (Sg (Od (or_eq cZ rfl) oM (aH (pv 10)) (XN.r (bT Im (hr.mono (by decide)) rfl (aG (aH (pv 3)) (aG (aH (pv 7)) (aG (aH (pv 8)) aO))))) (bQ _))))))))))))))))))⟩
end
end Rs

namespace Rs
open PySem L2
local macro_rules | `(tactic| walk_at "lt")=>`(tactic| exact V7 rfl)
local macro_rules | `(tactic| walk_at "sc")=>`(tactic| first | omega | with_reducible assumption | exact Int.pow_pos (by decide) | exact aBQ (by omega) (by omega) | exact ue (by omega) (by omega))
local macro_rules | `(tactic| walk_at "op")=>`(tactic| first | with_reducible assumption | with_reducible exact jE _ _ | with_reducible exact qZ _ _ | with_reducible exact pK _ _ | with_reducible exact yP _ _ | with_reducible exact uZ _ _ | with_reducible exact rY _ _ | with_reducible exact Ht _ _ | with_reducible exact dLe_int _ _ | with_reducible exact fY _ | with_reducible exact dLen_lst _ | with_reducible exact dLen_tup _ | ((with_reducible apply uW);walk_at "sc") | ((with_reducible apply uX);walk_at "sc") | ((with_reducible apply An);(walk_at "sc");walk_at "sc") | ((with_reducible apply uY);exact⟨by decide,by decide,by omega⟩) | ((with_reducible apply jN);(walk_at "sc");walk_at "sc"))
local macro_rules | `(tactic| walk_at "ea")=>`(tactic| first | with_reducible exact FJ | ((with_reducible apply aF);(walk_at "ev");walk_at "ea"))
local macro_rules | `(tactic| walk_at "ev")=>`(tactic| first | ((with_reducible apply VG);exact rfl) | with_reducible exact aAF | with_reducible assumption | ((with_reducible apply aP);(walk_at "ev");(walk_at "ev");walk_at "op") | ((with_reducible apply cR);(walk_at "ea");walk_at "op") | ((with_reducible apply bL);(walk_at "ea");exact rfl;with_reducible assumption) | ((with_reducible apply bM);(walk_at "ev");exact rfl) | ((with_reducible apply Hv);walk_at "ev") | ((with_reducible apply Hu);(walk_at "ea");walk_at "lt") | ((with_reducible apply eY);(walk_at "ea");walk_at "lt"))
local macro_rules | `(tactic| walk_at "et")=>`(tactic| first | ((with_reducible apply yO);walk_at "et") | ((with_reducible apply Hx);(walk_at "et");walk_at "et") | ((with_reducible apply mZ);(walk_at "et");walk_at "et") | ((with_reducible apply bU);walk_at "ev"))
local macro_rules | `(tactic| walk_at "set")=>`(tactic| (apply sq_set;(walk_at "ev");(walk_at "lt")))
local macro_rules | `(tactic| walk_at "q")=>`(tactic| (apply dH;(walk_at "ev");(walk_at "lt")))
local macro_rules | `(tactic| walk_at "op")=>`(tactic| first | with_reducible assumption | with_reducible exact jE _ _ | with_reducible exact qZ _ _ | with_reducible exact pK _ _ | with_reducible exact yP _ _ | with_reducible exact uZ _ _ | with_reducible exact rY _ _ | with_reducible exact Ht _ _ | with_reducible exact dLe_int _ _ | with_reducible exact fY _ | with_reducible exact pN _ | with_reducible exact jF _ _ _ | with_reducible exact Wt _ _ | with_reducible exact dMax2_int _ _ | with_reducible exact Ba _ | with_reducible exact pM _ | with_reducible exact ix_place _ | with_reducible exact ix_thing _ | with_reducible exact mF _ | ((with_reducible apply pL);omega) | with_reducible exact dLen_lst _ | with_reducible exact dLen_tup _ | ((with_reducible apply uW);walk_at "sc") | ((with_reducible apply Ws);(walk_at "sc");walk_at "sc") | ((with_reducible apply uX);walk_at "sc") | ((with_reducible apply An);(walk_at "sc");walk_at "sc") | ((with_reducible apply uY);exact⟨by decide,by decide,by omega⟩) | ((with_reducible apply jN);(walk_at "sc");walk_at "sc"))
theorem Xb(ns:List Int)(k:Nat):pQ [aD ns,.int k]=some (.int (ns.getD k 0)):=by
 refine lY rfl ?_
 unfold Bj
 by_cases c:k<ns.length
 ·apply DR
  ·walk_at "et"
  ·exact decide_eq_true (by omega)
  have hx:=jN (ns:=ns) (i:=k) (by omega) (by omega)
  rw[C5]at hx
  apply ZP
  ·walk_at "ev"
  ·rfl
 ·apply DQ
  ·walk_at "et"
  ·exact decide_eq_false (by omega)
  apply ZM
  rw[B3,F0 (by omega)]
  exact mY rfl
theorem HR(c:Int){k:Nat}(hk:k≤60):∃ms,oX [.int c,.int k]=some (dTup ms)∧(∀m∈ms,0≤m∧m<k)∧ms.Pairwise (·<·)∧ms.length≤4:=by
 suffices h:∃d,oX [.int c,.int k]=some d∧∃ms,d=dTup ms∧(∀m∈ms,0≤m∧m<k)∧ms.Pairwise (·<·)∧ms.length≤4 by
  obtain⟨d,h1,ms,rfl,h2⟩:=h
  exact⟨ms,h1,h2⟩
 refine eO rfl ?_
 unfold Ew
 walk_at "q"
 walk_at "q"
 have b0:=K2 ((c+11)*1103515245) (show (2147483647:Int)≠0 by decide)
 have b1:=K9 ((c+11)*1103515245) (show (0:Int)<2147483647 by decide)
 generalize (c+11)*1103515245%2147483647=base at *
 refine Lx (xs:=[.int 48271,.int 69621,.int 16807,.int 40014]) (λn env=>∃(w:List Int)(v4 v5 v6:SD),env=[.fro (.int c),.fro (.int k),.own (aD w),.own (.int base),v4,v5,v6]∧w.length≤n∧∀m∈w,0≤m∧m<k) rfl rfl ⟨[],_,_,_,rfl,B4 _,λm hm=>absurd hm (by simp)⟩ ?_ ?_
 ·rintro j x env hx ⟨w,v4,v5,v6,rfl,hw,hm⟩
  refine⟨by walk_at "lt", ?_⟩
  have hj:j<4:=(B8.mp hx).1
  obtain⟨y,rfl,y0,y1⟩:∃y:Int,x=.int y∧0≤y∧y<100000:=by
   match j,hx with
   | 0,hx=>cases hx;exact⟨_,rfl,by decide,by decide⟩
   | 1,hx=>cases hx;exact⟨_,rfl,by decide,by decide⟩
   | 2,hx=>cases hx;exact⟨_,rfl,by decide,by decide⟩
   | 3,hx=>cases hx;exact⟨_,rfl,by decide,by decide⟩
  walk_at "q"
  have n0:=K2 (base*y) (show (2147483647:Int)≠0 by decide)
  have n1:=K9 (base*y) (show (0:Int)<2147483647 by decide)
  generalize base*y%2147483647=number at *
  apply vC
  ·walk_at "et"
  ·intro hb
   rw[D7,decide_eq_true_iff,decide_eq_true_iff]at hb
   have kp:0<k:=by omega
   walk_at "q"
   have hnear:∃nr:Int,0<nr∧nr≤k∧rR (fB (f2 Rz (f2 fG (f2 nM (aB 5) (fC (.int 2))) (fC (.int 3))) (fC (.int 0)))) (bJ 6 (fL Kh (aC (aB 1) (aC (fC (.int 4)) aM)))) eX [.fro (.int c),.fro (.int k),.own (aD w),.own (.int base),.fro (.int y),.own (.int number),.own (.int k)]=.next [.fro (.int c),.fro (.int k),.own (aD w),.own (.int base),.fro (.int y),.own (.int number),.own (.int nr)]:=by
    by_cases q:number/2%3 > 0
    ·refine⟨if 4<(k:Int)then 4 else k,by split<;>omega,by split<;>omega,?_⟩
     have e:fB (f2 Rz (f2 fG (f2 nM (aB 5) (fC (.int 2))) (fC (.int 3))) (fC (.int 0))) (rE [.fro (.int c),.fro (.int k),.own (aD w),.own (.int base),.fro (.int y),.own (.int number),.own (.int k)])=some (decide (0<number/2%3)):=by walk_at "et"
     rw[decide_eq_true q]at e
     rw[qY e]
     apply uV
     ·walk_at "ev"
     ·walk_at "lt"
    ·refine⟨k,by omega,P1 _,?_⟩
     have e:fB (f2 Rz (f2 fG (f2 nM (aB 5) (fC (.int 2))) (fC (.int 3))) (fC (.int 0))) (rE [.fro (.int c),.fro (.int k),.own (aD w),.own (.int base),.fro (.int y),.own (.int number),.own (.int k)])=some (decide (0<number/2%3)):=by walk_at "et"
     rw[decide_eq_false q]at e
     rw[oU e]
     rfl
   obtain⟨nr,r0,r1,hq⟩:=hnear
   refine Wk hq ?_
   have m0:=K2 (number/6) (show nr≠0 by omega)
   have m1:=K9 (number/6) r0
   refine wM (ds:=w.map D.int) (d:=.int ((k:Int)-1-number/6%nr)) rfl (by walk_at "ev") (by rw[B5];omega) ?_
   rw[gK]
   refine⟨_,rfl,w++[(k:Int)-1-number/6%nr],_,_,_,rfl,by rw[C7];simp;omega,λm hm'=>?_⟩
   rcases D9.mp hm' with z | z
   ·exact hm m z
   ·rw[C6.mp z]
    omega
  ·intro _
   apply Av
   exact⟨_,rfl,w,_,_,_,rfl,by omega,hm⟩
 ·rintro env ⟨w,v4,v5,v6,rfl,hw,hm⟩
  have hw:w.length≤4:=hw
  refine mC (cR (aF (GF rfl (Qc (by omega))) rfl) (Lz _)) ⟨_,rfl,Vz w,rfl,λm q=>hm m ((Hq m w).mp q),Ph w,?_⟩
  have:=Td w
  omega
theorem HS{c:Int}(hb:Small c):∃ts,oW [.int c]=some (dTup ts):=by
 suffices h:∃d,oW [.int c]=some d∧∃ts,d=dTup ts by
  obtain⟨d,h1,ts,rfl⟩:=h
  exact⟨ts,h1⟩
 refine eO rfl ?_
 unfold Eu
 have hb':Builtin.Int.intBits c≤4000000:=E5 hb (by decide)
 have hp:(10:Int) ^ (58:Int).toNat=10 ^ 58:=rfl
 have e58:Jx (.int 10) (.int 58)=some (.int (10 ^ 58)):=uY ⟨by decide,by decide,by decide⟩
 have e57:Jx (.int 10) (.int 57)=some (.int (10 ^ 57)):=uY ⟨by decide,by decide,by decide⟩
 walk_at "q"
 generalize c*16807%2147483647%1009=a1
 generalize c%10 ^ 58-10 ^ 57=a2
 generalize c*c%10 ^ 58=a3
 refine mC (d:=dTup (kE [a1,a2,a3] none (some (c*69621%2147483647%4)))) (Wq (ts:=[a1,a2,a3]) rfl rfl (lC ?_)) ⟨_,rfl,_,rfl⟩
 walk_at "ev"
theorem Ql{cells:List Int}{P Q:Int}(hl:cells.length≤60)(hs:∀c∈cells,Small c)(hP:0<P)(hQ:0<Q)(hQ2:Q<1000):∃cs,jO [aD cells,.int P,.int Q]=some (bA cs)∧cs.length=cells.length∧Good cs∧∀k,k<cs.length→0≤(at_ cs k).bG∧(at_ cs k).bG<P∧0≤(at_ cs k).place∧(at_ cs k).place<Q:=by
 suffices h:∃d,jO [aD cells,.int P,.int Q]=some d∧∃cs,d=bA cs∧cs.length=cells.length∧(∀k,k<cs.length→(∀m∈(at_ cs k).needs,0≤m∧m<k)∧(at_ cs k).needs.Pairwise (·<·)∧(at_ cs k).needs.length≤4)∧∀k,k<cs.length→0≤(at_ cs k).bG∧(at_ cs k).bG<P∧0≤(at_ cs k).place∧(at_ cs k).place<Q by
  obtain⟨d,h1,cs,rfl,h2,h3,h4⟩:=h
  exact⟨cs,h1,h2,⟨by omega,h3⟩,h4⟩
 refine eO rfl ?_
 unfold xO
 walk_at "q"
 refine vD (n:=cells.length) (λn env=>∃(cs:List cX)(v4 v5 v6:SD),env=[.fro (aD cells),.fro (.int P),.fro (.int Q),.own (bA cs),v4,v5,v6]∧cs.length=n∧(∀k,k<cs.length→(∀m∈(at_ cs k).needs,0≤m∧m<k)∧(at_ cs k).needs.Pairwise (·<·)∧(at_ cs k).needs.length≤4)∧∀k,k<cs.length→0≤(at_ cs k).bG∧(at_ cs k).bG<P∧0≤(at_ cs k).place∧(at_ cs k).place<Q) (nA (aF (cR (aF rfl rfl) (fY _)) rfl) (by omega)) ⟨[],_,_,_,rfl,rfl,λk h=>absurd h (by simp),λk h=>absurd h (by simp)⟩ ?_ ?_
 ·rintro k env hk ⟨cs,v4,v5,v6,rfl,hn,h1,h2⟩
  refine⟨by walk_at "lt", ?_⟩
  have hx:=jN (ns:=cells) (i:=k) (by omega) (by omega)
  rw[C5]at hx
  obtain⟨ts,ht⟩:=HS (hs (cells.getD k 0) (J6 (Aw (d:=0) hk)))
  obtain⟨ms,hms,m1,m2,m3⟩:=HR (cells.getD k 0) (k:=k) (by omega)
  generalize cells.getD k 0=c at *
  walk_at "q"
  walk_at "q"
  have n0:=K2 ((c+7)*39373) (show (2147483647:Int)≠0 by decide)
  generalize (c+7)*39373%2147483647=number at *
  have p0:=K2 number (show P≠0 by omega)
  have p1:=K9 number hP
  have q0:=K2 (number/8) (show Q≠0 by omega)
  have q1:=K9 (number/8) hQ
  refine wM (ds:=cs.map Ma) (d:=Ma ⟨number%P,number/8%Q,ts,ms⟩) rfl (Hu (aF (by walk_at "ev") (aF (by walk_at "ev") (aF (bM rfl (vB ts)) (aF (bL (aF (aP rfl rfl hx) (aF rfl rfl)) rfl hms) rfl)))) (by exact Nat.le_of_ble_eq_true rfl)) (by rw[B5];omega) ?_
  rw[Wu]
  refine⟨_,rfl,cs++[⟨number%P,number/8%Q,ts,ms⟩],_,_,_,rfl,by rw[C7,hn];rfl,λj hj=>?_,λj hj=>?_⟩
  ·rw[C7]at hj
   rcases E3 j cs.length with z | z
   ·rw[Bc z]
    exact h1 j z
   ·have e:j=cs.length:=by simp at hj;omega
    rw[e,Ue,hn]
    exact⟨m1,m2,m3⟩
  ·rw[C7]at hj
   rcases E3 j cs.length with z | z
   ·rw[Bc z]
    exact h2 j z
   ·have e:j=cs.length:=by simp at hj;omega
    rw[e,Ue]
    exact⟨p0,p1,q0,q1⟩
 ·rintro env ⟨cs,v4,v5,v6,rfl,hn,h1,h2⟩
  exact tX rfl ⟨_,rfl,cs,rfl,hn,h1,h2⟩
def Xc(cs:List cX)(l:List Int):Prop:=∀x∈l,0≤x∧x<cs.length∧∀m∈(at_ cs x.toNat).needs,m∈l
theorem Qm{cells:List Int}{cs:List cX}(mode:Int)(hg:Good cs)(hl:cs.length≤cells.length):∃l,gQ [aD cells,bA cs,.int mode]=some (aD l)∧Xc cs l∧l.Pairwise (·<·)∧l.length≤cs.length:=by
  suffices h:∃d,gQ [aD cells,bA cs,.int mode]=some d∧∃l,d=aD l∧Xc cs l∧l.Pairwise (·<·)∧l.length≤cs.length by
    obtain⟨d,h1,l,rfl,h2⟩:=h
    exact⟨l,h1,h2⟩
  refine eO rfl ?_
  unfold xP
  refine dH (d:=cV []) rfl (by exact Nat.le_of_ble_eq_true rfl) ?_
  have HW:=hg.1
  refine vD (n:=cs.length) (λn env=>∃(l:List Int)(v4 v5:SD),env=[.fro (aD cells),.fro (bA cs),.fro (.int mode),.own (cV l),v4,v5]∧(∀x∈l,0≤x∧x<n)∧Xc cs l∧l.Pairwise (·<·)∧l.length≤n) (nA (aF (cR (aF rfl rfl) (pN _)) rfl) (by omega)) ⟨[],_,_,rfl,λx h=>absurd h (by simp),λx h=>absurd h (by simp),.nil,B4 _⟩ ?_ ?_
  · rintro k env hk ⟨l,v4,v5,rfl,h1,h2,h3,h4⟩
    refine⟨by walk_at "lt", ?_⟩
    have hx:=jN (ns:=cells) (i:=k) (by omega) (by omega)
    rw[C5]at hx
    generalize cells.getD k 0=c at *
    walk_at "q"
    generalize (c+3)*742938285%2147483647=number at *
    have hc:=pL (cs:=cs) (k:=k) hk
    obtain⟨g1,g2,g3⟩:=hg.2 k hk
    have cY:dF (cM (f2 dD (f2 dD (aB 1) (aB 4)) (fC (.int 3)))) [3] (fB (f2 (iB true) (aB 0) (aB 1))) (cC (aB 0)) (rE [.fro (aD cells),.fro (bA cs),.fro (.int mode),.own (cV l),.fro (.int k),.own (.int number)])=some (aD (((at_ cs k).needs.filter λm=>!decide (m∈l)).map id)):=by
      refine bV (λm=>!decide (m∈l)) id (lE (aP (aP rfl rfl hc) rfl (mF _))) (by omega) (λm hm=>bU (aP rfl rfl (jF true m l))) λm hm _=>bM rfl rfl
    rw[M8]at cY
    apply vC (b:=decide (number/5%4<mode)&&decide (((at_ cs k).needs.filter λm=>!decide (m∈l))=[]))
    · exact mZ (by walk_at "et") (bU (aP cY rfl (Hy _)))
    · intro hb
      rw[D7,decide_eq_true_iff,decide_eq_true_iff]at hb
      have hin:∀m∈(at_ cs k).needs,m∈l:=λm hm=>by
        have:=J9.mp hb.2 m hm
        simpa using this
      have hnk:(k:Int)∉l:=λz=>by
        have:=(h1 _ z).2
        omega
      have e:oV l k=l++[(k:Int)]:=by unfold oV;rw[if_neg hnk]
      have hp:=Es (i:=3) (f:=aB 4) (f':=fC (.bl true)) (env:=[.fro (aD cells),.fro (bA cs),.fro (.int mode),.own (cV l),.fro (.int k),.own (.int number)]) (ks:=l) (k:=k) rfl rfl rfl (by omega)
      rw[e]at hp
      refine⟨_,hp,l++[(k:Int)],_,_,rfl,λx hx'=>?_,λx hx'=>?_,?_,by rw[C7];simp;omega⟩
      · rcases D9.mp hx' with z | z
        · have:=h1 x z
          omega
        · rw[C6.mp z]
          omega
      · rcases D9.mp hx' with z | z
        · obtain⟨a1,a2,a3⟩:=h2 x z
          exact⟨a1,a2,λm hm=>F2 _ (a3 m hm)⟩
        · rw[C6.mp z,C5]
          exact⟨by omega,by omega,λm hm=>F2 _ (hin m hm)⟩
      · refine R5.mpr ⟨h3,by simp,λx hx' y hy=>?_⟩
        rw[C6.mp hy]
        exact(h1 x hx').2
    · intro _
      apply Av
      exact⟨_,rfl,l,_,_,rfl,λx hx'=>by have:=h1 x hx';omega,h2,h3,by omega⟩
  · rintro env ⟨l,v4,v5,rfl,h1,h2,h3,h4⟩
    exact mC (cR (aF rfl rfl) (Bb l)) ⟨_,rfl,l,rfl,h2,h3,h4⟩
theorem Qn{cells:List Int}{cs:List cX}(mode:Int)(hg:Good cs)(hl:cells.length=cs.length):∃l,gQ [aD cells,bA cs,.int mode]=some (aD l)∧Xc cs l∧l.Pairwise (·<·)∧l.length≤cs.length:=Qm mode hg (T1 hl.symm)
theorem Ey{l:List Int}{c:Int}(hl:l.length≤60)(hc:0≤c):∃l',jG [aD l,.int c]=some (aD l')∧(∀x,x∈l'↔x∈l)∧l'.length≤l.length+2:=by
 suffices h:∃d,jG [aD l,.int c]=some d∧∃l',d=aD l'∧(∀x,x∈l'↔x∈l)∧l'.length≤l.length+2 by
  obtain⟨d,h1,l',rfl,h2⟩:=h
  exact⟨l',h1,h2⟩
 refine eO rfl ?_
 unfold Be
 have cp:(0:Int)<(l.length:Int)+1:=by omega
 walk_at "q"
 have m0:=K2 c (show (l.length:Int)+1≠0 by omega)
 have m1:=K9 c cp
 obtain⟨cut,ec⟩:∃cut:Nat,c%((l.length:Int)+1)=cut:=⟨(c%((l.length:Int)+1)).toNat,by omega⟩
 rw[ec]at m1 ⊢
 refine dH (d:=aD (l.drop cut++l.take cut)) (aP ((vG rfl (lC rfl) rfl).trans (by rw[uh (by omega)])) ((vG rfl rfl (lC rfl)).trans (by rw[GJ])) (mD _ _ (by rw[N8,J1];omega))) (by exact Nat.le_of_ble_eq_true rfl) ?_
 have ht:∃t:List Int,(∀x,x∈t↔x∈l)∧t.length=l.length∧rR (fB (f2 yJ (f2 fG (f2 nM (aB 1) (fC (.int 64))) (fC (.int 2))) (fC (.int 1)))) (bJ 3 (qy La (aB 3))) eX [.fro (aD l),.fro (.int c),.own (.int cut),.own (aD (l.drop cut++l.take cut))]=.next [.fro (aD l),.fro (.int c),.own (.int cut),.own (aD t)]:=by
  have mm:∀x,x∈l.drop cut++l.take cut↔x∈l:=λx=>by
   rw[D9,Or.comm,←D9,List.take_append_drop]
  have ml:(l.drop cut++l.take cut).length=l.length:=by
   rw[C7,N8,J1]
   omega
  have e:fB (f2 yJ (f2 fG (f2 nM (aB 1) (fC (.int 64))) (fC (.int 2))) (fC (.int 1))) (rE [.fro (aD l),.fro (.int c),.own (.int cut),.own (aD (l.drop cut++l.take cut))])=some (decide (c/64%2=1)):=by walk_at "et"
  by_cases q:c/64%2=1
  ·rw[decide_eq_true q]at e
   refine⟨(l.drop cut++l.take cut).reverse,λx=>by rw[List.mem_reverse];exact mm x,by rw[W7];exact ml,?_⟩
   rw[qY e]
   exact uV (GF rfl (Qd _)) (by exact Nat.le_of_ble_eq_true rfl)
  ·rw[decide_eq_false q]at e
   refine⟨_,mm,ml,?_⟩
   rw[oU e]
   rfl
 obtain⟨t,t1,t2,hq⟩:=ht
 refine Wk hq ?_
 have r0:=K2 (c/128) (show (3:Int)≠0 by decide)
 have r1:=K9 (c/128) (show (0:Int)<3 by decide)
 obtain⟨n,en⟩:∃n:Nat,c/128%3=n:=⟨(c/128%3).toNat,by omega⟩
 rw[en]at r1
 have hn:f2 fG (f2 nM (aB 1) (fC (.int 128))) (fC (.int 3)) (rE [.fro (aD l),.fro (.int c),.own (.int cut),.own (aD t)])=some (.int n):=by
  rw[←en]
  walk_at "ev"
 refine mC (aP rfl ((vG rfl rfl (lC hn)).trans (by rw[GJ])) (mD _ _ (by rw[J1];omega))) ⟨_,rfl,t++t.take n,rfl,λx=>?_,?_⟩
 ·rw[D9]
  exact⟨λz=>z.elim (t1 x).mp λz=>(t1 x).mp (P0 z),λz=>.inl ((t1 x).mpr z)⟩
 ·rw[C7,J1]
  omega
theorem Ez{l:List Int}(hl:l.length≤900):∃ks,lF [aD l]=some (cV ks)∧ks.Nodup∧(∀k,k∈ks↔k∈l)∧ks.length≤l.length:=Uc hl
theorem HX(n:Int):sE [.int n]=some (.bl true):=lY rfl (mY (VF (Hw rfl rfl) (DW (b:=false) (Hw rfl rfl))))
theorem Fb{l:List Int}(hl:l.length≤900):∃ks,rZ [aD l]=some (cV ks)∧ks.Nodup∧(∀k,k∈ks↔k∈l)∧ks.length≤l.length:=Uc hl
abbrev sI(kn:List Int)(m:Int):Int:=kn.getD m.toNat 0
theorem Bx{kn:List Int}{m:Int}(h0:0≤m)(h1:m<kn.length):dD (aD kn) (.int m)=some (.int (sI kn m)):=jN h0 h1
theorem Mq{cs:List cX}{m:Int}(h0:0≤m)(h1:m<cs.length):dD (bA cs) (.int m)=some (Ma (at_ cs m.toNat)):=by
 obtain⟨k,rfl⟩:∃k:Nat,m=k:=⟨m.toNat,by omega⟩
 rw[C5]
 exact pL (by omega)
def cP(cs:List cX)(kn:List Int)(k:Nat):List Int:=(at_ cs k).needs.filter λm=>decide (0<sI kn m)
def qF(cs:List cX)(kn:List Int)(k:Nat)(m:Int):Int:=sI kn m+if(at_ cs m.toNat).bG=(at_ cs k).bG then 0 else 1
theorem By{cs:List cX}{kn:List Int}{k:Nat}(hk:k<cs.length)(hn:(at_ cs k).needs.length≤4)(h:∀m∈(at_ cs k).needs,0≤m∧m<kn.length):cW [bA cs,aD kn,.int k]=some (aD (cP cs kn k)):=by
 refine lY rfl (mY ?_)
 have:=bV (fi:=cM (f2 dD (f2 dD (aB 0) (aB 2)) (fC (.int 3)))) (fr:=[1]) (fc:=fB (f2 Rz (f2 dD (aB 1) (aB 0)) (fC (.int 0)))) (fe:=cC (aB 0)) (e:=rE ([bA cs,aD kn,D.int k].map SD.fro++E8 (3-3) SD.no)) (ms:=(at_ cs k).needs) (λm=>decide (0<sI kn m)) id
  (lE (aP (aP rfl rfl (pL hk)) rfl (mF _))) (by omega) (λm hm=>bU (aP (aP rfl rfl (Bx (h m hm).1 (h m hm).2)) rfl (rY _ _))) λm hm _=>bM rfl rfl
 rw[M8]at this
 exact this
theorem Qo{cs:List cX}{kn:List Int}{k:Nat}{m:Int}(hk:k<cs.length)(h0:0≤m)(h1:m<cs.length)(h2:m<kn.length):fZ [bA cs,aD kn,.int k,.int m]=some (.int (qF cs kn k m)):=by
 refine lY rfl ?_
 unfold vH qF
 have hx:=Bx (kn:=kn) h0 h2
 have hm:=Mq (cs:=cs) h0 h1
 have hc:=pL (cs:=cs) hk
 by_cases c:(at_ cs m.toNat).bG=(at_ cs k).bG
 ·rw[if_pos c,Int.add_zero]
  apply DR
  ·walk_at "et"
  ·exact decide_eq_true c
  exact ZP (bM (aP rfl rfl hx) rfl) rfl
 ·rw[if_neg c]
  apply DQ
  ·walk_at "et"
  ·exact decide_eq_false c
  apply ZM
  exact mY (aP (aP rfl rfl hx) rfl (jE _ _))
def cL(cs:List cX)(held kn:List Int)(k:Nat):Int:=if(k:Int)∈held then 0 else wH (1::(cP cs kn k).map (qF cs kn k))
def nH(cs:List cX)(held kn:List Int):Prop:=kn.length=cs.length∧∀k,k<cs.length→kn.getD k 0=cL cs held kn k
theorem pB{cs:List cX}{held kn KN:List Int}{k:Nat}(h:∀m∈(at_ cs k).needs,sI kn m=sI KN m):cL cs held kn k=cL cs held KN k:=by
 have e1:cP cs kn k=cP cs KN k:=Y6 λm hm=>by rw[h m hm]
 have e2:(cP cs kn k).map (qF cs kn k)=(cP cs KN k).map (qF cs KN k):=by
  rw[e1]
  refine L4 λm hm=>?_
  unfold qF
  rw[h m (F6.mp hm).1]
 unfold cL
 rw[e2]
theorem sJ{kn:List Int}{v m:Int}(h0:0≤m)(h:m<kn.length):sI (kn++[v]) m=sI kn m:=by
 unfold sI
 rw[B3,B3,N3 (by omega)]
theorem Ca{cs:List cX}{h h' kn:List Int}{k:Nat}(e:∀x,x∈h↔x∈h'):cL cs h kn k=cL cs h' kn k:=by
 unfold cL
 by_cases c:(k:Int)∈h
 ·rw[if_pos c,if_pos ((e _).mp c)]
 ·rw[if_neg c,if_neg λz=>c ((e _).mpr z)]
theorem HY{cs:List cX}{l:List Int}(hg:Good cs)(hl:l.length≤900):∃kn,Bg [bA cs,aD l]=some (aD kn)∧nH cs l kn:=by
 suffices h:∃d,Bg [bA cs,aD l]=some d∧∃kn,d=aD kn∧nH cs l kn by
  obtain⟨d,h1,kn,rfl,h2⟩:=h
  exact⟨kn,h1,h2⟩
 refine eO rfl ?_
 unfold HD
 obtain⟨ks,hks,_,km,_⟩:=Fb hl
 have HW:=hg.1
 walk_at "q"
 walk_at "q"
 refine vD (n:=cs.length) (λn env=>∃(kn:List Int)(v4 v5:SD),env=[.fro (bA cs),.fro (aD l),.own (cV ks),.own (aD kn),v4,v5]∧kn.length=n∧∀k,k<n→kn.getD k 0=cL cs ks kn k) (nA (aF (cR (aF rfl rfl) (pN _)) rfl) (by omega)) ⟨[],_,_,rfl,rfl,λk h=>absurd h (by simp)⟩ ?_ ?_
 ·rintro k env hk ⟨kn,v4,v5,rfl,hn,h1⟩
  refine⟨by walk_at "lt", ?_⟩
  obtain⟨g1,g2,g3⟩:=hg.2 k hk
  have old:∀v:Int,∀j,j<k→(kn++[v]).getD j 0=cL cs ks (kn++[v]) j:=λv j hj=>by
   have a:=h1 j hj
   have b:=sJ (kn:=kn) (v:=v) (m:=j) (by omega) (by omega)
   unfold sI at b
   rw[C5]at b
   rw[b,a]
   exact pB λm hm=>by
    have:=(hg.2 j (by omega)).1 m hm
    rw[sJ (by omega) (by omega)]
  have new:∀v:Int,v=cL cs ks kn k→(kn++[v]).getD k 0=cL cs ks (kn++[v]) k:=λv hv=>by
   have a:(kn++[v]).getD k 0=v:=by
    rw[B3,←hn,L7 (B4 _)]
    simp
   rw[a,hv]
   exact pB λm hm=>by
    have:=g1 m hm
    rw[sJ (by omega) (by omega)]
  have both:∀v:Int,v=cL cs ks kn k→∀j,j<k+1→(kn++[v]).getD j 0=cL cs ks (kn++[v]) j:=λv hv j hj=>by
   rcases E3 j k with z | z
   ·exact old v j z
   ·have e:j=k:=by omega
    rw[e]
    exact new v hv
  apply vC
  ·walk_at "et"
  ·intro hb
   have hb:(k:Int)∈ks:=by simpa using hb
   refine wM (ds:=kn.map D.int) (d:=.int 0) rfl rfl (by rw[B5];omega) ?_
   rw[gK]
   exact⟨_,rfl,kn++[0],_,_,rfl,by rw[C7,hn];rfl,both 0 (by unfold cL;rw[if_pos hb])⟩
  ·intro hb
   have hb:¬(k:Int)∈ks:=by simpa using hb
   have hw:=By (kn:=kn) hk g3 λm hm=>by
    have:=g1 m hm
    omega
   walk_at "q"
   have wl:(cP cs kn k).length≤4:=E5 (K3 _ _) g3
   have wm:∀m∈cP cs kn k,0≤m∧m<k:=λm hm=>g1 m (F6.mp hm).1
   have cY:dF (cM (aB 5)) [0,3,4] qT (bI 4 fZ (aC (aB 1) (aC (aB 2) (aC (aB 3) (aC (aB 0) aM))))) (rE [.fro (bA cs),.fro (aD l),.own (cV ks),.own (aD kn),.fro (.int k),.own (aD (cP cs kn k))])=some (aD ((cP cs kn k).map (qF cs kn k))):=by
    have:=bV (fi:=cM (aB 5)) (fr:=[0,3,4]) (fc:=qT) (fe:=bI 4 fZ (aC (aB 1) (aC (aB 2) (aC (aB 3) (aC (aB 0) aM))))) (e:=rE [.fro (bA cs),.fro (aD l),.own (cV ks),.own (aD kn),.fro (.int k),.own (aD (cP cs kn k))]) (ms:=cP cs kn k) (λ_=>true) (qF cs kn k) (cU rfl) (by omega) (λm hm=>rfl)
     λm hm _=>bL (aF rfl (aF rfl (aF rfl (aF rfl rfl)))) rfl (Qo hk (wm m hm).1 (by have:=(wm m hm).2;omega) (by have:=(wm m hm).2;omega))
    rw[O1.mpr λ_ _=>rfl]at this
    exact this
   refine wM (ds:=kn.map D.int) (d:=.int (cL cs ks kn k)) rfl ?_ (by rw[B5];omega) ?_
   ·have e:cL cs ks kn k=wH ([1]++(cP cs kn k).map (qF cs kn k)):=by unfold cL;rw[if_neg hb];rfl
    rw[e]
    exact cR (aF (aP (eY (ds:=[.int 1]) (aF rfl rfl) (by exact Nat.le_of_ble_eq_true rfl)) cY (mD [1] _ (by rw[B5];simp;omega))) rfl) (tZ (by simp))
   rw[gK]
   exact⟨_,rfl,kn++[cL cs ks kn k],_,_,rfl,by rw[C7,hn];rfl,both _ rfl⟩
 ·rintro env ⟨kn,v4,v5,rfl,hn,h1⟩
  exact tX rfl ⟨_,rfl,kn,rfl,hn,λk hk=>by rw[h1 k hk];exact Ca km⟩
theorem rM{cs:List cX}{l kn:List Int}(hT:nH cs l kn){k:Nat}(hk:k<cs.length):0<kn.getD k 0↔(k:Int)∉l:=by
 rw[hT.2 k hk]
 unfold cL
 by_cases c:(k:Int)∈l
 ·rw[if_pos c]
  exact⟨λz=>absurd z (by decide),λz=>absurd c z⟩
 ·rw[if_neg c]
  refine⟨λ_=>c,λ_=>?_⟩
  have:=(gP (ns:=1::(cP cs kn k).map (qF cs kn k)) (by simp)).2 1 B9
  omega
theorem VR{cs:List cX}{k:Nat}{m:Int}(hk:k<cs.length)(h0:0≤m)(h1:m<cs.length):rD [bA cs,.int k,.int m]=some (.int (if(at_ cs m.toNat).bG=(at_ cs k).bG then 0 else 1)):=by
 have hm:=Mq (cs:=cs) h0 h1
 have hc:=pL (cs:=cs) hk
 refine lY rfl (mY (cR (aF (aP (aP (aP rfl rfl hc) rfl (pM _)) (aP (aP rfl rfl hm) rfl (pM _)) (yP _ _)) rfl) ?_))
 rw[Ba]
 by_cases c:(at_ cs m.toNat).bG=(at_ cs k).bG
 ·rw[if_pos c,decide_eq_true c.symm]
  rfl
 ·rw[if_neg c,decide_eq_false λz=>c z.symm]
  rfl
theorem uw{cs:List cX}{l kn:List Int}{k:Nat}(h:kn.getD k 0=cL cs l kn k):0<kn.getD k 0↔(k:Int)∉l:=by
 rw[h]
 unfold cL
 by_cases c:(k:Int)∈l
 ·rw[if_pos c]
  exact⟨λz=>absurd z (by decide),λz=>absurd c z⟩
 ·rw[if_neg c]
  refine⟨λ_=>c,λ_=>?_⟩
  have:=(gP (ns:=1::(cP cs kn k).map (qF cs kn k)) (by simp)).2 1 B9
  omega
theorem IK{cs:List cX}{l kn:List Int}{k:Nat}(h:∀m∈(at_ cs k).needs,0≤m∧kn.getD m.toNat 0=cL cs l kn m.toNat):(at_ cs k).needs.filter (λm=>!decide (m∈l))=cP cs kn k:=Y6 λm hm=>by
 obtain⟨h0,h1⟩:=h m hm
 obtain⟨j,rfl⟩:∃j:Nat,m=j:=⟨m.toNat,by omega⟩
 rw[C5]at h1
 have:=uw h1
 unfold sI
 rw[C5,←decide_not]
 exact decide_eq_decide.mpr this.symm
theorem ux{cs:List cX}{ks:List Int}(hg:Good cs):∃kn,iQ [bA cs,cV ks]=some (aD kn)∧nH cs ks kn:=by
 suffices h:∃d,iQ [bA cs,cV ks]=some d∧∃kn,d=aD kn∧nH cs ks kn by
  obtain⟨d,h1,kn,rfl,h2⟩:=h
  exact⟨kn,h1,h2⟩
 refine eO rfl ?_
 unfold vJ
 have HW:=hg.1
 walk_at "q"
 refine vD (n:=cs.length) (λn env=>∃(kn:List Int)(v3 v4:SD),env=[.fro (bA cs),.fro (cV ks),.own (aD kn),v3,v4]∧kn.length=n∧∀k,k<n→kn.getD k 0=cL cs ks kn k) (nA (aF (cR (aF rfl rfl) (pN _)) rfl) (by omega)) ⟨[],_,_,rfl,rfl,λk h=>absurd h (by simp)⟩ ?_ ?_
 ·rintro k env hk ⟨kn,v3,v4,rfl,hn,h1⟩
  refine⟨by walk_at "lt", ?_⟩
  obtain⟨g1,g2,g3⟩:=hg.2 k hk
  have hc:=pL (cs:=cs) hk
  have hsome:=bV (fi:=cM (f2 dD (f2 dD (aB 0) (aB 3)) (fC (.int 3)))) (fr:=[1,2,0,3]) (fc:=fB (f2 (iB true) (aB 0) (aB 1))) (fe:=f2 dJ (f2 dD (aB 2) (aB 0)) (bI 3 rD (aC (aB 3) (aC (aB 4) (aC (aB 0) aM))))) (e:=rE [.fro (bA cs),.fro (cV ks),.own (aD kn),.fro (.int k),v4]) (ms:=(at_ cs k).needs) (λm=>!decide (m∈ks)) (qF cs kn k)
   (lE (aP (aP rfl rfl hc) rfl (mF _))) (by omega) (λm hm=>bU (aP rfl rfl (jF true m ks)))
   λm hm _=>aP (aP rfl rfl (Bx (g1 m hm).1 (by have:=g1 m hm;omega))) (bL (aF rfl (aF rfl (aF rfl rfl))) rfl (VR hk (g1 m hm).1 (by have:=g1 m hm;omega))) (jE _ _)
  rw[IK (kn:=kn) λm hm=>⟨(g1 m hm).1,h1 _ (by have:=g1 m hm;omega)⟩]at hsome
  refine dH hsome (by exact Nat.le_of_ble_eq_true rfl) ?_
  have wl:(cP cs kn k).length≤4:=E5 (K3 _ _) g3
  refine wM (ds:=kn.map D.int) (d:=.int (cL cs ks kn k)) rfl ?_ (by rw[B5];omega) ?_
  ·have e:cL cs ks kn k=wH ([1]++(cP cs kn k).map (qF cs kn k))*(if(!decide ((k:Int)∈ks))=true then 1 else 0):=by
    unfold cL
    by_cases c:(k:Int)∈ks
    ·rw[if_pos c,decide_eq_true c]
     simp
    ·rw[if_neg c,decide_eq_false c]
     simp
   rw[e]
   refine aP (cR (aF (aP (eY (ds:=[.int 1]) (aF rfl rfl) (by exact Nat.le_of_ble_eq_true rfl)) rfl (mD [1] _ (by rw[B5];simp;omega))) rfl) (tZ (by simp))) (cR (aF (aP rfl rfl (jF true k ks)) rfl) (Ba _)) (uW (ue ?_ ?_))
   ·show (-18446744073709551616:Int)<(if(!decide ((k:Int)∈ks))=true then 1 else 0)
    split<;>decide
   ·show (if(!decide ((k:Int)∈ks))=true then(1:Int)else 0)<18446744073709551616
    split<;>decide
  rw[gK]
  refine⟨_,rfl,kn++[cL cs ks kn k],_,_,rfl,by rw[C7,hn];rfl,λj hj=>?_⟩
  rcases E3 j k with z | z
  ·have b:=sJ (kn:=kn) (v:=cL cs ks kn k) (m:=j) (by omega) (by omega)
   unfold sI at b
   rw[C5]at b
   rw[b,h1 j z]
   exact pB λm hm=>by
    have:=(hg.2 j (by omega)).1 m hm
    rw[sJ (by omega) (by omega)]
  ·have e:j=k:=by omega
   rw[e]
   have a:(kn++[cL cs ks kn k]).getD k 0=cL cs ks kn k:=by
    rw[B3,←hn,L7 (B4 _)]
    simp
   rw[a]
   exact pB λm hm=>by
    have:=g1 m hm
    rw[sJ (by omega) (by omega)]
 ·rintro env ⟨kn,v3,v4,rfl,hn,h1⟩
  exact tX rfl ⟨_,rfl,kn,rfl,hn,h1⟩
theorem Qp{ls:List Int}{n:Nat}(h:∀x∈ls,0≤x∧x<n)(hl:ls.length≤1000):jP [aD ls,.int n]=some (.bl true):=by
 suffices h:∃d,jP [aD ls,.int n]=some d∧d=.bl true by
  obtain⟨d,h1,rfl⟩:=h
  exact h1
 refine eO rfl ?_
 unfold xR
 apply FN (b:=!true)
 ·exact yO (b:=true) (bU (Hw rfl rfl))
 ·rfl
 apply VH
 refine Lx (xs:=ls.map D.int) (λ_ env=>∃v:SD,env=[.fro (aD ls),.fro (.int n),v]) rfl (cU rfl) ⟨_,rfl⟩ ?_ ?_
 ·rintro k x env hx ⟨v,rfl⟩
  refine⟨by walk_at "lt", ?_⟩
  rw[C8]at hx
  cases qq:ls[k]? with
  | none=>rw[qq]at hx;cases hx
  | some j=>
   rw[qq]at hx
   cases hx
   have hj:=h j (J6 qq)
   apply vC (b:=!true||(decide (j<0)||decide ((n:Int)≤j)))
   ·exact Hx (yO (b:=true) (bU (bL (aF rfl rfl) rfl (HX j)))) (Hx (bU (aP rfl rfl (uZ _ _))) (bU (aP rfl rfl (Ht _ _))))
   ·intro hb
    rw[decide_eq_false (show ¬j<0 by omega),decide_eq_false (show ¬(n:Int)≤j by omega)]at hb
    cases hb
   ·intro _
    apply Av
    exact⟨_,rfl,_,rfl⟩
 ·rintro env ⟨v,rfl⟩
  exact mC rfl ⟨_,rfl,rfl⟩
inductive Nx(cs:List cX)(p:Int)(D:Int→Prop):Int→Prop
 | old {k:Int}:D k→Nx cs p D k
 | new {k:Int}:(0≤k∧k<(cs.length:Int)∧(at_ cs k.toNat).bG=p)→(∀m∈(at_ cs k.toNat).needs,Nx cs p D m)→Nx cs p D k
theorem IV{cs:List cX}{p k:Int}{D:Int→Prop}:Nx cs p D k↔D k∨(0≤k∧k<(cs.length:Int)∧(at_ cs k.toNat).bG=p)∧∀m∈(at_ cs k.toNat).needs,Nx cs p D m:=by
  constructor
  · intro h
    cases h with
    | old h=>exact .inl h
    | new h1 h2=>exact .inr ⟨h1,h2⟩
  · rintro(h | ⟨h1,h2⟩)
    · exact .old h
    · exact .new h1 h2
def Dn(cs:List cX)(l C:List Int):Int→Prop:=C.foldl (λD p=>Nx cs p D) (λk=>k∈l)
theorem Fd{cs:List cX}{k:Int}:∀(C:List Int)(D:Int→Prop),D k→C.foldl (λD p=>Nx cs p D) D k
 | [],D,h=>h
 | p::C,D,h=>Fd C _ (.old h)
theorem sO(cs:List cX)(l C:List Int)(p:Int):Dn cs l (C++[p])=Nx cs p (Dn cs l C):=by unfold Dn;rw[S8];rfl
theorem Io{cs:List cX}{l C:List Int}{k:Int}(h:k∈l):Dn cs l C k:=Fd C _ h
theorem Ui{cs:List cX}{l C:List Int}{p k:Int}(h:Dn cs l C k):Dn cs l (C++[p]) k:=by rw[sO];exact .old h
theorem aAH{cs:List cX}{l C:List Int}(hl:∀x∈l,0≤x∧x<(cs.length:Int)){k:Int}(h:Dn cs l C k):0≤k∧k<(cs.length:Int):=by
 have:∀(C:List Int)(D:Int→Prop),(∀x,D x→0≤x∧x<(cs.length:Int))→∀x,C.foldl (λD p=>Nx cs p D) D x→0≤x∧x<(cs.length:Int):=by
  intro C
  induction C with
  | nil=>exact λD h=>h
  | cons p C ih=>
   intro D h
   refine ih _ λx hx=>?_
   rcases IV.mp hx with z | ⟨z,_⟩
   ·exact h x z
   ·exact⟨z.1,z.2.1⟩
 exact this C _ hl k h
open Classical in
noncomputable def cB(cs:List cX)(l C:List Int)(k:Int):List Int:=if Dn cs l C k then C else C++[(at_ cs k.toNat).bG]
theorem pC{cs:List cX}{l C:List Int}{k:Int}(h:Dn cs l C k):cB cs l C k=C:=by unfold cB;rw[if_pos h]
theorem Ip{cs:List cX}{l C:List Int}{k:Int}(h:¬Dn cs l C k):cB cs l C k=C++[(at_ cs k.toNat).bG]:=by unfold cB;rw[if_neg h]
theorem Fe{cs:List cX}{l C:List Int}:∀G:List Int,(∀k∈G,Dn cs l C k)→G.foldl (cB cs l) C=C
 | [],_=>rfl
 | k::G,h=>by
  rw[P7,pC (h k B9)]
  exact Fe G λx hx=>h x (B7 _ hx)
theorem Cd{cs:List cX}{l C:List Int}{p:Int}:∀G:List Int,(∀k∈G,(at_ cs k.toNat).bG=p)→(∀k∈G,Dn cs l (C++[p]) k)→(G.foldl (cB cs l) C=C∧∀k∈G,Dn cs l C k)∨(G.foldl (cB cs l) C=C++[p]∧∃k∈G,¬Dn cs l C k)
  | [],_,_=>.inl ⟨rfl,λk hk=>by cases hk⟩
  | k::G,hp,hr=>by
    by_cases c:Dn cs l C k
    · rcases Cd G (λx hx=>hp x (B7 _ hx)) λx hx=>hr x (B7 _ hx)with ⟨h1,h2⟩ | ⟨h1,x,h2,h3⟩
      · refine .inl ⟨by rw[P7,pC c];exact h1,λx hx=>?_⟩
        rcases C4.mp hx with z | z
        · rw[z];exact c
        · exact h2 x z
      · exact .inr ⟨by rw[P7,pC c];exact h1,x,B7 _ h2,h3⟩
    · refine .inr ⟨?_,k,B9,c⟩
      rw[P7,Ip c,hp k B9]
      exact Fe G λx hx=>hr x (B7 _ hx)
theorem xT{f:Int→Int}(a:Int):∀{L:List Int},L.Pairwise (λx y=>f x≤f y)→L.filter (λx=>decide (f x<a+1))=L.filter (λx=>decide (f x<a))++L.filter (λx=>decide (f x=a))
 | [],_=>rfl
 | x::L,h=>by
  obtain⟨h1,h2⟩:=E6.mp h
  have ih:=xT a h2
  rcases Int.lt_trichotomy (f x) a with c | c | c
  ·rw[K6,K6,K6,if_pos (decide_eq_true (show f x<a+1 by omega)),if_pos (decide_eq_true c),if_neg (by simp;omega),ih]
   rfl
  ·have e:L.filter (λx=>decide (f x<a))=[]:=J9.mpr λy hy=>by
    have:=h1 y hy
    simp;omega
   rw[K6,K6,K6,if_pos (decide_eq_true (show f x<a+1 by omega)),if_neg (by simp;omega),if_pos (decide_eq_true c),ih,e]
   rfl
  ·have e:∀q:Int→Bool,(∀y,a<f y→q y=false)→(x::L).filter q=[]:=λq hq=>J9.mpr λy hy=>by
    rcases C4.mp hy with z | z
    ·rw[z,hq x c];exact D5
    ·have:=h1 y z
     rw[hq y (by omega)];exact D5
   rw[e _ λy hy=>decide_eq_false (by omega),e _ λy hy=>decide_eq_false (by omega),e _ λy hy=>decide_eq_false (by omega)]
   rfl
def uy(cs:List cX)(l W:List Int):Prop:=∀k∈W,0≤k∧k<(cs.length:Int)∧k∉l∧∀m∈(at_ cs k.toNat).needs,m∈l∨m∈W
def P8(cs:List cX):Prop:=∀k,k<cs.length→0≤(at_ cs k).bG∧(at_ cs k).bG<8
def fk(cs:List cX)(kn:List Int)(k:Int):Int:=sI kn k*8+(at_ cs k.toNat).bG
theorem Xd{cs:List cX}{l kn:List Int}{k:Nat}{m:Int}(hg:Good cs)(hT:nH cs l kn)(hk:k<cs.length)(hkl:(k:Int)∉l)(hm:m∈(at_ cs k).needs)(uz:m∉l):qF cs kn k m≤kn.getD k 0:=by
 obtain⟨h0,h1⟩:=(hg.2 k hk).1 m hm
 obtain⟨j,rfl⟩:∃j:Nat,m=j:=⟨m.toNat,by omega⟩
 have hp:=(rM hT (k:=j) (by omega)).mpr uz
 have hw:(j:Int)∈cP cs kn k:=F6.mpr ⟨hm,decide_eq_true (by unfold sI;rw[C5];exact hp)⟩
 rw[hT.2 k hk]
 unfold cL
 rw[if_neg hkl]
 exact(gP (ns:=1::(cP cs kn k).map (qF cs kn k)) (by simp)).2 _ (B7 _ (E2.mpr ⟨_,hw,rfl⟩))
theorem Uj{cs:List cX}{l kn:List Int}{k m:Int}(hg:Good cs)(h8:P8 cs)(hT:nH cs l kn)(h0:0≤k)(h1:k<(cs.length:Int))(hkl:k∉l)(hm:m∈(at_ cs k.toNat).needs)(uz:m∉l):0≤m∧m<k∧(fk cs kn m<fk cs kn k∨(fk cs kn m=fk cs kn k∧(at_ cs m.toNat).bG=(at_ cs k.toNat).bG)):=by
 obtain⟨i,rfl⟩:∃i:Nat,k=i:=⟨k.toNat,by omega⟩
 rw[C5]at hm
 obtain⟨a0,a1⟩:=(hg.2 i (by omega)).1 m hm
 have ht:=Xd hg hT (by omega) hkl hm uz
 have b1:=h8 i (by omega)
 have b2:=h8 m.toNat (by omega)
 unfold qF at ht
 refine⟨a0,a1,?_⟩
 unfold fk
 rw[C5]
 have e:sI kn (i:Int)=kn.getD i 0:=by unfold sI;rw[C5]
 rw[e]
 generalize sI kn m=x at *
 generalize kn.getD i 0=y at *
 by_cases c:(at_ cs m.toNat).bG=(at_ cs i).bG
 ·rw[if_pos c]at ht
  rw[c]
  by_cases c2:x=y
  ·exact .inr ⟨by rw[c2],rfl⟩
  ·exact .inl (by omega)
 ·rw[if_neg c]at ht
  exact .inl (by omega)
structure ZW(cs:List cX)(l W:List Int)(f:Int→Int)(a:Int)(C:List Int):Prop where
 done:∀k∈W,f k<a→Dn cs l C k
 each:∀i,i<C.length→∃k∈W,¬Dn cs l (C.take i) k∧Dn cs l (C.take (i+1)) k
 pan:∀p∈C,0≤p∧p<8
theorem IW{cs:List cX}{l kn W L C:List Int}{r p:Int}(hg:Good cs)(h8:P8 cs)(hT:nH cs l kn)(hW:uy cs l W)(hL:∀k,k∈L↔k∈W)(h0:0≤p)(h1:p<8)(A:ZW cs l W (fk cs kn) (r*8+p) C) :
    ((L.filter λx=>decide (fk cs kn x=r*8+p)).foldl (cB cs l) C=C∧(∀k∈W,fk cs kn k=r*8+p→Dn cs l C k)∧ZW cs l W (fk cs kn) (r*8+p+1) C)∨((L.filter λx=>decide (fk cs kn x=r*8+p)).foldl (cB cs l) C=C++[p]∧(∃k∈W,fk cs kn k=r*8+p∧¬Dn cs l C k)∧ZW cs l W (fk cs kn) (r*8+p+1) (C++[p])):=by
  have bG:∀k∈W,fk cs kn k=r*8+p→(at_ cs k.toNat).bG=p:=λk hk e=>by
    obtain⟨a0,a1,_⟩:=hW k hk
    have b:=h8 k.toNat (by omega)
    unfold fk at e
    omega
  have ready:∀n:Nat,∀k∈W,k.toNat=n→fk cs kn k=r*8+p→Dn cs l (C++[p]) k:=by
    intro n
    induction n using R6 with
    | ind n ih=>
      intro k hk en e
      obtain⟨a0,a1,a2,a3⟩:=hW k hk
      rw[sO]
      refine .new ⟨a0,a1,bG k hk e⟩ λm hm=>?_
      rcases f6 (m∈l)with z | z
      · exact .old (Io z)
      · have hmW:=(a3 m hm).resolve_left z
        obtain⟨m0,m1,m2⟩:=Uj hg h8 hT a0 a1 a2 hm z
        rcases m2 with m2 | ⟨m2,_⟩
        · exact .old (A.done m hmW (by omega))
        · have:=ih m.toNat (by omega) m hmW rfl (by omega)
          rw[sO]at this
          exact this
  have mem:∀k,k∈(L.filter λx=>decide (fk cs kn x=r*8+p))↔k∈W∧fk cs kn k=r*8+p:=λk=>by rw[F6,hL];simp
  rcases Cd (l:=l) (C:=C) (p:=p) (L.filter λx=>decide (fk cs kn x=r*8+p)) (λk hk=>bG k ((mem k).mp hk).1 ((mem k).mp hk).2) (λk hk=>ready _ k ((mem k).mp hk).1 rfl ((mem k).mp hk).2)with ⟨e,d⟩ | ⟨e,k,hk,d⟩
  · refine .inl ⟨e,λk hk z=>d k ((mem k).mpr ⟨hk,z⟩),⟨λk hk z=>?_,A.each,A.pan⟩⟩
    by_cases c:fk cs kn k=r*8+p
    · exact d k ((mem k).mpr ⟨hk,c⟩)
    · exact A.done k hk (by omega)
  · obtain⟨k1,k2⟩:=(mem k).mp hk
    refine .inr ⟨e,⟨k,k1,k2,d⟩,⟨λx hx z=>?_,λi hi=>?_,λq hq=>?_⟩⟩
    · by_cases c:fk cs kn x=r*8+p
      · exact ready _ x hx rfl c
      · exact Ui (A.done x hx (by omega))
    · rw[C7]at hi
      have hi:i<C.length+1:=hi
      rcases E3 i C.length with z | z
      · obtain⟨x,x1,x2,x3⟩:=A.each i z
        rw[M4 (by omega),M4 (by omega)]
        exact⟨x,x1,x2,x3⟩
      · obtain rfl:i=C.length:=by omega
        rw[List.take_left' rfl,E1 (by rw[C7];exact B4 _)]
        exact⟨k,k1,d,ready _ k k1 rfl k2⟩
    · rcases D9.mp hq with z | z
      · exact A.pan q z
      · rw[C6.mp z];exact⟨h0,h1⟩
def Pl9(cs:List cX)(l C π:List Int)(s:Int→Int):Prop:=∀k∈π,0≤s k∧s k<(C.length:Int)∧∀i:Nat,Dn cs l (C.take i) k↔s k<(i:Int)
theorem take_one{C:List Int}{i:Nat}(h:i<C.length):C.take (i+1)=C.take i++[C.getD i 0]:=by
 rw[L3,B3,B0 h]
 rfl
theorem Mr{cs:List cX}{l C π:List Int}{s:Int→Int}{k p start place:Int}(hP:Pl9 cs l C π s)(h0:0≤k)(h1:k<(cs.length:Int))(hkl:k∉l)(hn:∀m∈(at_ cs k.toNat).needs,m∈l∨m∈π)(hp:(at_ cs k.toNat).bG=p)
    (hs0:0≤start) (hs1:∀m∈(at_ cs k.toNat).needs,m∉l→s m≤start) (hs2:start=0∨∃m∈(at_ cs k.toNat).needs,m∉l∧s m=start) (b1:start≤place) (b2:∀j:Nat,start≤j→(j:Int)<place→C.getD j 0≠p) (b3:place<(C.length:Int)→C.getD place.toNat 0=p) :
    ∀i:Nat,i≤C.length→(Dn cs l (C.take i) k↔place<(i:Int))
  | 0,_=>by
    rw[N7]
    exact⟨λz=>absurd z hkl,λz=>by omega⟩
  | i+1,hi=>by
    have ih:=Mr hP h0 h1 hkl hn hp hs0 hs1 hs2 b1 b2 b3 i (by omega)
    have ec:=take_one (C:=C) (i:=i) (by omega)
    have need:∀m∈(at_ cs k.toNat).needs,(Dn cs l (C.take (i+1)) m↔m∈l∨s m≤(i:Int)):=λm hm=>by
      constructor
      · intro z
        by_cases c:m∈l
        · exact .inl c
        · have hmp:=(hn m hm).resolve_left c
          have:=((hP m hmp).2.2 (i+1)).mp z
          exact .inr (by omega)
      · intro z
        by_cases c:m∈l
        · exact Io c
        · have hmp:=(hn m hm).resolve_left c
          refine((hP m hmp).2.2 (i+1)).mpr ?_
          have:=z.resolve_left c
          omega
    have all:(∀m∈(at_ cs k.toNat).needs,Dn cs l (C.take (i+1)) m)↔start≤(i:Int):=by
      constructor
      · intro z
        rcases hs2 with e | ⟨m,m1,m2,m3⟩
        · omega
        · have:=((need m m1).mp (z m m1)).resolve_left m2
          omega
      · intro z m hm
        refine(need m hm).mpr ?_
        by_cases c:m∈l
        · exact .inl c
        · have:=hs1 m hm c
          exact .inr (by omega)
    have e:Dn cs l (C.take (i+1)) k↔Dn cs l (C.take i) k∨(0≤k∧k<(cs.length:Int)∧(at_ cs k.toNat).bG=C.getD i 0)∧∀m∈(at_ cs k.toNat).needs,Dn cs l (C.take (i+1)) m:=by
      rw[ec,sO]
      exact IV
    rw[e,ih,all,hp]
    constructor
    · rintro(z | ⟨⟨_,_,z⟩,w⟩)
      · omega
      · rcases Y0 (i:Int) place with q | q
        · exact absurd z.symm (b2 i w q)
        · omega
    · intro z
      rcases Y0 place (i:Int)with q | q
      · exact .inl q
      · have q2:place=(i:Int):=by omega
        have:=b3 (by omega)
        rw[q2,C5]at this
        exact .inr ⟨⟨h0,h1,this.symm⟩,by omega⟩
theorem WD{cs:List cX}{l C π:List Int}{s:Int→Int}{k p start place:Int}(hP:Pl9 cs l C π s)(h0:0≤k)(h1:k<(cs.length:Int))(hkl:k∉l)(hkp:k∉π)(hn:∀m∈(at_ cs k.toNat).needs,m∈l∨m∈π)(hp:(at_ cs k.toNat).bG=p)
  (hs0:0≤start) (hs1:∀m∈(at_ cs k.toNat).needs,m∉l→s m≤start) (hs2:start=0∨∃m∈(at_ cs k.toNat).needs,m∉l∧s m=start) (b1:start≤place) (b2:∀j:Nat,start≤j→(j:Int)<place→C.getD j 0≠p) (b3:place<(C.length:Int)→C.getD place.toNat 0=p) (b4:place≤(C.length:Int)) :
  (place=(C.length:Int)→cB cs l C k=C++[p])∧(place≠(C.length:Int)→cB cs l C k=C)∧Pl9 cs l (cB cs l C k) (π++[k]) (λx=>if x=k then place else s x):=by
 have key:=Mr hP h0 h1 hkl hn hp hs0 hs1 hs2 b1 b2 b3
 have kl:=key C.length (B4 _)
 rw[E1 (B4 _)]at kl
 have full:∀x∈π,Dn cs l C x:=λx hx=>by
  have:=((hP x hx).2.2 C.length).mpr (hP x hx).2.1
  rw[E1 (B4 _)]at this
  exact this
 have ne:∀x∈π,x≠k:=λx hx z=>hkp (z▸hx)
 by_cases c:place=(C.length:Int)
 ·have nd:¬Dn cs l C k:=λz=>by have:=kl.mp z;omega
  have es:cB cs l C k=C++[p]:=by rw[Ip nd,hp]
  refine⟨λ_=>es,λz=>absurd c z,?_⟩
  rw[es]
  intro x hx
  rw[C7]
  rcases D9.mp hx with hx | hx
  ·obtain⟨s0,s1,s2⟩:=hP x hx
   dsimp only
   rw[if_neg (ne x hx)]
   refine⟨s0,by simp;omega,λi=>?_⟩
   rcases E3 C.length i with z | z
   ·rw[E1 (by rw[C7];exact z)]
    exact⟨λ_=>by omega,λ_=>Ui (full x hx)⟩
   ·rw[M4 z]
    exact s2 i
  ·rw[C6.mp hx]
   dsimp only
   rw[if_pos rfl]
   refine⟨by omega,by simp;omega,λi=>?_⟩
   rcases E3 C.length i with z | z
   ·rw[E1 (by rw[C7];exact z)]
    refine⟨λ_=>by omega,λ_=>?_⟩
    rw[sO]
    refine .new ⟨h0,h1,hp⟩ λm hm=>.old ?_
    rcases hn m hm with w | w
    ·exact Io w
    ·exact full m w
   ·rw[M4 z]
    exact key i z
 ·have yd:Dn cs l C k:=kl.mpr (by omega)
  refine⟨λz=>absurd z c,λ_=>pC yd,?_⟩
  rw[pC yd]
  intro x hx
  rcases D9.mp hx with hx | hx
  ·dsimp only
   rw[if_neg (ne x hx)]
   exact hP x hx
  ·rw[C6.mp hx]
   dsimp only
   rw[if_pos rfl]
   refine⟨by omega,by omega,λi=>?_⟩
   rcases E3 C.length i with z | z
   ·rw[E1 (by omega)]
    exact⟨λ_=>by omega,λ_=>yd⟩
   ·exact key i z
def Ir(π:List Int)(s:Int→Int):D:=.dk (π.map D8) (π.map λk=>.int (s k))
theorem WK{s:Int→Int}{m:Int}{π:List Int}(h:m∈π):Vr (Ir π s) (.int m)=some (.int (s m)):=by
 have:∀π:List Int,m∈π→∃j,posK (π.map (D8:Int→Key)) (D8 m)=some j∧(π.map λk=>D.int (s k))[j]?=some (.int (s m)):=by
  intro π
  induction π with
  | nil=>intro h;cases h
  | cons a π ih=>
   intro h
   rw[D4,D4]
   unfold posK
   by_cases c:a=m
   ·subst c
    rw[if_pos rfl]
    exact⟨0,rfl,rfl⟩
   ·rw[if_neg (λz=>c (f7 z))]
    obtain⟨j,j1,j2⟩:=ih ((C4.mp h).resolve_left λz=>c z.symm)
    exact⟨j+1,by rw[j1];rfl,j2⟩
 obtain⟨j,j1,j2⟩:=this π h
 unfold Vr Ir
 show (posK (π.map (D8:Int→Key)) (D8 m)).bind _=_
 rw[j1]
 exact j2
theorem JB{C:List Int}{p start:Int}(h0:0≤start)(h1:start≤(C.length:Int))(hl:C.length≤300):∃place,gH [aD C,.int p,.int start]=some (.int place)∧start≤place∧place≤(C.length:Int)∧(∀j:Nat,start≤j→(j:Int)<place→C.getD j 0≠p)∧(place<(C.length:Int)→C.getD place.toNat 0=p):=by
 suffices h:∃d,gH [aD C,.int p,.int start]=some d∧∃place,d=.int place∧start≤place∧place≤(C.length:Int)∧(∀j:Nat,start≤j→(j:Int)<place→C.getD j 0≠p)∧(place<(C.length:Int)→C.getD place.toNat 0=p) by
  obtain⟨d,e1,place,rfl,e2⟩:=h
  exact⟨place,e1,e2⟩
 refine eO rfl ?_
 unfold tL
 refine dH (bM rfl rfl) (by exact Nat.le_of_ble_eq_true rfl) ?_
 have test:∀place:Int,0≤place→pH (fB (f2 KJ (aB 3) (fL jV (aC (aB 0) aM)))) (fB (f2 Nf (f2 dD (aB 0) (aB 3)) (aB 1))) (rE [.fro (aD C),.fro (.int p),.fro (.int start),.own (.int place)])=some (decide (place<(C.length:Int))&&!decide (C.getD place.toNat 0=p)):=λplace hp0=>by
  have e1:fB (f2 KJ (aB 3) (fL jV (aC (aB 0) aM))) (rE [.fro (aD C),.fro (.int p),.fro (.int start),.own (.int place)])=some (decide (place<(C.length:Int))):=bU (aP rfl (cR (aF rfl rfl) (fY C)) (uZ _ _))
  by_cases c:place<(C.length:Int)
  ·refine mZ e1 (bU (aP (aP rfl rfl (jN hp0 c)) rfl (yP _ _)))
  ·rw[decide_eq_false c]at e1 ⊢
   rw[ud e1]
   rfl
 refine Ub (n:=C.length) (λn env=>∃place:Int,env=[.fro (aD C),.fro (.int p),.fro (.int start),.own (.int place)]∧start≤place∧place≤(C.length:Int)∧(C.length:Int)-place≤n∧∀j:Nat,start≤j→(j:Int)<place→C.getD j 0≠p) ⟨start,rfl,by omega,h1,by omega,λj a b=>by omega⟩ (by omega) ?_ ?_
 ·rintro n env ⟨place,rfl,a1,a2,a3,a4⟩
  have t:=test place (by omega)
  by_cases c:place<(C.length:Int)∧¬C.getD place.toNat 0=p
  ·rw[decide_eq_true c.1,decide_eq_false c.2]at t
   refine .inr ⟨t,by omega,_,uV (d:=.int (place+1)) (aP rfl rfl (jE _ _)) (by exact Nat.le_of_ble_eq_true rfl),place+1,rfl,by omega,by omega,by omega,λj b1 b2=>?_⟩
   rcases Y0 (j:Int) place with z | z
   ·exact a4 j b1 z
   ·obtain rfl:j=place.toNat:=by omega
    exact c.2
  ·refine .inl ?_
   rw[t]
   rcases f6 (place<(C.length:Int))with z | z
   ·rw[decide_eq_true z,decide_eq_true (Classical.not_not.mp λw=>c ⟨z,w⟩)]
    rfl
   ·rw[decide_eq_false z]
    rfl
 ·rintro n env ⟨place,rfl,a1,a2,a3,a4⟩ hf
  rw[test place (by omega)]at hf
  refine tX rfl ⟨_,rfl,place,rfl,a1,a2,a4,λz=>?_⟩
  rw[decide_eq_true z]at hf
  have hf:=F5 hf
  simpa using hf
theorem WL{L:List Int}{R:Int→Int→Prop}(hp:L.Pairwise R){j:Nat}{k m:Int}(hk:L[j]?=some k)(hm:m∈L)(hne:m≠k)(hR:¬R k m):m∈L.take j:=by
 obtain⟨i,hi,e⟩:=M5 hm
 obtain⟨hj,ek⟩:=B8.mp hk
 rcases O4 i j with z | z | z
 ·rw[←e]
  exact S9.mpr ⟨i,by omega,rfl⟩
 ·subst z
  exact absurd (e.symm.trans ek) hne
 ·have:=(G1.mp hp) j i hj hi z
  rw[ek,e]at this
  exact absurd this hR
theorem ZX{g1:GS}{env env':EN}{Pr:SR→Prop}(h:g1 env=.next env')(k:Pr (.next env')):Qs Pr (g1 env):=by rw[h];exact k
def JC(nd:List (List Int)):D:=.lst (nd.map dTup)
def JD(nd:List (List Int)):Prop:=∀(i:Nat)(r:List Int),nd[i]?=some r→(∀m∈r,0≤m∧m<(i:Int))∧r.length≤4
abbrev Qq(nd:List (List Int))(k:Int):List Int:=nd.getD k.toNat []
theorem WM{nd:List (List Int)}{k:Int}(h0:0≤k)(h1:k<nd.length):nd[k.toNat]?=some (Qq nd k):=Aw (by omega)
theorem vd{nd:List (List Int)}(h:JD nd){k:Int}(h0:0≤k){m:Int}(hm:m∈Qq nd k):0≤m∧m<k:=by
 unfold Qq at hm
 rw[B3]at hm
 cases e:nd[k.toNat]? with
 | none=>rw[e]at hm;cases hm
 | some r=>
  rw[e]at hm
  have:=(h _ r e).1 m hm
  omega
theorem WN{nd:List (List Int)}(h:JD nd)(k:Int):(Qq nd k).length≤4:=by
 unfold Qq
 rw[B3]
 cases e:nd[k.toNat]? with
 | none=>exact G9 _
 | some r=>exact(h _ r e).2
theorem aAI{nd:List (List Int)}{k:Int}(h0:0≤k)(h1:k<nd.length):dD (JC nd) (.int k)=some (dTup (Qq nd k)):=vA h0 (by rw[C8,WM h0 h1];rfl)
inductive Reach(nd:List (List Int))(ns:List Int):Int→Prop
 | base {n:Int}:n∈ns→Reach nd ns n
 | step {n m:Int}:Reach nd ns n→m∈Qq nd n→Reach nd ns m
theorem pD{nd:List (List Int)}{ns:List Int}(h:JD nd)(hin:∀n∈ns,0≤n∧n<(nd.length:Int)){n:Int}(r:Reach nd ns n):0≤n∧n<(nd.length:Int):=by
 induction r with
 | base q=>exact hin _ q
 | step _ hm ih=>
  have:=vd h ih.1 hm
  omega
theorem JF{t i:Nat}{env:EN}{us:List Int}{z:Int}(h:env[t]?=some (.own (aD (us++[z]))))(hi:i<env.length)(hit:i≠t):Am t i env=.next ((env.set t (.own (aD us))).set i (.own (.int z))):=by
 unfold Am
 rw[h]
 dsimp only
 rw[show intsOf ((us++[z]).map D.int)=some (us++[z])from jB _]
 dsimp only
 rw[List.getLast?_concat]
 dsimp only
 rw[if_pos ⟨hi,hit⟩,List.dropLast_concat]
structure xj(nd:List (List Int))(ns ks us:List Int)(z:Option (Int×Nat)):Prop where
 xm:ks.Nodup
 re:∀j∈ks,Reach nd ns j
 base:∀j∈ns,j∈ks
 sub:∀j∈us,j∈ks
 cl:∀i∈ks,i∉us→(∀p,z=some p→i≠p.1)→∀m∈Qq nd i,m∈ks
 at_:∀p,z=some p→p.1∈ks∧∀m∈(Qq nd p.1).take p.2,m∈ks
theorem Qt{nd:List (List Int)}{ns:List Int}(h:JD nd)(hl:nd.length≤61)(hin:∀n∈ns,0≤n∧n<(nd.length:Int))(hnl:ns.length≤200):∃cs,oY [JC nd,aD ns]=some (aD cs)∧cs.Pairwise (·<·)∧(∀j,j∈cs↔Reach nd ns j)∧cs.length≤61:=by
  suffices hh:∃d,oY [JC nd,aD ns]=some d∧∃cs,d=aD cs∧cs.Pairwise (·<·)∧(∀j,j∈cs↔Reach nd ns j)∧cs.length≤61 by
    obtain⟨d,h1,nd,rfl,h2⟩:=hh
    exact⟨nd,h1,h2⟩
  have few:∀{ks us:List Int} {z:Option (Int×Nat)},xj nd ns ks us z→ks.length≤nd.length:=λ{ks us z} W=>oJ _ _ W.xm λj hj=>pD h hin (W.re j hj)
  obtain⟨k0,m1,m2,m3,m4⟩:=Fb (l:=ns) (by omega)
  refine eO rfl ?_
  unfold Mg
  refine dH (bL (aF rfl rfl) rfl m1) (by exact Nat.le_of_ble_eq_true rfl) ?_
  refine dH (cR (aF rfl rfl) (Bb k0)) (by exact Nat.le_of_ble_eq_true rfl) ?_
  have W0:xj nd ns k0 k0 none:=⟨m2,λj hj=>.base ((m3 j).mp hj),λj hj=>(m3 j).mpr hj,λj hj=>hj,λi hi hn=>absurd hi hn,λp z=>by cases z⟩
  have hk0:=few W0
  refine Ub (n:=61) (λn env=>∃(ks us:List Int)(v4 v5:SD),env=[.fro (JC nd),.fro (aD ns),.own (cV ks),.own (aD us),v4,v5]∧xj nd ns ks us none∧61-ks.length+us.length≤n∧n≤61) ⟨k0,k0,_,_,rfl,W0,by omega,B4 _⟩ (by omega) ?_ ?_
  · rintro n env ⟨ks,us,v4,v5,rfl,W,hn,hn61⟩
    have hkl:=few W
    have ec:fB (f2 Rz (fL jV (aC (aB 3) aM)) (fC (.int 0))) (rE [.fro (JC nd),.fro (aD ns),.own (cV ks),.own (aD us),v4,v5])=some (decide ((0:Int)<us.length)):=bU (aP (cR (aF rfl rfl) (fY us)) rfl (rY _ _))
    rcases List.eq_nil_or_concat us with hus | ⟨us',z,hus⟩
    · subst hus
      exact .inl ec
    · rw[List.concat_eq_append]at hus
      subst hus
      have hlen:(us'++[z]).length=us'.length+1:=by rw[C7];rfl
      rw[decide_eq_true (by omega)]at ec
      refine .inr ⟨ec,by omega,?_⟩
      have hzk:z∈ks:=W.sub z (by simp)
      obtain⟨hz0,hz1⟩:=pD h hin (W.re z hzk)
      have hrl:=WN h z
      suffices hq:Qs (λr=>∃env',r=.next env'∧∃(ks us:List Int)(v4 v5:SD),env'=[.fro (JC nd),.fro (aD ns),.own (cV ks),.own (aD us),v4,v5]∧xj nd ns ks us none∧61-ks.length+us.length≤n-1∧n-1≤61) (aU (Am 3 4)
  (pI [4] 5 (cM (f2 dD (aB 0) (aB 4))) (rR (fB (f2 (iB true) (aB 5) (aB 2))) (aU (dX 2 fH (aB 5) (fC (.bl true)))
  (sY 3 fH (cC (aB 5)))) eX)) [.fro (JC nd),.fro (aD ns),.own (cV ks),.own (aD (us'++[z])),v4,v5])from hq
      refine Wk (JF rfl (by exact Nat.le_of_ble_eq_true rfl) (by decide)) ?_
      refine FW (xs:=(Qq nd z).map D.int) (λj env=>∃(Ja JG:List Int)(v5:SD),env=[.fro (JC nd),.fro (aD ns),.own (cV Ja),.own (aD JG),.fro (.int z),v5]∧xj nd ns Ja JG (some (z,j))∧61-Ja.length+JG.length≤n-1) rfl (lE (aP rfl rfl (aAI hz0 hz1)))
        ⟨ks,us',_,rfl,⟨W.xm,W.re,W.base,λj hj=>W.sub j (by simp[hj]),λi hi hn' hz=>?_,λq hq=>by
          cases hq
          exact⟨hzk,λm hm=>by rw[N7]at hm;cases hm⟩⟩,by omega⟩ ?_ ?_
      · have hne:=hz (z,0) rfl
        exact W.cl i hi (λhh=>by
          rcases D9.mp hh with q | q
          · exact hn' q
          · exact hne (C6.mp q)) (λp hp=>by cases hp)
      · rintro j x env hx ⟨Ja,JG,v5,rfl,W4,hms⟩
        refine⟨by walk_at "lt", ?_⟩
        rw[C8]at hx
        obtain⟨m,hm,rfl⟩:=iT hx
        have hmem:m∈Qq nd z:=J6 hm
        have hj:=(B8.mp hm).1
        have aDx:=few W4
        have htk:(Qq nd z).take (j+1)=(Qq nd z).take j++[m]:=L2.take_snoc hm
        refine vC (bU (aP rfl rfl (jF true m Ja))) (λhb=>?_) λhb=>?_
        · have c:m∉Ja:=by simpa using hb
          have W5:xj nd ns (Ja++[m]) (JG++[m]) (some (z,j+1)):=by
            obtain⟨q1,q2⟩:=W4.at_ (z,j) rfl
            refine⟨L2.Ru W4.xm c,λi hi=>?_,λi hi=>F2 _ (W4.base i hi),λi hi=>?_,λi hi hn hz n hn2=>?_,λq h=>?_⟩
            · rcases D9.mp hi with q | q
              · exact W4.re i q
              · rw[C6.mp q];exact .step (W4.re z q1) hmem
            · rcases D9.mp hi with q | q
              · exact F2 _ (W4.sub i q)
              · exact E4 _ q
            · have hi4:i∈Ja:=by
                rcases D9.mp hi with q | q
                · exact q
                · exact absurd (E4 _ q) hn
              exact F2 _ (W4.cl i hi4 (λq=>hn (F2 _ q)) (λq h=>by cases h;exact hz (z,j+1) rfl) n hn2)
            · cases h
              refine⟨F2 _ q1,λn hn=>?_⟩
              rw[htk]at hn
              rcases D9.mp hn with q | q
              · exact F2 _ (q2 n q)
              · exact E4 _ q
          have aDz:=few W5
          have l5:(Ja++[m]).length=Ja.length+1:=by rw[C7];rfl
          have l6:(JG++[m]).length=JG.length+1:=by rw[C7];rfl
          have ea:oV Ja m=Ja++[m]:=by unfold oV;rw[if_neg c]
          refine Wk (Es (ks:=Ja) (k:=m) rfl rfl rfl (by omega)) ?_
          rw[ea]
          refine wM rfl (bM (d:=.int m) rfl rfl) (by rw[B5];omega) ⟨_,rfl,Ja++[m],JG++[m],.fro (.int m),?_,W5,by omega⟩
          rw[←gK]
          rfl
        · have c:m∈Ja:=by simpa using hb
          refine⟨_,rfl,Ja,JG,_,rfl,⟨W4.xm,W4.re,W4.base,W4.sub,λi hi hn hz=>W4.cl i hi hn λq h=>by cases h;exact hz (z,j+1) rfl,λq h=>?_⟩,hms⟩
          cases h
          obtain⟨q1,q2⟩:=W4.at_ (z,j) rfl
          refine⟨q1,λn hn=>?_⟩
          rw[htk]at hn
          rcases D9.mp hn with q | q
          · exact q2 n q
          · rw[C6.mp q];exact c
      · rintro env ⟨Ja,JG,v5,rfl,W4,hms⟩
        refine⟨_,rfl,Ja,JG,_,_,rfl,⟨W4.xm,W4.re,W4.base,W4.sub,λi hi hn _=>?_,λp h=>by cases h⟩,hms,by omega⟩
        by_cases c:i=z
        · subst c
          have:=(W4.at_ _ rfl).2
          rw[B5]at this
          dsimp only at this
          rw[Z6]at this
          exact this
        · exact W4.cl i hi hn λq h=>by cases h;exact c
  · rintro env n ⟨ks,us,v4,v5,rfl,W,hn,hn61⟩ he
    have hkl:=few W
    have ec:fB (f2 Rz (fL jV (aC (aB 3) aM)) (fC (.int 0))) (rE [.fro (JC nd),.fro (aD ns),.own (cV ks),.own (aD us),v4,v5])=some (decide ((0:Int)<us.length)):=bU (aP (cR (aF rfl rfl) (fY us)) rfl (rY _ _))
    rw[ec]at he
    have hus:us=[]:=by
      cases us with
      | nil=>rfl
      | cons a l=>
        rw[decide_eq_true (by rw[E7];omega)]at he
        cases he
    subst hus
    obtain⟨h1,h2⟩:=(jZ ks).strict W.xm
    refine mC (cR (aF rfl rfl) (Qe (by omega))) ⟨_,rfl,_,rfl,h1,λj=>?_,?_⟩
    · rw[h2 j]
      constructor
      · exact W.re j
      · intro hj
        induction hj with
        | base h=>exact W.base _ h
        | step _ hm ih=>exact W.cl _ ih List.not_mem_nil (λp h=>by cases h) _ hm
    · have:=(jZ ks).1.length_eq
      omega
def mL(cs:List cX):List (List Int):=cs.map (·.needs)
theorem Ms{cs:List cX}{k:Int}(h:k.toNat<cs.length):Qq (mL cs) k=(at_ cs k.toNat).needs:=by
 unfold Qq mL at_
 rw[B3,B3,C8,B0 h]
 rfl
theorem yQ{cs:List cX}(hg:Good cs):JD (mL cs):=λi r h=>by
 unfold mL at h
 rw[C8]at h
 obtain⟨c,hc,rfl⟩:=iT h
 have hi:=(B8.mp hc).1
 have e:at_ cs i=c:=by unfold at_;rw[B3,hc];rfl
 obtain⟨g1,_,g3⟩:=hg.2 i hi
 rw[e]at g1 g3
 exact⟨g1,g3⟩
theorem Qu{cs:List cX}(hg:Good cs):rB [bA cs]=some (JC (mL cs)):=by
 have HW:=hg.1
 have:=Wl (fi:=cM (aB 0)) (fr:=[]) (fe:=cC (f2 dD (aB 0) (fC (.int 3)))) (e:=rE ([bA cs].map SD.fro++E8 (1-1) SD.no)) (xs:=cs) (ψ:=Ma) (φ:=λc=>dTup c.needs) (cU rfl) (by omega) λc hc=>bM (aP rfl rfl (mF c)) (vB _)
 refine lY rfl (mY ?_)
 rw[this]
 unfold JC mL
 rw[J0]
 rfl
theorem Uk{cs:List cX}{l kn:List Int}(hg:Good cs)(hT:nH cs l kn):∀k:Nat,k<cs.length→0≤kn.getD k 0∧kn.getD k 0≤(k:Int)+1:=by
 intro k
 induction k using R6 with
 | ind k ih=>
  intro hk
  rw[hT.2 k hk]
  unfold cL
  by_cases c:(k:Int)∈l
  ·rw[if_pos c]
   omega
  ·rw[if_neg c]
   obtain⟨m1,m2⟩:=gP (ns:=1::(cP cs kn k).map (qF cs kn k)) (by simp)
   have a1:=m2 1 B9
   refine⟨by omega,?_⟩
   rcases C4.mp m1 with z | z
   ·omega
   ·obtain⟨m,hm,e⟩:=E2.mp z
    obtain⟨b0,b1⟩:=(hg.2 k hk).1 m (F6.mp hm).1
    have:=ih m.toNat (by omega) (by omega)
    rw[←e]
    unfold qF sI
    split<;>omega
def sZ(cs:List cX)(kn:List Int)(k:Int):T3:=(sI kn k,(at_ cs k.toNat).bG,k)
theorem Ul{cs:List cX}{kn:List Int}{g:Int→Option D}:∀{ns:List Int},(∀k∈ns,g k=some (.tup [.int (sI kn k),.int (at_ cs k.toNat).bG,.int k]))→keysOf g ns=some (ns.map (sZ cs kn))
 | [],_=>rfl
 | k::ns,h=>by
  unfold keysOf
  rw[h k B9]
  dsimp only
  rw[Ul λx hx=>h x (B7 _ hx)]
  rfl
theorem Mt{ts:List T3}{ns:List Int}(hl:ts.length=ns.length):(sortedK ts ns).Perm ns:=by
 unfold sortedK
 have:=(tW ((ts.map enc).zip ns)).map (·.2)
 rw[List.map_snd_zip (by rw[B5,hl];exact B4 _)]at this
 exact this
theorem wI{f:Int→T3}{ns:List Int}:((sortedK (ns.map f) ns).map λk=>enc (f k)).Pairwise (·≤·):=by
 have h:=Lg (((ns.map f).map enc).zip ns)
 have e:(sortedK (ns.map f) ns).map (λk=>enc (f k))=(El (((ns.map f).map enc).zip ns)).map (·.1):=by
  unfold sortedK
  rw[J0]
  refine L4 λp hp=>?_
  have hp:=(tW _).mem_iff.mp hp
  rw[J0]at hp
  obtain⟨i,hi,e⟩:=M5 hp
  rw[Z4,Z5]at e
  rw[←e]
  rfl
 rw[e]
 exact h
theorem Mu{cs:List cX}{l kn gs:List Int}(hg:Good cs)(h8:P8 cs)(hT:nH cs l kn)(hgs:∀x∈gs,0≤x∧x<(cs.length:Int))(hgl:gs.length≤200) :
  ∃L,gG [bA cs,aD kn,aD gs]=some (aD L)∧L.Nodup∧L.length≤60∧(∀k,k∈L↔Reach (mL cs) gs k∧k∉l)∧L.Pairwise (λx y=>fk cs kn x<fk cs kn y∨fk cs kn x=fk cs kn y∧x<y):=by
 suffices h:∃d,gG [bA cs,aD kn,aD gs]=some d∧∃L,d=aD L∧L.Nodup∧L.length≤60∧(∀k,k∈L↔Reach (mL cs) gs k∧k∉l)∧L.Pairwise (λx y=>fk cs kn x<fk cs kn y∨fk cs kn x=fk cs kn y∧x<y) by
  obtain⟨d,h1,L,rfl,h2⟩:=h
  exact⟨L,h1,h2⟩
 have HW:=hg.1
 have hnl:(mL cs).length=cs.length:=by unfold mL;rw[B5]
 have hnd:=yQ hg
 obtain⟨cl,c1,c2,c3,c4⟩:=Qt hnd (by omega) (λn hn=>by rw[hnl];exact hgs n hn) hgl
 have hin:∀x∈cl,0≤x∧x<(cs.length:Int):=λx hx=>by
  have:=pD hnd (λn hn=>by rw[hnl];exact hgs n hn) ((c3 x).mp hx)
  rw[hnl]at this
  exact this
 have hkl:=hT.1
 refine eO rfl ?_
 unfold tK
 have cY:=bV (fi:=cM (bI 2 oY (aC (bI 1 rB (aC (aB 0) aM)) (aC (aB 2) aM)))) (fr:=[1]) (fc:=fB (f2 Rz (f2 dD (aB 1) (aB 0)) (fC (.int 0)))) (fe:=cC (aB 0)) (e:=rE ([bA cs,aD kn,aD gs].map SD.fro++E8 (4-3) SD.no)) (ms:=cl) (λm=>decide (0<sI kn m)) id
  (cU (bL (aF (bL (aF rfl rfl) rfl (Qu hg)) (aF rfl rfl)) rfl c1)) (by omega) (λm hm=>bU (aP (aP rfl rfl (Bx (hin m hm).1 (by have:=(hin m hm).2;omega))) rfl (rY _ _))) λm hm _=>bM rfl rfl
 rw[M8]at cY
 refine dH cY (by exact Nat.le_of_ble_eq_true rfl) ?_
 generalize hns:cl.filter (λm=>decide (0<sI kn m))=ns
 have nin:∀x∈ns,x∈cl:=λx hx=>by rw[←hns]at hx;exact(F6.mp hx).1
 have nup:ns.Pairwise (·<·):=by rw[←hns];exact c2.sublist List.filter_sublist
 have nnd:ns.Nodup:=nup.imp λh=>Int.ne_of_lt h
 have nle:ns.length≤cs.length:=oJ _ _ nnd λj hj=>hin j (nin j hj)
 have bd:∀k∈ns,Bd (sZ cs kn k):=λk hk=>by
  obtain⟨a0,a1⟩:=hin k (nin k hk)
  have t:=Uk hg hT k.toNat (by omega)
  have p:=h8 k.toNat (by omega)
  unfold Bd sZ sI
  dsimp only
  omega
 have inj:((ns.map (sZ cs kn)).map enc).Nodup:=by
  rw[J0]
  refine N1.mpr ?_
  rw[N2]
  refine nup.imp_of_mem λ{x y} hx hy hlt e=>?_
  have b1:=bd x hx
  have b2:=bd y hy
  unfold Bd sZ at b1 b2
  dsimp only at b1 b2
  have e:enc (sZ cs kn x)=enc (sZ cs kn y):=e
  unfold enc sZ at e
  dsimp only at e
  omega
 have hkeys:keysOf (λn=>Cu (aC (cC (f2 dD (aB 1) (aB 0))) (aC (cC (f2 dD (f2 dD (aB 2) (aB 0)) (fC (.int 0)))) (aC (cC (aB 0)) aM))) (some (.int n)::jW (rE [.fro (bA cs),.fro (aD kn),.fro (aD gs),.own (aD ns)]) [1,0])) ns=some (ns.map (sZ cs kn)):=Ul λk hk=>by
  obtain⟨a0,a1⟩:=hin k (nin k hk)
  exact Hu (aF (bM (aP rfl rfl (Bx a0 (by omega))) rfl) (aF (bM (aP (aP rfl rfl (Mq a0 a1)) rfl (pM _)) rfl) (aF (bM rfl rfl) rfl))) (by exact Nat.le_of_ble_eq_true rfl)
 have hs:wK (aB 3) [1,0] (Cu (aC (cC (f2 dD (aB 1) (aB 0))) (aC (cC (f2 dD (f2 dD (aB 2) (aB 0)) (fC (.int 0)))) (aC (cC (aB 0)) aM)))) (rE [.fro (bA cs),.fro (aD kn),.fro (aD gs),.own (aD ns)])=some (aD (sortedK (ns.map (sZ cs kn)) ns)):=by
  unfold wK
  have e3:aB 3 (rE [.fro (bA cs),.fro (aD kn),.fro (aD gs),.own (aD ns)])=some (.lst (ns.map D.int)):=rfl
  rw[e3]
  dsimp only[C3]
  rw[jB]
  dsimp only[C3]
  rw[hkeys]
  dsimp only[C3]
  rw[if_pos ⟨by omega,λt ht=>by obtain⟨k,hk,rfl⟩:=E2.mp ht;exact bd k hk,inj⟩]
 have hpm:=Mt (ts:=ns.map (sZ cs kn)) (ns:=ns) (by rw[B5])
 refine mC hs ⟨_,rfl,_,rfl,hpm.nodup_iff.mpr nnd,by rw[hpm.length_eq];omega,λk=>?_,?_⟩
 ·rw[hpm.mem_iff,←hns,F6,c3 k]
  constructor
  ·rintro⟨z1,z2⟩
   obtain⟨a0,a1⟩:=hin k ((c3 k).mpr z1)
   have:=(rM hT (k:=k.toNat) (by omega)).mp (of_decide_eq_true z2)
   rw[P4 a0]at this
   exact⟨z1,this⟩
  ·rintro⟨z1,z2⟩
   obtain⟨a0,a1⟩:=hin k ((c3 k).mpr z1)
   refine⟨z1,decide_eq_true ((rM hT (k:=k.toNat) (by omega)).mpr ?_)⟩
   rw[P4 a0]
   exact z2
 ·have up:=wI (f:=sZ cs kn) (ns:=ns)
  have nd2:(sortedK (ns.map (sZ cs kn)) ns).Nodup:=hpm.nodup_iff.mpr nnd
  have both:=(N2.mp up).and (N1.mp nd2)
  refine both.imp_of_mem λ{x y} hx hy h=>?_
  obtain⟨h1,h2⟩:=h
  have b1:=bd x (hpm.mem_iff.mp hx)
  have b2:=bd y (hpm.mem_iff.mp hy)
  obtain⟨x0,x1⟩:=hin x (nin x (hpm.mem_iff.mp hx))
  obtain⟨y0,y1⟩:=hin y (nin y (hpm.mem_iff.mp hy))
  have p1:=h8 x.toNat (by omega)
  have p2:=h8 y.toNat (by omega)
  unfold Bd sZ at b1 b2
  unfold enc sZ at h1
  dsimp only at b1 b2 h1
  unfold fk
  omega
theorem Qv(ns:List Int)(i:Int):Tn (aD ns) (.int i)=some (.int (if ns=[]then i else wH ns)):=by
 show (intsOf (ns.map D.int)).map _=_
 rw[jB]
 rfl
theorem JH{cs:List cX}{l C:List Int}{k:Int}:(cB cs l C k).length≤C.length+1:=by
 by_cases c:Dn cs l C k
 ·rw[pC c];omega
 ·rw[Ip c,C7];exact B4 _
theorem vN{cs:List cX}{l:List Int}:∀(L C:List Int),(L.foldl (cB cs l) C).length≤C.length+L.length
 | [],C=>B4 _
 | k::L,C=>by
  rw[P7]
  have h1:=vN (cs:=cs) (l:=l) L (cB cs l C k)
  have h2:=JH (cs:=cs) (l:=l) (C:=C) (k:=k)
  rw[E7]
  omega
theorem WQ{cs:List cX}{l gs:List Int}(hg:Good cs)(h8:P8 cs)(hl:l.length≤900)(hgs:∀x∈gs,0≤x∧x<(cs.length:Int))(hgl:gs.length≤200)(hS:Xc cs l) :
  ∃(kn L:List Int),nH cs l kn∧L.Nodup∧L.length≤60∧(∀k,k∈L↔Reach (mL cs) gs k∧k∉l)∧L.Pairwise (λx y=>fk cs kn x<fk cs kn y∨fk cs kn x=fk cs kn y∧x<y)∧Mh [bA cs,aD l,aD gs]=some (aD (L.foldl (cB cs l) [])):=by
 obtain⟨kn,t1,hT⟩:=HY hg hl
 obtain⟨L,w1,w2,w3,w4,w5⟩:=Mu hg h8 hT hgs hgl
 refine⟨kn,L,hT,w2,w3,w4,w5,?_⟩
 suffices h:∃d,Mh [bA cs,aD l,aD gs]=some d∧d=aD (L.foldl (cB cs l) []) by
  obtain⟨d,h1,rfl⟩:=h
  exact h1
 have HW:=hg.1
 have hkl:=hT.1
 have hnl:(mL cs).length=cs.length:=by unfold mL;rw[B5]
 have hnd:=yQ hg
 have hin:∀x∈L,0≤x∧x<(cs.length:Int):=λx hx=>by
  have:=pD hnd (λn hn=>by rw[hnl];exact hgs n hn) ((w4 x).mp hx).1
  rw[hnl]at this
  exact this
 refine eO rfl ?_
 unfold ZV
 refine dH (bL (aF rfl (aF rfl rfl)) rfl t1) (by exact Nat.le_of_ble_eq_true rfl) ?_
 refine dH (eY (ds:=[]) rfl (by exact Nat.le_of_ble_eq_true rfl)) (by exact Nat.le_of_ble_eq_true rfl) ?_
 refine dH (d:=.dk [] []) rfl (by exact Nat.le_of_ble_eq_true rfl) ?_
 refine Lx (xs:=L.map D.int) (λj env=>∃(s:Int→Int)(v6 v7 v8 v9:SD),env=[.fro (bA cs),.fro (aD l),.fro (aD gs),.fro (aD kn),.own (aD ((L.take j).foldl (cB cs l) [])),.own (Ir (L.take j) s),v6,v7,v8,v9]∧Pl9 cs l ((L.take j).foldl (cB cs l) []) (L.take j) s) rfl (cU (bL (aF rfl (aF rfl (aF rfl rfl))) rfl w1)) ⟨λ_=>0,_,_,_,_,rfl,λk hk=>by rw[N7]at hk;cases hk⟩ ?_ ?_
 ·rintro j x env hx ⟨s,v6,v7,v8,v9,rfl,hP⟩
  rw[C8]at hx
  obtain⟨k,hk,rfl⟩:=iT hx
  have hkL:k∈L:=J6 hk
  have hj:=(B8.mp hk).1
  obtain⟨k0,k1⟩:=hin k hkL
  obtain⟨kr,kl⟩:=(w4 k).mp hkL
  have hkt:k∉L.take j:=λz=>by
   obtain⟨i,hi,e⟩:=S9.mp z
   have:=(N1.mp w2)
   rw[G1]at this
   refine this i j (by omega) hj (by omega) ?_
   rw[e,(B8.mp hk).2]
  have JK:∀m∈(at_ cs k.toNat).needs,m∈l∨m∈L.take j:=λm hm=>by
   by_cases c:m∈l
   ·exact .inl c
   ·obtain⟨m0,m1,m2⟩:=Uj hg h8 hT k0 k1 kl hm c
    refine .inr (WL w5 hk ((w4 m).mpr ⟨.step kr (by rw[Ms (by omega)];exact hm),c⟩) (by omega) λz=>?_)
    omega
  generalize hC:(L.take j).foldl (cB cs l) []=C at *
  have hCl:C.length≤60:=by
   have:=vN (cs:=cs) (l:=l) (L.take j) []
   rw[hC,J1]at this
   simp at this
   omega
  refine⟨by walk_at "lt", ?_⟩
  refine dH (bM (aP (aP rfl rfl (Mq k0 k1)) rfl (pM _)) rfl) (by exact Nat.le_of_ble_eq_true rfl) ?_
  obtain⟨kk,rfl⟩:∃kk:Nat,k=kk:=⟨k.toNat,by omega⟩
  rw[C5]at *
  obtain⟨g1,g2,g3⟩:=hg.2 kk (by omega)
  have Um:∀m,m∈cP cs kn kk↔m∈(at_ cs kk).needs∧m∉l:=λm=>by
   unfold cP
   rw[F6]
   refine and_congr_right λhm=>?_
   obtain⟨a0,a1⟩:=g1 m hm
   have:=rM hT (k:=m.toNat) (by omega)
   rw[P4 a0]at this
   rw[decide_eq_true_iff]
   exact this
  have hwl:(cP cs kn kk).length≤4:=E5 (K3 _ _) g3
  have cY:=bV (fi:=cM (bI 3 cW (aC (aB 0) (aC (aB 3) (aC (aB 6) aM))))) (fr:=[5]) (fc:=qT) (fe:=cC (f2 Vr (aB 1) (aB 0))) (e:=rE [.fro (bA cs),.fro (aD l),.fro (aD gs),.fro (aD kn),.own (aD C),.own (Ir (L.take j) s),.fro (.int (kk:Int)),.own (.int (at_ cs kk).bG),v8,v9]) (ms:=cP cs kn kk) (λ_=>true) s
   (cU (bL (aF rfl (aF rfl (aF rfl rfl))) rfl (By (by omega) g3 λm hm=>by have:=g1 m hm;omega))) (by omega) (λm hm=>rfl) λm hm _=>by
    obtain⟨n1,n2⟩:=(Um m).mp hm
    exact bM (aP rfl rfl (WK ((JK m n1).resolve_left n2))) rfl
  rw[O1.mpr λ_ _=>rfl]at cY
  refine dH (aP cY rfl (Qv _ _)) (by exact Nat.le_of_ble_eq_true rfl) ?_
  generalize hst:(if(cP cs kn kk).map s=[]then(0:Int)else wH ((cP cs kn kk).map s))=start
  have hsm:∀m∈(at_ cs kk).needs,m∉l→0≤s m∧s m<(C.length:Int):=λm hm uz=>by
   obtain⟨a,b,_⟩:=hP m ((JK m hm).resolve_left uz)
   exact⟨a,b⟩
  have vf:0≤start∧start≤(C.length:Int)∧(∀m∈(at_ cs kk).needs,m∉l→s m≤start)∧(start=0∨∃m∈(at_ cs kk).needs,m∉l∧s m=start):=by
   by_cases c:(cP cs kn kk).map s=[]
   ·rw[if_pos c]at hst
    refine⟨by omega,by omega,λm hm uz=>?_,.inl hst.symm⟩
    have:s m∈(cP cs kn kk).map s:=E2.mpr ⟨m,(Um m).mpr ⟨hm,uz⟩,rfl⟩
    rw[c]at this
    cases this
   ·rw[if_neg c]at hst
    obtain⟨m1,m2⟩:=gP (ns:=(cP cs kn kk).map s) (X0.mpr c)
    rw[hst]at m1 m2
    obtain⟨m,hm,e⟩:=E2.mp m1
    obtain⟨n1,n2⟩:=(Um m).mp hm
    have b:=hsm m n1 n2
    refine⟨by omega,by omega,λx hx hxl=>m2 _ (E2.mpr ⟨x,(Um x).mpr ⟨hx,hxl⟩,rfl⟩),.inr ⟨m,n1,n2,e⟩⟩
  obtain⟨s0,s1,s2,s3⟩:=vf
  obtain⟨place,f1,b1,b4,b2,b3⟩:=JB (C:=C) (p:=(at_ cs kk).bG) s0 s1 (by omega)
  refine dH (bL (aF rfl (aF rfl (aF rfl rfl))) rfl f1) (by exact Nat.le_of_ble_eq_true rfl) ?_
  obtain⟨r1,r2,r3⟩:=WD (p:=(at_ cs kk).bG) hP k0 k1 kl hkt (by rw[C5];exact JK) (by rw[C5]) s0 (by rw[C5];exact s2) (by rw[C5];exact s3) b1 b2 b3 b4
  have ht:L.take (j+1)=L.take j++[(kk:Int)]:=by rw[L3,hk];rfl
  have Uo:(L.take (j+1)).foldl (cB cs l) []=cB cs l C kk:=by rw[ht,S8,hC];rfl
  have put:∀(C':List Int) , dX 5 fH (aB 6) (aB 9) [.fro (bA cs),.fro (aD l),.fro (aD gs),.fro (aD kn),.own (aD C'),.own (Ir (L.take j) s),.fro (.int (kk:Int)),.own (.int (at_ cs kk).bG),.own (.int start),.own (.int place)]=.next [.fro (bA cs),.fro (aD l),.fro (aD gs),.fro (aD kn),.own (aD C'),.own (Ir (L.take j++[(kk:Int)]) λx=>if x=kk then place else s x),.fro (.int (kk:Int)),.own (.int (at_ cs kk).bG),.own (.int start),.own (.int place)]:=λC'=>by
   have:=VJ (i:=5) (f:=aB 6) (f':=aB 9) (env:=[.fro (bA cs),.fro (aD l),.fro (aD gs),.fro (aD kn),.own (aD C'),.own (Ir (L.take j) s),.fro (.int (kk:Int)),.own (.int (at_ cs kk).bG),.own (.int start),.own (.int place)]) (ks:=(L.take j).map D8) (ds:=(L.take j).map λk=>.int (s k)) (kd:=.int kk) (d:=.int place) (k:=D8 (kk:Int)) rfl rfl rfl rfl (Ly hkt) rfl (by rw[B5,J1];omega)
   rw[this]
   have e:D.dk ((L.take j).map D8++[D8 (kk:Int)]) (((L.take j).map λk=>D.int (s k))++[.int place])=Ir (L.take j++[(kk:Int)]) λx=>if x=kk then place else s x:=by
    unfold Ir
    rw[O2,O2]
    congr 1
    congr 1
    ·refine L4 λx hx=>?_
     dsimp only
     rw[if_neg (λz:x=(kk:Int)=>hkt (by rw[←z];exact hx))]
    ·show _=[D.int (if(kk:Int)=kk then place else s kk)]
     rw[if_pos rfl]
   rw[e]
   rfl
  apply uf (b:=decide (place=(C.length:Int)))
  ·exact bU (aP rfl (cR (aF rfl rfl) (fY C)) (pK _ _))
  ·intro hb
   have hb:=of_decide_eq_true hb
   refine ZQ (ds:=C.map D.int) (d:=.int (at_ cs kk).bG) rfl (bM rfl rfl) (by rw[B5];omega) ?_
   rw[gK]
   refine ZX (put (C++[(at_ cs kk).bG])) ⟨_,rfl,λx=>if x=kk then place else s x,.fro (.int (kk:Int)),.own (.int (at_ cs kk).bG),.own (.int start),.own (.int place),?_,?_⟩
   ·rw[Uo,r1 hb,ht]
   ·rw[Uo,ht];exact r3
  ·intro hb
   have hb:=of_decide_eq_false hb
   apply VH
   refine ZX (put C) ⟨_,rfl,λx=>if x=kk then place else s x,.fro (.int (kk:Int)),.own (.int (at_ cs kk).bG),.own (.int start),.own (.int place),?_,?_⟩
   ·rw[Uo,r2 hb,ht]
   ·rw[Uo,ht];exact r3
 ·rintro env ⟨s,v6,v7,v8,v9,rfl,hP⟩
  refine tX rfl ⟨_,rfl,?_⟩
  rw[B5,E1 (B4 _)]
theorem Mv{cs:List cX}{ks:List Int}(p:Int)(hg:Good cs):∃r,cJ [bA cs,cV ks,.int p]=some (aD r)∧r.Pairwise (·<·)∧r.length≤cs.length∧∀x,x∈r↔(0≤x∧x<(cs.length:Int)∧(at_ cs x.toNat).bG=p∧x∉ks)∧∀m∈(at_ cs x.toNat).needs,m∈ks∨m∈r:=by
  suffices h:∃d,cJ [bA cs,cV ks,.int p]=some d∧∃r,d=aD r∧r.Pairwise (·<·)∧r.length≤cs.length∧∀x,x∈r↔(0≤x∧x<(cs.length:Int)∧(at_ cs x.toNat).bG=p∧x∉ks)∧∀m∈(at_ cs x.toNat).needs,m∈ks∨m∈r by
    obtain⟨d,h1,r,rfl,h2⟩:=h
    exact⟨r,h1,h2⟩
  have HW:=hg.1
  refine eO rfl ?_
  unfold xQ
  refine dH (d:=cV []) rfl (by exact Nat.le_of_ble_eq_true rfl) ?_
  refine vD (n:=cs.length) (λn env=>∃(r:List Int)(v:SD),env=[.fro (bA cs),.fro (cV ks),.fro (.int p),.own (cV r),v]∧r.Pairwise (·<·)∧r.length≤n∧∀x,x∈r↔(0≤x∧x<(n:Int)∧(at_ cs x.toNat).bG=p∧x∉ks)∧∀m∈(at_ cs x.toNat).needs,m∈ks∨m∈r) (nA (aF (cR (aF rfl rfl) (pN _)) rfl) (by omega)) ⟨[],_,rfl,.nil,B4 _,λx=>⟨λz=>(by cases z),λz=>absurd z.1.2.1 (by have:=z.1.1;omega)⟩⟩ ?_ ?_
  · rintro k env hk ⟨r,v,rfl,h1,h2,h3⟩
    refine⟨by walk_at "lt", ?_⟩
    obtain⟨g1,g2,g3⟩:=hg.2 k hk
    have hc:=pL (cs:=cs) hk
    have rlt:∀z∈r,z<(k:Int):=λz hz=>((h3 z).mp hz).1.2.1
    have keep:(¬(((at_ cs k).bG=p∧(k:Int)∉ks)∧∀m∈(at_ cs k).needs,m∈ks∨m∈r))→∀x,x∈r↔(0≤x∧x<((k+1:Nat):Int)∧(at_ cs x.toNat).bG=p∧x∉ks)∧∀m∈(at_ cs x.toNat).needs,m∈ks∨m∈r:=λhb x=>by
      constructor
      · intro z1
        obtain⟨⟨a1,a2,a3⟩,a4⟩:=(h3 x).mp z1
        exact⟨⟨a1,by omega,a3⟩,a4⟩
      · rintro⟨⟨a1,a2,a3⟩,a4⟩
        rcases Y1 (show x≤(k:Int) by omega)with w | w
        · exact(h3 x).mpr ⟨⟨a1,w,a3⟩,a4⟩
        · rw[w,C5]at a3 a4
          exact absurd ⟨a3,a4⟩ hb
    apply vC (b:=!decide ((k:Int)∈ks)&&decide ((at_ cs k).bG=p))
    · exact mZ (bU (aP rfl rfl (jF true k ks))) (bU (aP (aP (aP rfl rfl hc) rfl (pM _)) rfl (pK _ _)))
    · intro hb
      have hb1:(at_ cs k).bG=p∧(k:Int)∉ks:=by
        have:(k:Int)∉ks∧(at_ cs k).bG=p:=by simpa using hb
        exact⟨this.2,this.1⟩
      have cY:=bV (fi:=cM (f2 dD (f2 dD (aB 0) (aB 4)) (fC (.int 3)))) (fr:=[1,3]) (fc:=pH (fB (f2 (iB true) (aB 0) (aB 1))) (fB (f2 (iB true) (aB 0) (aB 2)))) (fe:=cC (aB 0)) (e:=rE [.fro (bA cs),.fro (cV ks),.fro (.int p),.own (cV r),.fro (.int (k:Int))]) (ms:=(at_ cs k).needs) (λm=>!decide (m∈ks)&&!decide (m∈r)) id
        (lE (aP (aP rfl rfl hc) rfl (mF _))) (by omega) (λm hm=>mZ (bU (aP rfl rfl (jF true m ks))) (bU (aP rfl rfl (jF true m r)))) λm hm _=>bM rfl rfl
      rw[M8]at cY
      have aAJ:(at_ cs k).needs.filter (λm=>!decide (m∈ks)&&!decide (m∈r))=[]↔∀m∈(at_ cs k).needs,m∈ks∨m∈r:=by
        rw[J9]
        refine forall_congr' λm=>forall_congr' λ_=>?_
        by_cases c1:m∈ks<;>by_cases c2:m∈r<;>simp[c1,c2]
      apply vC (b:=decide ((at_ cs k).needs.filter (λm=>!decide (m∈ks)&&!decide (m∈r))=[]))
      · exact bU (aP cY (eY (ds:=[]) rfl (by exact Nat.le_of_ble_eq_true rfl)) (Hy _))
      · intro hb
        have hb:=aAJ.mp (of_decide_eq_true hb)
        have hnr:(k:Int)∉r:=λz=>by
          have:=rlt _ z
          omega
        have e:oV r k=r++[(k:Int)]:=by unfold oV;rw[if_neg hnr]
        have hp:=Es (i:=3) (f:=aB 4) (f':=fC (.bl true)) (env:=[.fro (bA cs),.fro (cV ks),.fro (.int p),.own (cV r),.fro (.int (k:Int))]) (ks:=r) (k:=k) rfl rfl rfl (by omega)
        rw[e]at hp
        refine⟨_,hp,r++[(k:Int)],_,rfl,?_,by rw[C7];simp;omega,λz=>?_⟩
        · refine R5.mpr ⟨h1,by simp,λz hz w hw=>?_⟩
          rw[C6.mp hw]
          exact rlt z hz
        · rw[D9,C6]
          constructor
          · rintro(z1 | z1)
            · obtain⟨⟨a1,a2,a3⟩,a4⟩:=(h3 z).mp z1
              exact⟨⟨a1,by omega,a3⟩,λm hm=>(a4 m hm).imp id λq=>F2 _ q⟩
            · rw[z1,C5]
              exact⟨⟨by omega,by omega,hb1⟩,λm hm=>(hb m hm).imp id λq=>F2 _ q⟩
          · rintro⟨⟨a1,a2,a3⟩,a4⟩
            rcases Y1 (show z≤(k:Int) by omega)with w | w
            · refine .inl ((h3 z).mpr ⟨⟨a1,w,a3⟩,λm hm=>(a4 m hm).imp id λq=>?_⟩)
              rcases D9.mp q with q | q
              · exact q
              · exfalso
                have b:=(hg.2 z.toNat (by omega)).1 m hm
                rw[C6.mp q]at b
                omega
            · exact .inr w
      · intro hb
        apply Av
        exact⟨_,rfl,r,_,rfl,h1,by omega,keep λz=>by
          rw[decide_eq_true (aAJ.mpr z.2)]at hb
          cases hb⟩
    · intro hb
      apply Av
      exact⟨_,rfl,r,_,rfl,h1,by omega,keep λz=>by
        rw[decide_eq_true z.1.1,decide_eq_false z.1.2]at hb
        cases hb⟩
  · rintro env ⟨r,v,rfl,h1,h2,h3⟩
    exact mC (cR (aF rfl rfl) (Bb r)) ⟨_,rfl,r,rfl,h1,h2,h3⟩
theorem JL{cs:List cX}{ks r:List Int}{p:Int}(hg:Good cs)(h:∀x,x∈r↔(0≤x∧x<(cs.length:Int)∧(at_ cs x.toNat).bG=p∧x∉ks)∧∀m∈(at_ cs x.toNat).needs,m∈ks∨m∈r)(x:Int):(x∈ks∨x∈r)↔Nx cs p (λy=>y∈ks) x:=by
 constructor
 ·have:∀n:Nat,∀x∈r,x.toNat=n→Nx cs p (λy=>y∈ks) x:=by
   intro n
   induction n using R6 with
   | ind n ih=>
    intro x hx e
    obtain⟨⟨a0,a1,a2,a3⟩,a4⟩:=(h x).mp hx
    refine .new ⟨a0,a1,a2⟩ λm hm=>?_
    rcases a4 m hm with z | z
    ·exact .old z
    ·have:=(hg.2 x.toNat (by omega)).1 m hm
     exact ih m.toNat (by omega) m z rfl
  rintro(z | z)
  ·exact .old z
  ·exact this _ x z rfl
 ·intro hx
  induction hx with
  | old z=>exact .inl z
  | new a b ih=>
   rename_i k
   by_cases c:k∈ks
   ·exact .inl c
   ·exact .inr ((h k).mpr ⟨⟨a.1,a.2.1,a.2.2,c⟩,ih⟩)
theorem JM{cs:List cX}{p:Int}{D D':Int→Prop}(h:∀x,D x↔D' x):Nx cs p D=Nx cs p D':=by
 have:D=D':=funext λx=>propext (h x)
 rw[this]
theorem Mw{cs:List cX}{l C ks r:List Int}{p:Int}(hg:Good cs)(hk:∀x,x∈ks↔Dn cs l C x)(h:∀x,x∈r↔(0≤x∧x<(cs.length:Int)∧(at_ cs x.toNat).bG=p∧x∉ks)∧∀m∈(at_ cs x.toNat).needs,m∈ks∨m∈r)(x:Int):(x∈ks∨x∈r)↔Dn cs l (C++[p]) x:=by
 rw[JL hg h x,sO,JM hk]
theorem JN{i:Nat}{gb g:GS}{env:EN}{Pr:SR→Prop}{fi:FA}{xs:List D}(I:Nat→EN→Prop)(h:fi (rE env)=some xs)(h0:I 0 env)
  (st:∀(k:Nat) x env,xs[k]?=some x→I k env→i<env.length∧Qs (λr=>∃env',r=.next env'∧I (k+1) env') (gb (env.set i (.fro x)))) (k:∀env',I xs.length env'→Qs Pr (g env')):Qs Pr (aU (jM i fi gb) g env):=by
 obtain⟨env',h1,h2⟩:=lA (i:=i) (g:=gb) I xs env 0 h0 λk x e hx hi=>by
  rw[J7]at hi ⊢
  exact st k x e hx hi
 rw[J7]at h2
 rw[jD ((Lp h).trans h1)]
 exact k env' h2
theorem JP{fs:FA}{e:DE}{i j:Int}(h:fs e=some [.int i,.int j,.int (-1)])(h1:-100000≤i)(h2:i≤100000)(h3:-100000≤j)(h4:j≤100000):Li fs e=some (uU i (i-j).toNat):=by
 unfold Li
 rw[h]
 dsimp only[C3]
 rw[if_pos ⟨decide_eq_true ⟨h1,h2⟩,decide_eq_true ⟨h3,h4⟩,rfl⟩]
theorem Xe{hi:Int}{n k:Nat}{x:D}(h:(uU hi n)[k]?=some x):k<n∧x=.int (hi-k):=by
 unfold uU at h
 rw[C8]at h
 obtain⟨j,hj,e⟩:=iT h
 obtain⟨h1,h2⟩:=B8.mp hj
 rw[F3]at h1
 rw[X7]at h2
 subst h2
 exact⟨h1,e.symm⟩
theorem Xf(hi:Int)(n:Nat):(uU hi n).length=n:=by unfold uU;rw[B5,F3]
theorem Qw{cs:List cX}{ks gs:List Int}(hg:Good cs)(hgs:∀x∈gs,0≤x∧x<(cs.length:Int))(hgl:gs.length≤200):∃W,mG [bA cs,cV ks,aD gs]=some (aD W)∧W.length≤60∧∀k,k∈W↔Reach (mL cs) gs k∧k∉ks:=by
 suffices h:∃d,mG [bA cs,cV ks,aD gs]=some d∧∃W,d=aD W∧W.length≤60∧∀k,k∈W↔Reach (mL cs) gs k∧k∉ks by
  obtain⟨d,h1,W,rfl,h2⟩:=h
  exact⟨W,h1,h2⟩
 have HW:=hg.1
 have hnl:(mL cs).length=cs.length:=by unfold mL;rw[B5]
 have hnd:=yQ hg
 have rin:∀x,Reach (mL cs) gs x→0≤x∧x<(cs.length:Int):=λx hx=>by
  have:=pD hnd (λn hn=>by rw[hnl];exact hgs n hn) hx
  rw[hnl]at this
  exact this
 obtain⟨k0,m1,m2,m3,m4⟩:=Ez (l:=gs) (by omega)
 refine eO rfl ?_
 unfold Bf
 refine dH (bL (aF rfl rfl) rfl m1) (by exact Nat.le_of_ble_eq_true rfl) ?_
 refine JN (xs:=uU ((cs.length:Int)-1) cs.length) (λj env=>∃(ms:List Int)(v4 v5:SD),env=[.fro (bA cs),.fro (cV ks),.fro (aD gs),.own (cV ms),v4,v5]∧ms.Nodup∧(∀x∈ms,Reach (mL cs) gs x)∧(∀x∈gs,x∈ms)∧∀x∈ms,(cs.length:Int)-1-j<x→∀m∈(at_ cs x.toNat).needs,m∈ms) ?_ ⟨k0,_,_,rfl,m2,λx hx=>.base ((m3 x).mp hx),λx hx=>(m3 x).mpr hx,λx hx z=>?_⟩ ?_ ?_
 ·have e:((cs.length:Int)-1 - -1).toNat=cs.length:=by omega
  have:=JP (fs:=aC (f2 zU (fL jV (aC (aB 0) aM)) (fC (.int 1))) (aC (Ou (fC (.int 1))) (aC (Ou (fC (.int 1))) aM))) (e:=rE [.fro (bA cs),.fro (cV ks),.fro (aD gs),.own (cV k0),.no,.no]) (i:=(cs.length:Int)-1) (j:=-1) (aF (aP (cR (aF rfl rfl) (pN _)) rfl (qZ _ _)) (aF (Hv rfl) (aF (Hv rfl) rfl))) (by omega) (by omega) (by omega) (by omega)
  rw[e]at this
  exact this
 ·have:=rin x (.base ((m3 x).mp hx))
  omega
 ·rintro j x env hx ⟨ms,v4,v5,rfl,n1,n2,n3,n4⟩
  obtain⟨hj,rfl⟩:=Xe hx
  refine⟨by walk_at "lt", ?_⟩
  obtain⟨q,hq⟩:∃q:Nat,(cs.length:Int)-1-j=q:=⟨((cs.length:Int)-1-j).toNat,by omega⟩
  rw[hq]
  have hqn:q<cs.length:=by omega
  obtain⟨g1,g2,g3⟩:=hg.2 q hqn
  have hc:=pL (cs:=cs) hqn
  apply vC (b:=decide ((q:Int)∈ms))
  ·exact bU (aP rfl rfl (jF false q ms))
  ·intro hb
   have hb:=of_decide_eq_true hb
   have few:∀Up:List Int,Up.Nodup→(∀x∈Up,Reach (mL cs) gs x)→Up.length≤cs.length:=λUp a b=>oJ _ _ a λx hx=>rin x (b x hx)
   refine FW (xs:=(at_ cs q).needs.map D.int) (λi env=>∃(Up:List Int)(v5:SD),env=[.fro (bA cs),.fro (cV ks),.fro (aD gs),.own (cV Up),.fro (.int q),v5]∧Up.Nodup∧(∀x,x∈Up↔x∈ms∨x∈(at_ cs q).needs.take i)) rfl (lE (aP (aP rfl rfl hc) rfl (mF _))) ⟨ms,_,rfl,n1,λx=>by rw[N7];simp⟩ ?_ ?_
   ·rintro i x env hx ⟨Up,w5,rfl,d1,d2⟩
    rw[C8]at hx
    obtain⟨m,hm,rfl⟩:=iT hx
    have hlen:=few Up d1 λx hx=>((d2 x).mp hx).elim (n2 x) λz=>.step (n2 q hb) (by rw[Ms (by omega),C5];exact P0 z)
    refine⟨by walk_at "lt", ?_⟩
    refine⟨_,Es (ks:=Up) (k:=m) rfl rfl rfl (by omega),oV Up m,_,rfl,tY d1,λx=>?_⟩
    rw[Ax,d2,L3,hm]
    simp[or_assoc]
   ·rintro env ⟨Up,w5,rfl,d1,d2⟩
    rw[B5,E1 (B4 _)]at d2
    refine⟨_,rfl,Up,_,_,rfl,d1,λx hx=>((d2 x).mp hx).elim (n2 x) λz=>.step (n2 q hb) (by rw[Ms (by omega),C5];exact z),λx hx=>(d2 x).mpr (.inl (n3 x hx)),λx hx hlt m hm=>?_⟩
    rcases(d2 x).mp hx with z | z
    ·by_cases c:x=(q:Int)
     ·rw[c,C5]at hm
      exact(d2 m).mpr (.inr hm)
     ·exact(d2 m).mpr (.inl (n4 x z (by omega) m hm))
    ·have:=g1 x z
     omega
  ·intro hb
   have hb:=of_decide_eq_false hb
   apply Av
   refine⟨_,rfl,ms,_,_,rfl,n1,n2,n3,λx hx hlt m hm=>?_⟩
   exact n4 x hx (by
    have:x≠(q:Int):=λz=>hb (z▸hx)
    omega) m hm
 ·rintro env ⟨ms,v4,v5,rfl,n1,n2,n3,n4⟩
  rw[Xf]at n4
  have all:∀x,Reach (mL cs) gs x→x∈ms:=λx hx=>by
   induction hx with
   | base z=>exact n3 _ z
   | step hr hm ih=>
    have:=rin _ hr
    exact n4 _ ih (by omega) _ (by rw[Ms (by omega)]at hm;exact hm)
  have cY:=bV (fi:=jL (aC (fL jV (aC (aB 0) aM)) aM)) (fr:=[3,1]) (fc:=pH (fB (f2 (iB false) (aB 0) (aB 1))) (fB (f2 (iB true) (aB 0) (aB 2)))) (fe:=cC (aB 0)) (e:=rE [.fro (bA cs),.fro (cV ks),.fro (aD gs),.own (cV ms),v4,v5]) (ms:=(D6 cs.length).map λk=>((k:Nat):Int)) (λm=>decide (m∈ms)&&!decide (m∈ks)) id
   (by
    rw[nA (n:=cs.length) (aF (cR (aF rfl rfl) (pN _)) rfl) (by omega)]
    unfold dR
    rw[J0]
    refine congrArg some (L4 λk _=>?_)
    show D.int (0+(k:Int))=D.int (k:Int)
    rw[X8]) (by rw[B5,F3];omega) (λm hm=>mZ (bU (aP rfl rfl (jF false m ms))) (bU (aP rfl rfl (jF true m ks)))) λm hm _=>bM rfl rfl
  rw[M8]at cY
  refine mC cY ⟨_,rfl,_,rfl,E5 (K3 _ _) (by rw[B5,F3];omega),λk=>?_⟩
  rw[F6,E2]
  constructor
  ·rintro⟨_,z⟩
   have z:k∈ms∧k∉ks:=by simpa using z
   exact⟨n2 k z.1,z.2⟩
  ·rintro⟨z1,z2⟩
   have:=rin k z1
   refine⟨⟨k.toNat,J8.mpr (by omega),by omega⟩,?_⟩
   simp[all k z1,z2]
theorem Uq(ks:List Int):wJ [cV ks]=some (cV ks):=by
 unfold wJ cV
 dsimp only
 rw[if_pos (Lr λd h=>by obtain⟨x,_,rfl⟩:=E2.mp h;rfl)]
theorem JQ{cs:List cX}{l l' kn KN:List Int}(hg:Good cs)(hT:nH cs l kn)(hT':nH cs l' KN)(e:∀x,x∈l↔x∈l'):kn=KN:=by
 have key:∀k:Nat,k<cs.length→kn.getD k 0=KN.getD k 0:=by
  intro k
  induction k using R6 with
  | ind k ih=>
   intro hk
   rw[hT.2 k hk,hT'.2 k hk,Ca e]
   refine pB λm hm=>?_
   have:=(hg.2 k hk).1 m hm
   exact ih m.toNat (by omega) (by omega)
 refine Q7 (by rw[hT.1,hT'.1]) λi h1 h2=>?_
 have:=key i (by rw[←hT.1];exact h1)
 rw[B3,B3,B0 h1,B0 h2]at this
 exact this
theorem Ce{cs:List cX}{l C ks r:List Int}{p:Int}{i i':Nat}{Pr:SR→Prop}{v0:SD}(F:List Int→SD→EN)(hg:Good cs)(hl:∀x∈l,0≤x∧x<(cs.length:Int))(hk:∀x,x∈ks↔Dn cs l C x)(hn:ks.Nodup)
  (hr:∀x,x∈r↔(0≤x∧x<(cs.length:Int)∧(at_ cs x.toNat).bG=p∧x∉ks)∧∀m∈(at_ cs x.toNat).needs,m∈ks∨m∈r)
  (h1:∀ks v,i<(F ks v).length) (h2:∀ks v d,(F ks v).set i (.fro d)=F ks (.fro d)) (h3:∀ks v,(F ks v)[i']?=some (.own (cV ks))) (h4:∀ks k,aB i (rE (F ks (.fro (.int k))))=some (.int k)) (h5:∀ks v ks',(F ks v).set i' (.own (cV ks'))=F ks' v)
  (k:∀ks' v,ks'.Nodup→(∀x,x∈ks'↔Dn cs l (C++[p]) x)→Pr (.next (F ks' v))):Qs Pr (qC i (dX i' fH (aB i) (fC (.bl true))) (r.map D.int) (F ks v0)):=by
 have HW:=hg.1
 obtain⟨env',e1,ks',v,rfl,d1,d2⟩:=lA (i:=i) (g:=dX i' fH (aB i) (fC (.bl true))) (λj env=>∃(ks':List Int)(v:SD),env=F ks' v∧ks'.Nodup∧∀x,x∈ks'↔x∈ks∨x∈r.take j) (r.map D.int) (F ks v0) 0 ⟨ks,v0,rfl,hn,λx=>by rw[N7];simp⟩ (by
  rintro j x env hx ⟨ks',v,rfl,d1,d2⟩
  rw[J7]at d2 ⊢
  rw[C8]at hx
  obtain⟨m,hm,rfl⟩:=iT hx
  have hlen:ks'.length≤cs.length:=oJ _ _ d1 λx hx=>by
   rcases(d2 x).mp hx with z | z
   ·exact aAH hl ((hk x).mp z)
   ·have:=((hr x).mp (P0 z)).1
    exact⟨this.1,this.2.1⟩
  refine⟨h1 ks' v,?_⟩
  rw[h2]
  refine⟨_,Es (ks:=ks') (k:=m) (h3 _ _) (h4 _ _) rfl (by omega),oV ks' m,.fro (.int m),h5 _ _ _,tY d1,λx=>?_⟩
  rw[Ax,d2,L3,hm]
  simp[or_assoc])
 rw[J7,B5,E1 (B4 _)]at d2
 rw[e1]
 exact k ks' v d1 λx=>(d2 x).trans (Mw hg hk hr x)
theorem Xg{cs:List cX}{l C k0 W:List Int}(hg:Good cs)(hl:∀x∈l,0≤x∧x<(cs.length:Int))(hk0:∀x,x∈k0↔x∈l)(hn0:k0.Nodup)(hWl:W.length≤60)(hC:C.length≤60)
  (each:∀i,i<C.length→∃k∈W,¬Dn cs l (C.take i) k∧Dn cs l (C.take (i+1)) k) (done:∀k∈W,Dn cs l C k):mJ [aD C,bA cs,cV k0,aD W]=some (.bl true):=by
 suffices h:∃d,mJ [aD C,bA cs,cV k0,aD W]=some d∧d=.bl true by
  obtain⟨d,h1,rfl⟩:=h
  exact h1
 have HW:=hg.1
 refine eO rfl ?_
 unfold Bk
 refine dH (cR (aF rfl rfl) (Uq k0)) (by exact Nat.le_of_ble_eq_true rfl) ?_
 refine Lx (xs:=C.map D.int) (λj env=>∃(ks:List Int)(v5 v6 v7:SD),env=[.fro (aD C),.fro (bA cs),.fro (cV k0),.fro (aD W),.own (cV ks),v5,v6,v7]∧ks.Nodup∧∀x,x∈ks↔Dn cs l (C.take j) x) rfl (cU rfl) ⟨k0,_,_,_,rfl,hn0,λx=>by rw[N7];exact hk0 x⟩ ?_ ?_
 ·rintro j x env hx ⟨ks,v5,v6,v7,rfl,d1,d2⟩
  rw[C8]at hx
  obtain⟨p,hp,rfl⟩:=iT hx
  have hj:=(B8.mp hp).1
  have ht:C.take (j+1)=C.take j++[p]:=by rw[L3,hp];rfl
  obtain⟨r,r1,r2,r3,r4⟩:=Mv (cs:=cs) (ks:=ks) p hg
  refine⟨by walk_at "lt", ?_⟩
  refine dH (bL (aF rfl (aF rfl (aF rfl rfl))) rfl r1) (by exact Nat.le_of_ble_eq_true rfl) ?_
  have cY:=bV (fi:=cM (aB 6)) (fr:=[3]) (fc:=fB (f2 (wy false) (aB 0) (aB 1))) (fe:=cC (aB 0)) (e:=rE [.fro (aD C),.fro (bA cs),.fro (cV k0),.fro (aD W),.own (cV ks),.fro (.int p),.own (aD r),v7]) (ms:=r) (λm=>decide (m∈W)) id (cU rfl) (by omega) (λm hm=>bU (aP rfl rfl (FZ false m W))) λm hm _=>bM rfl rfl
  rw[M8]at cY
  obtain⟨k,k1,k2,k3⟩:=each j hj
  rw[ht]at k3
  have hkr:k∈r:=((Mw hg d2 r4 k).mpr k3).resolve_left λz=>k2 ((d2 k).mp z)
  refine FN (b:=decide (r.filter (λm=>decide (m∈W))=[])) (bU (aP cY (eY (ds:=[]) rfl (by exact Nat.le_of_ble_eq_true rfl)) (Hy _))) (decide_eq_false λz=>?_) ?_
  ·exact absurd (decide_eq_true k1) (J9.mp z k hkr)
  apply VH
  rw[Hs (qD:=[.fro (aD C),.fro (bA cs),.fro (cV k0),.fro (aD W),.own (cV ks),.fro (.int p),.fro (aD r),v7]) rfl (cU (ds:=r.map D.int) rfl)]
  refine Ce (r:=r) (p:=p) (l:=l) (C:=C.take j) (ks:=ks) (v0:=v7) (λks v=>[.fro (aD C),.fro (bA cs),.fro (cV k0),.fro (aD W),.own (cV ks),.fro (.int p),.fro (aD r),v]) hg hl d2 d1 r4 (λ_ _=>by walk_at "lt") (λ_ _ _=>rfl) (λ_ _=>rfl) (λ_ _=>rfl) (λ_ _ _=>rfl) λks' v n1 n2=>?_
  exact⟨_,rfl,ks',_,_,_,rfl,n1,λx=>by rw[ht];exact n2 x⟩
 ·rintro env ⟨ks,v5,v6,v7,rfl,d1,d2⟩
  rw[B5,E1 (B4 _)]at d2
  have cY:=bV (fi:=cM (aB 3)) (fr:=[4]) (fc:=fB (f2 (iB true) (aB 0) (aB 1))) (fe:=cC (aB 0)) (e:=rE [.fro (aD C),.fro (bA cs),.fro (cV k0),.fro (aD W),.own (cV ks),v5,v6,v7]) (ms:=W) (λm=>!decide (m∈ks)) id (cU rfl) (by omega) (λm hm=>bU (aP rfl rfl (jF true m ks))) λm hm _=>bM rfl rfl
  rw[M8]at cY
  have e:W.filter (λm=>!decide (m∈ks))=[]:=J9.mpr λm hm=>by
   have:=(d2 m).mpr (done m hm)
   simp[this]
  refine mC (aP cY (eY (ds:=[]) rfl (by exact Nat.le_of_ble_eq_true rfl)) (Hy _)) ⟨_,rfl,?_⟩
  rw[decide_eq_true e]
theorem vg{cs:List cX}{l kn k0 W L:List Int}(hg:Good cs)(h8:P8 cs)(hl:∀x∈l,0≤x∧x<(cs.length:Int))(hT:nH cs l kn)(hk0:∀x,x∈k0↔x∈l)(hn0:k0.Nodup)(hWl:W.length≤60)(hW:uy cs l W)(hL:∀k,k∈L↔k∈W)(hLl:L.length≤60)(hs:L.Pairwise (λx y=>fk cs kn x≤fk cs kn y)) :
  vK [bA cs,cV k0,aD W]=some (aD (L.foldl (cB cs l) []))∧∃a,ZW cs l W (fk cs kn) a (L.foldl (cB cs l) [])∧∀k∈W,fk cs kn k<a:=by
 suffices h:∃d,vK [bA cs,cV k0,aD W]=some d∧(d=aD (L.foldl (cB cs l) [])∧∃a,ZW cs l W (fk cs kn) a (L.foldl (cB cs l) [])∧∀k∈W,fk cs kn k<a) by
  obtain⟨d,h1,rfl,h2⟩:=h
  exact⟨h1,h2⟩
 have HW:=hg.1
 obtain⟨KN,o1,hT'⟩:=ux (cs:=cs) (ks:=k0) hg
 obtain rfl:=JQ hg hT hT' λx=>(hk0 x).symm
 have hkl:=hT.1
 have win:∀k∈W,0≤k∧k<(cs.length:Int):=λk hk=>⟨(hW k hk).1,(hW k hk).2.1⟩
 have aAK:∀k∈W,0<sI kn k:=λk hk=>by
  obtain⟨a0,a1,a2,_⟩:=hW k hk
  unfold sI
  refine(rM hT (k:=k.toNat) (by omega)).mpr ?_
  rw[P4 a0]
  exact a2
 have wp:∀k∈W,0≤(at_ cs k.toNat).bG∧(at_ cs k.toNat).bG<8:=λk hk=>h8 k.toNat (by have:=win k hk;omega)
 have ZZ:∀k∈W,∀r p:Int,0≤p→p<8→(fk cs kn k=r*8+p↔sI kn k=r∧(at_ cs k.toNat).bG=p):=λk hk r p p0 p1=>by
  have:=wp k hk
  unfold fk
  constructor
  ·intro z;omega
  ·rintro⟨rfl,rfl⟩;rfl
 refine eO rfl ?_
 unfold Uh
 refine dH (eY (ds:=[]) rfl (by exact Nat.le_of_ble_eq_true rfl)) (by exact Nat.le_of_ble_eq_true rfl) ?_
 refine dH (cR (aF rfl rfl) (Uq k0)) (by exact Nat.le_of_ble_eq_true rfl) ?_
 refine dH (bL (aF rfl (aF rfl rfl)) rfl o1) (by exact Nat.le_of_ble_eq_true rfl) ?_
 have hmap:=bV (fi:=cM (aB 2)) (fr:=[5]) (fc:=qT) (fe:=cC (f2 dD (aB 1) (aB 0))) (e:=rE [.fro (bA cs),.fro (cV k0),.fro (aD W),.own (.lst []),.own (cV k0),.own (aD kn),.no,.no,.no,.no]) (ms:=W) (λ_=>true) (sI kn) (cU rfl) (by omega) (λm hm=>rfl) λm hm _=>bM (aP rfl rfl (Bx (win m hm).1 (by have:=(win m hm).2;omega))) rfl
 rw[O1.mpr λ_ _=>rfl]at hmap
 obtain⟨mx1,mx2⟩:=gP (ns:=[0]++W.map (sI kn)) (by simp)
 generalize hR:wH ([0]++W.map (sI kn))=R at *
 have R0:0≤R:=mx2 0 (by simp)
 have R1:R≤100:=by
  rcases D9.mp mx1 with z | z
  ·have:=C6.mp z;omega
  ·obtain⟨k,hk,e⟩:=E2.mp z
   have:=Uk hg hT k.toNat (by have:=win k hk;omega)
   have w:=win k hk
   rw[←e]
   unfold sI
   omega
 have wR:∀k∈W,sI kn k≤R:=λk hk=>mx2 _ (E4 _ (E2.mpr ⟨k,hk,rfl⟩))
 have aAL:Ed (aC (fC (.int 1)) (aC (f2 dJ (fL Af (aC (f2 dJ (iV (aC (fC (.int 0)) aM)) (dF (cM (aB 2)) [5] qT (cC (f2 dD (aB 1) (aB 0))))) aM)) (fC (.int 1))) aM)) (rE [.fro (bA cs),.fro (cV k0),.fro (aD W),.own (.lst []),.own (cV k0),.own (aD kn),.no,.no,.no,.no])=some (dR 1 (R+1-1).toNat):=by
  refine DN (aF rfl (aF (aP (cR (aF (aP (eY (ds:=[.int 0]) (aF rfl rfl) (by exact Nat.le_of_ble_eq_true rfl)) hmap (mD [0] _ (by rw[B5];simp;omega))) rfl) (tZ (by simp))) rfl ?_) rfl)) (by decide) (by decide) (by omega) (by omega)
  rw[hR]
  exact jE _ _
 rw[show R+1-1=R by omega]at aAL
 have aBU:L.filter (λx=>decide (fk cs kn x<8))=[]:=J9.mpr λk hk=>by
  have hk:=(hL k).mp hk
  have a:=aAK k hk
  have b:=wp k hk
  rw[decide_eq_true_iff]
  unfold fk
  omega
 have A0:ZW cs l W (fk cs kn) 8 []:=⟨λk hk z=>by
  have a:=aAK k hk
  have b:=wp k hk
  unfold fk at z
  omega,λi hi=>absurd hi (U6 _),λp hp=>by cases hp⟩
 refine JN (xs:=dR 1 R.toNat) (λj env=>∃(C ks:List Int)(v6 v7 v8 v9:SD),env=[.fro (bA cs),.fro (cV k0),.fro (aD W),.own (aD C),.own (cV ks),.own (aD kn),v6,v7,v8,v9]∧C=(L.filter λx=>decide (fk cs kn x<(1+(j:Int))*8)).foldl (cB cs l) []∧ZW cs l W (fk cs kn) ((1+(j:Int))*8) C∧ks.Nodup∧∀x,x∈ks↔Dn cs l C x) aAL ⟨[],k0,_,_,_,_,rfl,by rw[show (1+((0:Nat):Int))*8=8 by decide,aBU];rfl,by rw[show (1+((0:Nat):Int))*8=8 by decide];exact A0,hn0,hk0⟩ ?_ ?_
 ·rintro j x env hx ⟨C,ks,v6,v7,v8,v9,rfl,c1,c2,c3,c4⟩
  obtain⟨hj,rfl⟩:=Aq hx
  refine⟨by walk_at "lt", ?_⟩
  generalize hrk:(1:Int)+(j:Int)=rk at *
  have hsome:=bV (fi:=cM (aB 2)) (fr:=[5,6]) (fc:=fB (f2 yJ (f2 dD (aB 1) (aB 0)) (aB 2))) (fe:=cC (aB 0)) (e:=rE [.fro (bA cs),.fro (cV k0),.fro (aD W),.own (aD C),.own (cV ks),.own (aD kn),.fro (.int rk),v7,v8,v9]) (ms:=W) (λm=>decide (sI kn m=rk)) id (cU rfl) (by omega) (λm hm=>bU (aP (aP rfl rfl (Bx (win m hm).1 (by have:=(win m hm).2;omega))) rfl (pK _ _))) λm hm _=>bM rfl rfl
  rw[M8]at hsome
  refine dH hsome (by exact Nat.le_of_ble_eq_true rfl) ?_
  generalize hsm:W.filter (λm=>decide (sI kn m=rk))=sm
  have vh:∀m,m∈sm↔m∈W∧sI kn m=rk:=λm=>by rw[←hsm,F6];simp
  have sml:sm.length≤60:=by rw[←hsm];exact E5 (K3 _ _) hWl
  refine FQ (n:=8) (λq env=>∃(C ks:List Int)(v8 v9:SD),env=[.fro (bA cs),.fro (cV k0),.fro (aD W),.own (aD C),.own (cV ks),.own (aD kn),.fro (.int rk),.own (aD sm),v8,v9]∧C=(L.filter λx=>decide (fk cs kn x<rk*8+(q:Int))).foldl (cB cs l) []∧ZW cs l W (fk cs kn) (rk*8+(q:Int)) C∧ks.Nodup∧∀x,x∈ks↔Dn cs l C x) (nA (n:=8) (aF rfl rfl) (by omega)) ⟨C,ks,_,_,rfl,by rw[show rk*8+((0:Nat):Int)=rk*8 by omega];exact c1,by rw[show rk*8+((0:Nat):Int)=rk*8 by omega];exact c2,c3,c4⟩ ?_ ?_
  ·rintro q env hq ⟨C,ks,v8,v9,rfl,d1,d2,d3,d4⟩
   refine⟨by walk_at "lt", ?_⟩
   have hCl:C.length≤60:=by
    have:=vN (cs:=cs) (l:=l) (L.filter λx=>decide (fk cs kn x<rk*8+(q:Int))) []
    rw[←d1]at this
    have b:=K3 (λx=>decide (fk cs kn x<rk*8+(q:Int))) L
    simp at this
    omega
   have hstep:=IW (r:=rk) (p:=(q:Int)) hg h8 hT hW hL (by omega) (by omega) d2
   have hnext:(L.filter λx=>decide (fk cs kn x<rk*8+((q+1:Nat):Int))).foldl (cB cs l) []=(L.filter λx=>decide (fk cs kn x=rk*8+(q:Int))).foldl (cB cs l) C:=by
    rw[show rk*8+((q+1:Nat):Int)=rk*8+(q:Int)+1 by omega,xT _ hs,S8,←d1]
   have cY:=bV (fi:=cM (aB 7)) (fr:=[0,8,4]) (fc:=pH (fB (f2 yJ (f2 dD (f2 dD (aB 1) (aB 0)) (fC (.int 0))) (aB 2))) (fB (f2 (iB true) (aB 0) (aB 3)))) (fe:=cC (aB 0)) (e:=rE [.fro (bA cs),.fro (cV k0),.fro (aD W),.own (aD C),.own (cV ks),.own (aD kn),.fro (.int rk),.own (aD sm),.fro (.int (q:Int)),v9]) (ms:=sm) (λm=>decide ((at_ cs m.toNat).bG=(q:Int))&&!decide (m∈ks)) id (cU rfl) (by omega) (λm hm=>mZ (bU (aP (aP (aP rfl rfl (Mq (win m ((vh m).mp hm).1).1 (win m ((vh m).mp hm).1).2)) rfl (pM _)) rfl (pK _ _))) (bU (aP rfl rfl (jF true m ks)))) λm hm _=>bM rfl rfl
   rw[M8]at cY
   have hin:∀k,k∈sm.filter (λm=>decide ((at_ cs m.toNat).bG=(q:Int))&&!decide (m∈ks))↔k∈W∧fk cs kn k=rk*8+(q:Int)∧¬Dn cs l C k:=λk=>by
    rw[F6,vh]
    constructor
    ·rintro⟨⟨a,b⟩,c⟩
     have c:(at_ cs k.toNat).bG=(q:Int)∧k∉ks:=by simpa using c
     exact⟨a,(ZZ k a rk q (by omega) (by omega)).mpr ⟨b,c.1⟩,λz=>c.2 ((d4 k).mpr z)⟩
    ·rintro⟨a,b,c⟩
     obtain⟨b1,b2⟩:=(ZZ k a rk q (by omega) (by omega)).mp b
     refine⟨⟨a,b1⟩,?_⟩
     have:k∉ks:=λz=>c ((d4 k).mp z)
     rw[decide_eq_true b2,decide_eq_false this]
     rfl
   apply vC (b:=!decide (sm.filter (λm=>decide ((at_ cs m.toNat).bG=(q:Int))&&!decide (m∈ks))=[]))
   ·exact bU (aP cY (eY (ds:=[]) rfl (by exact Nat.le_of_ble_eq_true rfl)) (Ud _))
   ·intro hb
    have hne:sm.filter (λm=>decide ((at_ cs m.toNat).bG=(q:Int))&&!decide (m∈ks))≠[]:=by simpa using hb
    obtain⟨k,hk⟩:=List.exists_mem_of_ne_nil _ hne
    obtain⟨k1,k2,k3⟩:=(hin k).mp hk
    rcases hstep with ⟨_,e2,_⟩ | ⟨e1,e2,e3⟩
    ·exact absurd (e2 k k1 k2) k3
    refine ZQ (ds:=C.map D.int) (d:=.int (q:Int)) rfl (bM rfl rfl) (by rw[B5];omega) ?_
    rw[gK]
    obtain⟨r,r1,r2,r3,r4⟩:=Mv (cs:=cs) (ks:=ks) (q:Int) hg
    have aBV:Ak 9 (bI 3 cJ (aC (aB 0) (aC (aB 4) (aC (aB 8) aM)))) (dX 4 fH (aB 9) (fC (.bl true))) [.fro (bA cs),.fro (cV k0),.fro (aD W),.own (aD (C++[(q:Int)])),.own (cV ks),.own (aD kn),.fro (.int rk),.own (aD sm),.fro (.int (q:Int)),v9]=qC 9 (dX 4 fH (aB 9) (fC (.bl true))) (r.map D.int) [.fro (bA cs),.fro (cV k0),.fro (aD W),.own (aD (C++[(q:Int)])),.own (cV ks),.own (aD kn),.fro (.int rk),.own (aD sm),.fro (.int (q:Int)),v9]:=by
     unfold Ak
     rw[show bI 3 cJ (aC (aB 0) (aC (aB 4) (aC (aB 8) aM))) (rE [.fro (bA cs),.fro (cV k0),.fro (aD W),.own (aD (C++[(q:Int)])),.own (cV ks),.own (aD kn),.fro (.int rk),.own (aD sm),.fro (.int (q:Int)),v9])=some (.lst (r.map D.int))from bL (aF rfl (aF rfl (aF rfl rfl))) rfl r1]
    show Qs _ (Ak 9 (bI 3 cJ (aC (aB 0) (aC (aB 4) (aC (aB 8) aM)))) (dX 4 fH (aB 9) (fC (.bl true))) [.fro (bA cs),.fro (cV k0),.fro (aD W),.own (aD (C++[(q:Int)])),.own (cV ks),.own (aD kn),.fro (.int rk),.own (aD sm),.fro (.int (q:Int)),v9])
    rw[aBV]
    refine Ce (r:=r) (p:=(q:Int)) (l:=l) (C:=C) (ks:=ks) (v0:=v9) (λks v=>[.fro (bA cs),.fro (cV k0),.fro (aD W),.own (aD (C++[(q:Int)])),.own (cV ks),.own (aD kn),.fro (.int rk),.own (aD sm),.fro (.int (q:Int)),v]) hg hl d4 d3 r4 (λ_ _=>by walk_at "lt") (λ_ _ _=>rfl) (λ_ _=>rfl) (λ_ _=>rfl) (λ_ _ _=>rfl) λks' v n1 n2=>?_
    exact⟨_,rfl,C++[(q:Int)],ks',.fro (.int (q:Int)),v,rfl,by rw[hnext,e1],by rw[show rk*8+((q+1:Nat):Int)=rk*8+(q:Int)+1 by omega];exact e3,n1,n2⟩
   ·intro hb
    have he:sm.filter (λm=>decide ((at_ cs m.toNat).bG=(q:Int))&&!decide (m∈ks))=[]:=by simpa using hb
    apply Av
    rcases hstep with ⟨e1,_,e3⟩ | ⟨_,⟨k,k1,k2,k3⟩,_⟩
    ·exact⟨_,rfl,C,ks,.fro (.int (q:Int)),v9,rfl,by rw[hnext,e1],by rw[show rk*8+((q+1:Nat):Int)=rk*8+(q:Int)+1 by omega];exact e3,d3,d4⟩
    ·have:=(hin k).mpr ⟨k1,k2,k3⟩
     rw[he]at this
     cases this
  ·rintro env ⟨C,ks,v8,v9,rfl,d1,d2,d3,d4⟩
   have e:rk*8+((8:Nat):Int)=(1+((j+1:Nat):Int))*8:=by omega
   rw[e]at d1 d2
   exact⟨_,rfl,C,ks,_,_,_,_,rfl,d1,d2,d3,d4⟩
 ·rintro env ⟨C,ks,v6,v7,v8,v9,rfl,c1,c2,c3,c4⟩
  rw[Ao]at c1 c2
  have all:∀k∈W,fk cs kn k<(1+(R.toNat:Int))*8:=λk hk=>by
   have a:=wR k hk
   have b:=wp k hk
   unfold fk
   omega
  have e:L.filter (λx=>decide (fk cs kn x<(1+(R.toNat:Int))*8))=L:=O1.mpr λk hk=>decide_eq_true (all k ((hL k).mp hk))
  rw[e]at c1
  subst c1
  exact tX rfl ⟨_,rfl,rfl,_,c2,all⟩
theorem JR{c:FT}{g1 g2 g:GS}{env:EN}{Pr:SR→Prop}{b:Bool}(I:EN→Prop)(h:c (rE env)=some b)(k1:b=true→∃env',g1 env=.next env'∧I env')(k2:b=false→∃env',g2 env=.next env'∧I env')(k:∀env',I env'→Qs Pr (g env')):Qs Pr (aU (rR c g1 g2) g env):=
 uf h (λhb=>let ⟨e,a,i⟩:=k1 hb;Wk a (k e i)) λhb=>let ⟨e,a,i⟩:=k2 hb;Wk a (k e i)
theorem Qx(cs:List cX)(l m:List Int):Nf (.lst [bA cs,aD l,aD m]) (.lst [bA cs,aD l,aD m])=some (.bl false):=by
 have e2:∀l:List Int,cF (aD l)=some (.lst (l.map DV.int)):=λl=>by unfold aD cF;rw[lZ];rfl
 refine Wr (xs:=[.lst (cs.map ZR),.lst (l.map DV.int),.lst (m.map DV.int)]) ?_ ?_
 ·unfold dC
  rw[GQ,C3]
  unfold dC
  rw[e2,C3]
  unfold dC
  rw[e2,C3]
  unfold dC
  rfl
 ·have:=Az cs
  have i1:∀l:List Int,(DV.lst (l.map DV.int)).depth=1:=λl=>by unfold DV.depth;rw[lM]
  have i2:(DV.lst (cs.map ZR)).depth≤3:=by unfold DV.depth;omega
  unfold bC
  unfold bC
  rw[i1]
  unfold bC
  rw[i1]
  unfold bC
  omega
theorem JS(ns:List Int)(hl:ns.length≤63)(hs:∀k∈ns,Small k):uo [.lst (ns.map D.int)]=some (.bl true):=by
 suffices h:∃d,uo [aD ns]=some d∧d=.bl true by
  obtain⟨d,h1,rfl⟩:=h
  exact h1
 refine eO rfl ?_
 unfold aAG
 have hc0:=Xb ns 0
 rw[show ((0:Nat):Int)=0 from rfl]at hc0
 walk_at "q"
 have f0:=K2 (ns.getD 0 0) (show (2147483647:Int)≠0 by decide)
 generalize ns.getD 0 0%2147483647=first at *
 refine dH (d:=aD ((ns.drop 1).take 40)) ((vG rfl (lC rfl) (lC rfl)).trans (by rw[show (1:Int)=((1:Nat):Int)from rfl,show (41:Int)=((41:Nat):Int)from rfl,GK])) (by exact Nat.le_of_ble_eq_true rfl) ?_
 have hcl:((ns.drop 1).take 40).length≤40:=by rw[J1];omega
 have hcs:∀c∈(ns.drop 1).take 40,Small c:=λc hc=>hs c (List.mem_of_mem_drop (P0 hc))
 generalize (ns.drop 1).take 40=cells at *
 have p0:=K2 first (show (8:Int)≠0 by decide)
 have p1:=K9 first (show (0:Int)<8 by decide)
 obtain⟨cs,hch,cl,hg,hpn⟩:=Ql (P:=1+first%8) (Q:=9) (by omega) hcs (by omega) (by decide) (by decide)
 have HW:=hg.1
 have h8:P8 cs:=λk hk=>by
  have:=hpn k hk
  exact⟨this.1,by omega⟩
 walk_at "q"
 obtain⟨st,hst,s1,s2,s3⟩:=Qn (cells:=cells) (first/8%5) hg cl.symm
 obtain⟨l,hso,t1,t2⟩:=Ey (l:=st) (c:=first/40) (by omega) (b8 f0 (by decide))
 walk_at "q"
 have aAM:∀x∈l,0≤x∧x<(cs.length:Int):=λx hx=>by
  have:=s1 x ((t1 x).mp hx)
  exact⟨this.1,this.2.1⟩
 have hS:Xc cs l:=λx hx=>by
  obtain⟨a,b,c⟩:=s1 x ((t1 x).mp hx)
  exact⟨a,b,λm hm=>(t1 m).mpr (c m hm)⟩
 walk_at "q"
 generalize hsh:1+first/1000%6=share
 have cY:=bV (fi:=jL (aC (fL jV (aC (aB 2) aM)) aM)) (fr:=[2,5]) (fc:=fB (f2 KJ (f2 fG (f2 nM (f2 fG (f2 xY (f2 dJ (f2 dD (aB 1) (aB 0)) (fC (.int 17))) (fC (.int 62089911))) (fC (.int 2147483647))) (fC (.int 7))) (fC (.int 6))) (f2 zU (aB 2) (fC (.int 1))))) (fe:=cC (aB 0)) (e:=rE [.fro (aD ns),.own (.int first),.own (aD cells),.own (bA cs),.own (aD l),.own (.int share),.no,.no,.no,.no,.no]) (ms:=(D6 cells.length).map λk=>((k:Nat):Int)) (λm=>decide ((cells.getD m.toNat 0+17)*62089911%2147483647/7%6<share-1)) id
  (by
   rw[nA (n:=cells.length) (aF (cR (aF rfl rfl) (fY _)) rfl) (by omega)]
   unfold dR
   rw[J0]
   refine congrArg some (L4 λk _=>?_)
   show D.int (0+(k:Int))=D.int (k:Int)
   rw[X8]) (by rw[B5,F3];omega) (λm hm=>by
    obtain⟨k,hk,rfl⟩:=E2.mp hm
    have hk:=J8.mp hk
    exact bU (aP (aP (aP (aP (aP (aP (aP rfl rfl (jN (by omega) (by omega))) rfl (jE _ _)) rfl (uW (ue (by decide) (by decide)))) rfl (uX (by decide))) rfl (An (by decide) (by decide))) rfl (uX (by decide))) (aP rfl rfl (qZ _ _)) (uZ _ _))) λm hm _=>bM rfl rfl
 rw[M8]at cY
 refine dH cY (by exact Nat.le_of_ble_eq_true rfl) ?_
 have hg0:∀x∈((D6 cells.length).map λk=>((k:Nat):Int)).filter (λm=>decide ((cells.getD m.toNat 0+17)*62089911%2147483647/7%6<share-1)),0≤x∧x<(cs.length:Int):=λx hx=>by
  obtain⟨k,hk,rfl⟩:=E2.mp (F6.mp hx).1
  have:=J8.mp hk
  omega
 have aBW:(((D6 cells.length).map λk=>((k:Nat):Int)).filter (λm=>decide ((cells.getD m.toNat 0+17)*62089911%2147483647/7%6<share-1))).length≤40:=E5 (K3 _ _) (by rw[B5,F3];exact hcl)
 generalize ((D6 cells.length).map λk=>((k:Nat):Int)).filter (λm=>decide ((cells.getD m.toNat 0+17)*62089911%2147483647/7%6<share-1))=g0 at *
 refine JR (b:=decide (share=6)&&!decide (cells=[])) (λenv=>∃gs:List Int,env=[.fro (aD ns),.own (.int first),.own (aD cells),.own (bA cs),.own (aD l),.own (.int share),.own (aD gs),.no,.no,.no,.no]∧(∀x∈gs,0≤x∧x<(cs.length:Int))∧gs.length≤40) ?_ ?_ ?_ ?_
 ·exact mZ (bU (aP rfl rfl (pK _ _))) (bU (aP rfl (eY (ds:=[]) rfl (by exact Nat.le_of_ble_eq_true rfl)) (Ud _)))
 ·intro hb
  have hne:cells≠[]:=by
   have:share=6∧cells≠[]:=by simpa using hb
   exact this.2
  have hpos:=X0.mpr hne
  refine⟨_,uV (d:=aD [(cells.length:Int)-1]) (eY (ds:=[.int ((cells.length:Int)-1)]) (aF (aP (cR (aF rfl rfl) (fY _)) rfl (qZ _ _)) rfl) (by exact Nat.le_of_ble_eq_true rfl)) (by exact Nat.le_of_ble_eq_true rfl),_,rfl,λx hx=>?_,by simp⟩
  rw[C6.mp hx]
  omega
 ·intro _
  exact⟨_,rfl,g0,rfl,hg0,aBW⟩
 ·rintro env ⟨g1,rfl,hg1,hgl1⟩
  obtain⟨gs,hgo,u1,u2⟩:=Ey (l:=g1) (c:=first/7000) (by omega) (b8 f0 (by decide))
  have hgs:∀x∈gs,0≤x∧x<(cs.length:Int):=λx hx=>hg1 x ((u1 x).mp hx)
  walk_at "q"
  obtain⟨ks,hks,kd,km,_⟩:=Ez (l:=l) (by omega)
  walk_at "q"
  obtain⟨W,hW1,hW2,hW3⟩:=Qw (ks:=ks) hg hgs (by omega)
  walk_at "q"
  have e1:dList [bA cs]=some (bA cs):=wL (GP cs)
  have e2:dList [aD l]=some (aD l):=wL (bR l)
  have e3:dList [aD gs]=some (aD gs):=wL (bR gs)
  refine dH (eY (ds:=[bA cs,aD l,aD gs]) (aF (cR (aF rfl rfl) e1) (aF (cR (aF rfl rfl) e2) (aF (cR (aF rfl rfl) e3) rfl))) (by exact Nat.le_of_ble_eq_true rfl)) (by exact Nat.le_of_ble_eq_true rfl) ?_
  obtain⟨kn,L,hT,w2,w3,w4,w5,aAN⟩:=WQ hg h8 (l:=l) (by omega) hgs (by omega) hS
  refine dH (bL (aF (aP rfl rfl (vA (by decide) rfl)) (aF (aP rfl rfl (vA (by decide) rfl)) (aF (aP rfl rfl (vA (by decide) rfl)) rfl))) rfl aAN) (by exact Nat.le_of_ble_eq_true rfl) ?_
  have hLW:∀k,k∈L↔k∈W:=λk=>by rw[w4,hW3,km]
  have aBY:uy cs l W:=λk hk=>by
   obtain⟨a,b⟩:=(hW3 k).mp hk
   have hnl:(mL cs).length=cs.length:=by unfold mL;rw[B5]
   have hin:=pD (yQ hg) (λn hn=>by rw[hnl];exact hgs n hn) a
   rw[hnl]at hin
   refine⟨hin.1,hin.2,λz=>b ((km k).mpr z),λm hm=>?_⟩
   by_cases c:m∈l
   ·exact .inl c
   ·exact .inr ((hW3 m).mpr ⟨.step a (by rw[Ms (by omega)];exact hm),λz=>c ((km m).mp z)⟩)
  obtain⟨aBZ,a,A,ha⟩:=vg hg h8 aAM hT km kd hW2 aBY hLW w3 (w5.imp λ{x y} h=>by omega)
  have hCl:(L.foldl (cB cs l) []).length≤60:=by
   have:=vN (cs:=cs) (l:=l) L []
   simp at this
   omega
  have aAO:=Xg hg aAM km kd hW2 hCl A.each λk hk=>A.done k hk (ha k hk)
  have hnum:=Qp (ls:=L.foldl (cB cs l) []) (n:=8) (λx hx=>A.pan x hx) (by omega)
  generalize L.foldl (cB cs l) []=C at *
  refine FN (b:=false||!true) (Hx (bU (aP rfl (eY (aF rfl (aF rfl (aF rfl rfl))) (by exact Nat.le_of_ble_eq_true rfl)) (Qx cs l gs))) (yO (bU (bL (aF rfl (aF rfl rfl)) rfl hnum)))) rfl ?_
  apply VH
  refine mC (DX (bL (aF rfl (aF rfl (aF rfl (aF rfl rfl)))) rfl aAO) (aP rfl (bL (aF rfl (aF rfl (aF rfl rfl))) rfl aBZ) (Ls _ _))) ⟨_,rfl,?_⟩
  rw[decide_eq_true rfl]
  rfl
end Rs

def PySem.W.Fast.tw7677429256264640555:Unit:=()
def PySem.W.Fast.tw2031554235859374502:Unit:=()
def PySem.W.Fast.tw13094354809877212237:Unit:=()
def PySem.W.Fast.tw6934764588199123753:Unit:=()
def PySem.W.Fast.tw2582392349326312391:Unit:=()
def PySem.W.Fast.tw11589032628257651377:Unit:=()
def PySem.W.Fast.tw7001587535255001410:Unit:=()
def PySem.W.Fast.tw12100833806270766315:Unit:=()
def PySem.W.Fast.tw5182932285448740453:Unit:=()
def PySem.W.Fast.tw14445383413774367683:Unit:=()
def PySem.W.Fast.tw9932201069091860557:Unit:=()
def PySem.W.Fast.tw6033994403020312332:Unit:=()
def PySem.W.Fast.tw7690002892237472036:Unit:=()
def PySem.W.Fast.tw4074944869750588707:Unit:=()
def PySem.W.Fast.tw5176849292604925216:Unit:=()
def PySem.W.Fast.tw18299074067902844229:Unit:=()
def PySem.W.Fast.tw16999142856400476960:Unit:=()
def PySem.W.Fast.tw13228891094893847672:Unit:=()
def PySem.W.Fast.tw17064682987915091607:Unit:=()
def PySem.W.Fast.tw2990318486975021891:Unit:=()
def PySem.W.Fast.tw11888349434226213888:Unit:=()
def PySem.W.Fast.tw5795548247970334514:Unit:=()
def PySem.W.Fast.tw10692939617749808903:Unit:=()
def PySem.W.Fast.tw6664761313722853296:Unit:=()
def PySem.W.Fast.tw14447340248447511315:Unit:=()
def PySem.W.Fast.tw17781741414189279493:Unit:=()
def PySem.W.Fast.tw11991019776092492222:Unit:=()
def PySem.W.Fast.tw8145762090226853101:Unit:=()
def PySem.W.Fast.tw8381100219079533711:Unit:=()
def PySem.W.Fast.tw17906921073473172923:Unit:=()
def PySem.W.Fast.tw7445406187216924242:Unit:=()
def PySem.W.Fast.tw11459204372401136740:Unit:=()
def PySem.W.Fast.tw6513333695009384602:Unit:=()
def PySem.W.Fast.tw3250950660715101679:Unit:=()
def PySem.W.Fast.tw8632038785332094021:Unit:=()
def PySem.W.Fast.tw228734691098026888:Unit:=()
def PySem.W.Fast.tw14496425467987911873:Unit:=()
def PySem.W.Fast.tw16800443390037075272:Unit:=()
def PySem.W.Fast.tw8752142170291845881:Unit:=()
namespace Rs
open PySem L2
theorem WR{K:aA}{f:Addr}{oc:Value}{od:Option Addr}{fd:FuncData}{sl:Array (Option Value)}(l:K.lookup f=some ⟨oc,od,.func fd,sl⟩):L0 K (.ref f)=true:=by
 unfold L0
 dsimp only
 rw[l]
theorem aB0{K:aA}{h:Heap}{mg:Str→Option Value}{x:Str}{st:Stmt}{f:Addr}{oc:Value}{od an:Option Addr}{osl:Array (Option Value)}{kV doc pm cdv ct:Value}(X:K.In h)(G:h.Ns mainGlobals mg)(a:X3 K mainGlobals x=some (some (.ref f)))(l:K.lookup f=some ⟨oc,od,.func (G4 x x (eU st) (cA st) (aJ st) .none kV doc pm an cdv ct),osl⟩)(c:F7 K cdv x=true):Raw K mg x st:=jq X G a l c (WR l)
theorem lookup_mem{c:Addr}{o:Obj}:∀{l:List (Addr×Obj)},List.lookup c l=some o→(c,o)∈l
 | [],h=>by cases h
 | (a,b)::l,h=>by
  rw[O7]at h
  by_cases e:c==a
  ·rw[e]at h
   have e':=eq_of_beq e
   subst e'
   cases h
   exact B9
  ·have e':(c==a)=false:=by simpa using e
   rw[e']at h
   exact B7 _ (lookup_mem h)
theorem vm{K:aA}{h:Heap}{ts:List Addr}{P:Addr}(X:K.In h)(hT:∀P∈ts,h.get? P=some (c0 #[]))(hP:P∈ts)(h1:(K.all λq=>!PySem.W.codeIn K (.ref q.1) "wanted_by_turn" || Q6 K q.1 P)=true) (h2:(K.lookup P).isNone=true) (h3:(K.any λq=>Q6 K q.1 P)=true):QG K h:=by
 obtain⟨q,_,hq⟩:=O8.mp h3
 refine⟨P,q.1,λc hc=>?_,hT P hP,Option.isNone_iff_eq_none.mp h2,PySem.W.codeHd_of_K X hq⟩
 have hm:∃o,K.lookup c=some o:=by
  unfold F7 at hc
  dsimp only at hc
  cases e:K.lookup c with
  | none=>rw[e]at hc;cases hc
  | some o=>exact⟨o,rfl⟩
 obtain⟨o,ho⟩:=hm
 have:=T2.mp h1 _ (lookup_mem ho)
 rw[P5]at this
 rcases this with z | z
 ·dsimp only at z
  rw[hc]at z
  cases z
 ·exact z
theorem walk{l:b7}{q:Program}{loose:List Str}{XP:(Str→Option Value)→Heap→Prop}{YP:World→Heap→Prop}{d:DefRec}{K:Params→aA}(hn:l.most=some 63)(hdf:d.params.defaults=[])(hdn:d.name = "law")
  (hY:∀(w:World)(h:Heap),YP w h→(K w.params).In h)
  (hT:∀(w:World)(h:Heap),YP w h→QG (K w.params) h)
  (F:∀(w:World)(mg:Str→Option Value)(h:Heap),(K w.params).In h→h.Ns mainGlobals mg→Raw (K w.params) mg "_law_thing" wN∧Raw (K w.params) mg "_law_needs" wO∧Raw (K w.params) mg "_law_changes" rA∧Raw (K w.params) mg "_law_turned" uA∧Raw (K w.params) mg "_law_marks" wQ∧Raw (K w.params) mg "_law_wanted" pO∧Raw (K w.params) mg "marked" Hz∧Raw (K w.params) mg "waiting_needs" jJ∧Raw (K w.params) mg "turn_through" pP∧Raw (K w.params) mg "turns" Ib∧Raw (K w.params) mg "closure" Bh∧Raw (K w.params) mg "needs_of" vI∧Raw (K w.params) mg "wanted_by_turn" gF∧Raw (K w.params) mg "first_carving" nT∧Raw (K w.params) mg "plan" Ug∧Raw (K w.params) mg "_law_cell_at" uB∧Raw (K w.params) mg "_law_settled" nC∧Raw (K w.params) mg "_law_own_ripe" nD∧Raw (K w.params) mg "_law_walked" mH∧Raw (K w.params) mg "_law_whole" wU∧Raw (K w.params) mg "_law_numbers" rC∧Raw (K w.params) mg "_law_more" Bl∧Raw (K w.params) mg "_law_own_turns" kJ∧Raw (K w.params) mg "_law_due" sG∧Raw (K w.params) mg "law" VN∧mg "min" = none∧mg "sorted" = none∧mg "set" = none∧mg "tuple" = none∧mg "len" = none∧mg "range" = none∧mg "list" = none∧mg "reversed" = none∧mg "max" = none∧mg "dict" = none∧mg "isinstance" = none∧mg "bool" = none∧mg "int" = none∧uP mg "NEEDS" (3)∧uP mg "PANE" (0)) :
  d8 q loose XP YP l.row.toRowW d [] (λf vs=>a9 f vs):=by
 refine L2.Wa (n:=63) (k:=5) (x := "script") (CX:=λ_=>Nu) (sp:=λw=>spB (K w.params)) hn (by decide) hdf ⟨rfl,by decide,by decide⟩ hY hT ?_ (λ_ _ a ns hl hb _ hS=>⟨a,ns,rfl,hS,hl,hb,λ_=>rfl⟩) λ_ _ _ _ _ z=>z
 intro w mg fa h KX G hmg
 obtain⟨Xh,Xi,Mx,Qy,Xj,Qz,WT,De,Iu,vo,JT,JV,Df,Dg,aAP,Ra,My,Mz,Rb,Xk,Nb,JW,Iv,WW,aB1,uq,kO,ur,Qf,dY,bZ,gR,wX,yD,zdict,fQ,HN,Il,wY,tO⟩:=F w mg h KX G
 obtain⟨f,fd,FL,m⟩:=aB1.ex
 rw[hdn]at hmg
 have e:=hmg.symm.trans m
 cases e
 refine⟨fd,Ov FL (λ_ _ _ _ _ _ u=>rfl),λbase _ _=>?_⟩
 have wV:=Mi (P:=l.prog) (w:=w) (mg:=mg) (base:=base) Xh
 have wW:=Mj (P:=l.prog) (w:=w) (mg:=mg) (base:=base) Xi  uq kO ur Qf
 have rH:=Cw (P:=l.prog) (w:=w) (mg:=mg) (base:=base) Mx wV wW  dY bZ
 have pX:=Ie (P:=l.prog) (w:=w) (mg:=mg) (base:=base) Qy  dY gR wX
 have lG:=Ml (P:=l.prog) (w:=w) (mg:=mg) (base:=base) Xj
 have uE:=Ig (P:=l.prog) (w:=w) (mg:=mg) (base:=base) Qz lG  dY bZ
 have sH:=Wx (P:=l.prog) (w:=w) (mg:=mg) (base:=base) WT
 have dZ:=yC (P:=l.prog) (w:=w) (mg:=mg) (base:=base) De  wY
 have pR:=Bq (P:=l.prog) (w:=w) (mg:=mg) (base:=base) Iu  tO
 have Qi:=HJ (P:=l.prog) (w:=w) (mg:=mg) (base:=base) vo sH dZ pR  dY bZ yD
 have Bu:=Qg (P:=l.prog) (w:=w) (mg:=mg) (base:=base) JT sH  gR dY kO
 have Br:=Qh (P:=l.prog) (w:=w) (mg:=mg) (base:=base) JV  wY
 have nU:=yE (P:=l.prog) (w:=w) (mg:=mg) (base:=base) Df Br Bu  kO tO
 have nW:=yF (P:=l.prog) (w:=w) (mg:=mg) (base:=base) Dg  dY
 have HQ:=VP (P:=l.prog) (w:=w) (mg:=mg) (base:=base) aAP Qi nU dZ nW  yD dY tO
 have uD:=Ih (P:=l.prog) (w:=w) (mg:=mg) (base:=base) Ra  dY
 have rJ:=Cz (P:=l.prog) (w:=w) (mg:=mg) (base:=base) My  dY bZ gR
 have gU:=Dc (P:=l.prog) (w:=w) (mg:=mg) (base:=base) Mz  dY bZ gR
 have uF:=Ii (P:=l.prog) (w:=w) (mg:=mg) (base:=base) Rb gU  zdict
 have wZ:=Mp (P:=l.prog) (w:=w) (mg:=mg) (base:=base) Xk  fQ HN Il
 have rK:=Dd (P:=l.prog) (w:=w) (mg:=mg) (base:=base) Nb wZ  fQ gR
 have Bw:=Qk (P:=l.prog) (w:=w) (mg:=mg) (base:=base) JW  Il
 have pW:=Bv (P:=l.prog) (w:=w) (mg:=mg) (base:=base) Iv Bw  dY bZ yD Il
 have Im:=Xa (P:=l.prog) (w:=w) (mg:=mg) (base:=base) WW pW gU  zdict yD bZ
 exact uv FL uD rH rJ pX lG uE HQ rK Im uF  dY bZ gR JS
end Rs
open PySem PySem.W PyProof.Rows
set_option maxRecDepth 100000 in
set_option maxHeartbeats 0 in
theorem PySem.Challenge.cw_ripestone_k09_plan_holds : PySem.Challenge.rw_ripestone_k09_plan.Holds := by
 w_on;o_law;k_head;(case hw=>w_witness2)
 k_fill
 refine Rs.walk (l:=PySem.Challenge.rw_ripestone_k09_plan) rfl rfl rfl (λw h Y=>Z7 Y) (λw h Y=>Rs.vm (Z7 Y) (PySem.W.km_tabs_of Y) (.head _) ?A ?B ?C) ?F
 case A=>kernel_rfl
 case B=>kernel_rfl
 case C=>kernel_rfl
 case F=>
  intro w mg h KX G
  refine⟨?_,?_,?_,?_,?_,?_,?_,?_,?_,?_,?_,?_,?_,?_,?_,?_,?_,?_,?_,?_,?_,?_,?_,?_,?_,F4 KX G ?_,F4 KX G ?_,F4 KX G ?_,F4 KX G ?_,F4 KX G ?_,F4 KX G ?_,F4 KX G ?_,F4 KX G ?_,F4 KX G ?_,F4 KX G ?_,F4 KX G ?_,F4 KX G ?_,F4 KX G ?_,?_,?_⟩
  iterate 25
   ·refine' Rs.aB0 KX G ?a ?l ?c
    (case a=>k_is);(case l=>k_is);(case c=>k_is)
  iterate 13
   ·k_is
  ·refine' L2.Ku KX G ?a
   (case a=>k_is)
  ·refine' L2.Ku KX G ?a
   (case a=>k_is)
#print axioms PySem.Challenge.cw_ripestone_k09_plan_holds
