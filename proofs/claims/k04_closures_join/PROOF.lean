import PyProof.Rows.All
import Wide.All
import OpenK.AllK
import Wide.FinOn
import Lean
import PyProof.EqAt
import PyProof.EqKinds
import PyProof.TupleCall
import PySem.Challenge.RW_ripestone_k04_closures_join
open Array renaming length_toList→C9,getElem?_toList→F2,getElem?_eq_getElem→J1,getD→K6,getD_eq_getD_getElem?→M3,getElem_toList→N9,size_map→O2,forIn_toList→O5,getElem?_eq_none→S5,toList_push→U4,toList→X5
open Bool renaming false_ne_true→C7,and_eq_true→D6,eq_iff_iff→F7,or_eq_true→M7,and_self→T4,false_eq_true→T9,and_false→W8,or_false→X1,true_and→X3
open Int renaming toNat_natCast→J5,emod_lt_of_pos→O6,emod_nonneg→R5,le_refl→R8,emod_eq_of_lt→U5
open List renaming length_map→B0,getElem?_eq_getElem→B3,mem_cons_of_mem→B4,size_toArray→B5,mem_cons→B6,mem_cons_self→B7,map_cons→B8,mem_singleton→B9,getElem?_eq_some_iff→C3,mem_append_right→C5,getElem?_map→C8,length_append→D1,range→D3,mem_append→D4,getD_eq_getElem?_getD→D5,length_cons→D7,mem_range→D9,mem_append_left→E1,map_nil→E2,pairwise_cons→E3,nodup_cons→E5,replicate→E8,mem_of_getElem?→E9,getElem?_eq_none→F8,eq_nil_of_length_eq_zero→F9,mem_map→G0,filterMap_cons→G5,zipWith_cons_cons→G8,all_eq_true→G9,getElem_of_mem→J6,any_eq_true→J7,cons_append→J8,map_map→K1,length_singleton→K3,find?_cons→K4,drop_eq_getElem_cons→K5,length_take→K8,getElem_mem→L0,not_mem_nil→L3,mem_filter→L4,zip_cons_cons→L5,length_range→L6,nodup_nil→L8,length_nil→M6,pairwise_iff_getElem→M8,ext_getElem?→N1,nodup_append→N2,length_pos_of_mem→N3,take_of_length_le→N4,any_cons→N5,lookup_cons→N6,forIn_cons→N8,map_append→O0,length_pos_iff→O1,mem_filterMap→O3,getElem?_drop→O4,getElem?_append_right→O7,length_eraseIdx_of_lt→O8,take_add_one→P2,getElem?_append_left→P4,length_drop→P7,ext_getElem→P8,filter_cons→P9,zipWith→Q1,drop_length→Q2,length_erase_of_mem→Q3,getElem?_replicate→Q5,eraseIdx_cons_succ→Q6,append_nil→Q8,of_mem_zip→Q9,getElem?_set_self→R6,pairwise_lt_range→S0,length_replicate→S6,zipWith_nil_left→S7,forIn_nil→T0,getElem?_set_ne→T1,mem_erase_of_ne→T2,mem_of_mem_take→T3,take_succ_cons→T5,replicate_succ→T6,getElem?_take→U2,take_sublist→U3,pairwise_map→U7,map_id→U8,map_fst_zip→V1,perm_middle→V2,take_length→V3,length_set→V9,nil_append→W2,all_cons→X2
open List.Perm renaming refl→J9
open Nat renaming le_refl→A9,lt_of_lt_of_le→C4,ne_of_lt→C6,le_trans→F1,zero_add→F3,lt_irrefl→F5,lt_succ_of_lt→F6,lt_or_ge→G7,ne_of_gt→J2,zero_le→K0,le_of_lt→K7,lt_succ_self→K9,le_of_ble_eq_true→L9,le_succ→M5,not_lt_zero→M9,lt_of_le_of_lt→T8,min_self→U0,eq_zero_or_pos→U1,le_of_lt_succ→U6,succ_le_succ→V4,mod_lt→W3
open Option renaming bind_some→D2,getD_some→M4,isSome_map→P1,map_some→R4,map_eq_none_iff→R9,getD_none→U9,map→V8,map_map→W9,none→X8
open Option.some renaming inj→E4
open Or renaming inr→E6,inl→E7
open PyProof.Rows renaming callWith_type1→G4,callWith_builtin1→N7,boot_sorted→Q4
open PyProof.Rows.F renaming plain_set_update_loop→K2,entry_set_update_loop→N0
open PySem renaming mem_of_lookup→G6,boot_len→J0,call→W6
open PySem.F renaming called_set→G1,plainAttrs_list→G3,slot_list_append→J3,type_list_append→J4,plain_extend_loop→P5,plain_list_iadd→Q7,plain_set_new→S8,slot_set_iter→S9,slot_set_or→T7
open PySem.W renaming fnOf→F0,mg_none_of→F4,keepIn→G2,findIn→I0,codeIn→L7,methodObj→O9,specialIn→P0,cellsFrom_some→R7,kdl_dict→V0,instObj→V5,hideAll→V6,takesIn→V7,OpenLaw→W7,mroIn→X0,WalkO→X4,isFn→X6,nsIn→X7
open Sum renaming inl→D8,inr→P6
abbrev aA:=PySem.W.Frag
theorem aO{α:Type u_1}{b:α}{β:Type u_2}{x:Option β}{f:β→Option α}(h:x.bind f=some b):∃a,x=some a∧f a=some b:=Option.bind_eq_some_iff.mp h
theorem dB{α:Type u_1}{b:α}{β:Type u_2}{x:Option β}{f:β→α}(h:x.map f=some b):∃a,x=some a∧f a=b:=Option.map_eq_some_iff.mp h

set_option Elab.async false
set_option linter.all false
set_option maxRecDepth 100000
namespace L2
open PySem PySem.Spec PyProof.Rows
abbrev Key:=Sum Int Str
def uF:Key→Value→Bool
 | .inl k,v=>Value.isInt k v
 | .inr x,v=>Value.isStrOf x v
def QD(w:World):Key→Int
 | .inl k=>hashInt k
 | .inr x=>hashStr w x
theorem bD:∀{k:Key} {v:Value},uF k v=true→(∃i t,k=D8 i∧v=Value.int i t)∨(∃x t,k=P6 x∧v=Value.str x t)
 | .inl i,v,h=>by
  obtain⟨t,e⟩:=Value.isInt_shape (k:=i) (v:=v) h
  exact .inl ⟨i,t,rfl,e⟩
 | .inr x,v,h=>by
  obtain⟨t,e⟩:=Value.isStrOf_shape (x:=x) (v:=v) h
  exact .inr ⟨x,t,rfl,e⟩
theorem Hf(i:Int)(t:Tok):uF (.inl i) (.int i t)=true:=by simp[uF,Value.isInt]
theorem Hg(x:Str)(t:Tok):uF (.inr x) (.str x t)=true:=by simp[uF,Value.isStrOf]
theorem Wd(a b:Int):decide ((D8 a:Key)=D8 b)=(a==b):=by
 by_cases e:a=b
 ·subst e;simp
 ·have h:¬(D8 a:Key)=D8 b:=λq=>e (Sum.inl.inj q)
  rw[decide_eq_false h]
  exact(beq_eq_false_iff_ne.mpr e).symm
theorem We(a b:Str):decide ((P6 a:Key)=P6 b)=decide (a=b):=by
 by_cases e:a=b
 ·subst e;simp
 ·have h:¬(P6 a:Key)=P6 b:=λq=>e (Sum.inr.inj q)
  rw[decide_eq_false h,decide_eq_false e]
theorem Wf(a:Int)(b:Str):decide ((D8 a:Key)=P6 b)=false:=decide_eq_false (λq=>nomatch q)
theorem Wg(a:Str)(b:Int):decide ((P6 a:Key)=D8 b)=false:=decide_eq_false (λq=>nomatch q)
def aX(prog:Program)(w:World):PySem.KeyKind prog w Key where
  is:=uF
  hash:=QD w
  inj:=λv a b ha hb=>by
    rcases bD ha with ⟨i,t,rfl,rfl⟩ | ⟨x,t,rfl,rfl⟩
    · rcases bD hb with ⟨j,u,rfl,e⟩ | ⟨y,u,rfl,e⟩
      · injection e with e1 _;rw[e1]
      · exact nomatch e
    · rcases bD hb with ⟨j,u,rfl,e⟩ | ⟨y,u,rfl,e⟩
      · exact nomatch e
      · injection e with e1 _;rw[e1]
  byValue:=λk v h=>by
    rcases bD h with ⟨i,t,rfl,rfl⟩ | ⟨x,t,rfl,rfl⟩<;>rfl
  pyHash:=λhv h=>by
    rcases bD hv with ⟨i,t,rfl,rfl⟩ | ⟨x,t,rfl,rfl⟩
    · exact wpAny_pyHash_int h
    · exact wpAny_pyHash_str h
  eqBool:=λhu hv h=>by
    rcases bD hu with ⟨i,t,rfl,rfl⟩ | ⟨x,t,rfl,rfl⟩
    · rcases bD hv with ⟨j,u,rfl,rfl⟩ | ⟨y,u,rfl,rfl⟩
      · rw[Wd]at h;exact wpAny_eqBool_int h
      · rw[Wf]at h;exact SeqAt.EqAt.int_str i t y u _ _ _ _ h
    · rcases bD hv with ⟨j,u,rfl,rfl⟩ | ⟨y,u,rfl,rfl⟩
      · rw[Wg]at h;exact SeqAt.EqAt.str_int x t j u _ _ _ _ h
      · rw[We]at h;exact wpAny_eqBool_str h
  «strs»:=λk x t v h=>by
    rcases bD h with ⟨i,u,rfl,e⟩ | ⟨y,u,rfl,e⟩
    · exact nomatch e
    · injection e with e1 _
      subst e1
      cases v<;>rfl
theorem yP(prog:Program)(w:World)(i:Int)(t:Tok):(aX prog w).is (.inl i) (.int i t)=true:=Hf i t
theorem yQ(prog:Program)(w:World)(x:Str)(t:Tok):(aX prog w).is (.inr x) (.str x t)=true:=Hg x t
end L2
namespace L2
open PySem PySem.Spec PyProof.Rows
inductive V where
  | non | bl (b:Bool) | int (i:Int) | str (x:Str) | byt (b:Array UInt8) | flt (b:UInt64) | ref (a:Addr) | ty (n:String)
  deriving DecidableEq
def RelV:V→Value→Prop
 | .non,u=>u=Value.none
 | .bl b,u=>u=Value.bool b
 | .int i,u=>∃t,u=Value.int i t
 | .str x,u=>∃t,u=Value.str x t
 | .byt b,u=>∃t,u=Value.bytes b t
 | .flt b,u=>∃t,u=Value.float b t
 | .ref a,u=>u=Value.ref a
 | .ty n,u=>u=Value.type n
abbrev Vals:List V→List Value→Prop:=Paired RelV
theorem Vals.length{xs:List V}{us:List Value}(r:Vals xs us):xs.length=us.length:=Paired.length r
theorem Vals.get:∀{xs:List V} {us:List Value} {i:Nat} {x:V},Vals xs us→xs[i]?=some x→∃u,us[i]?=some u∧RelV x u
 | _,_,_,_,.nil,e=>by simp at e
 | _,_,0,_,.cons r _,e=>by simp at e;subst e;exact⟨_,rfl,r⟩
 | _,_,i+1,x,.cons _ t,e=>by
  obtain⟨u,h1,h2⟩:=Vals.get (i:=i) (x:=x) t (by simpa using e)
  exact⟨u,by simpa using h1,h2⟩
theorem Vals.append:∀{xs ys:List V} {us ws:List Value},Vals xs us→Vals ys ws→Vals (xs++ys) (us++ws)
 | _,_,_,_,.nil,s=>s
 | _,_,_,_,.cons r t,s=>.cons r (Vals.append t s)
theorem Vals.take:∀{xs:List V} {us:List Value} (n:Nat),Vals xs us→Vals (xs.take n) (us.take n)
 | _,_,0,_=>.nil
 | _,_,_+1,.nil=>.nil
 | _,_,n+1,.cons r t=>.cons r (Vals.take n t)
theorem Vals.drop:∀{xs:List V} {us:List Value} (n:Nat),Vals xs us→Vals (xs.drop n) (us.drop n)
 | _,_,0,r=>r
 | _,_,_+1,.nil=>.nil
 | _,_,n+1,.cons _ t=>Vals.drop n t
def Hh:Option V→Option Value→Prop
 | some v,some u=>RelV v u
 | none,none=>True
 | _,_=>False
def KV{κ:Type}:List (κ×V)→List (κ×Value)→Prop:=Paired λ(p:κ×V) (q:κ×Value)=>p.1=q.1∧RelV p.2 q.2
def kV:Key→V
 | .inl i=>.int i
 | .inr x=>.str x
inductive HO where
  | lst (xs:List V)
  | tup (xs:List V)
  | dK (kvs:List (Key×V)) | dT (kvs:List (List Key×V))
  | set (S:Int→Bool) (n:Nat)
  | ins (C dx:Addr) (fs:List (Str×V))
  | own (x:Addr)
  | xd (fs:List (Str×V))
  | met (f x:Addr)
  | rng (lo hi:Int)
  | fX (o:Obj) (u:HO)
  | tbl (ps:Array Value)
  | ext (φ:Heap→Prop)
abbrev Hp:=Addr→Option HO
def upd(H:Hp)(a:Addr)(o:HO):Hp:=λb=>if b=a then some o else H b
theorem aV{H:Hp}{a:Addr}{o:HO}:upd H a o a=some o:=by unfold upd;rw[if_pos rfl]
theorem aM{H:Hp}{a b:Addr}{o:HO}(h:b≠a):upd H a o b=H b:=by unfold upd;rw[if_neg h]
theorem DP{H:Hp}{a b:Addr}{o u:HO}(h:H a=some o)(h':H b=some u)(d:o≠u):a≠b:=by
 intro e;subst e;rw[h]at h';exact d (E4 h')
theorem bM{H:Hp}{a b:Addr}{o:HO}(h:H a=some o)(h':H b=none):a≠b:=by
 intro e;subst e;rw[h]at h';cases h'
section
variable(P:Program)(w:World)
def cG(H:Hp)(h:Heap)(a:Addr):HO→Prop
 | .lst xs=>xs.length≤sizeLine∧∃(its:List Value)(n:Nat),Vals xs its∧h.get? a=some {cls:=.type "list", data:=.seq its.toArray n}
 | .tup xs=>xs.length≤sizeLine∧∃its:List Value,Vals xs its∧IsTup h a its.toArray
 | .dK kvs=>kvs.length≤sizeLine∧(a==sysModules)=false∧∃vs,KV kvs vs∧h.DictOf (aX P w) a vs
 | .dT kvs=>kvs.length≤sizeLine∧(a==sysModules)=false∧∃xs:List (List Key×Addr×Value),
   Paired (λ(p:List Key×V) (q:List Key×Addr×Value)=>p.1=q.1∧H q.2.1=some (.tup (p.1.map kV))∧RelV p.2 q.2.2) kvs xs ∧
   ∃o es ep,h.get? a=some o∧o.ExactDict∧o.data=.dict es ep∧es.toList=xs.map (entryOfKey (tupleKind (aX P w)))∧(xs.map (·.1)).Nodup
 | .set S n=>h.SetOf (intKind P w) a S n
 | .ins C dx fs=>H dx=some (.own a)∧fs.length≤1000∧dx≠a∧h.get? a=some (V5 C dx) ∧
   ∃mA,h.Ns1 dx mA∧(∀f,Hh (fs.lookup f) (mA f))∧PySem.Within mA (fs.map (·.1))
 | .own _=>∃o,h.get? a=some o
 | .xd fs=>∃mA,h.Ns1 a mA∧∀f,Hh (fs.lookup f) (mA f)
 | .rng lo hi=>∃t u v,h.get? a=some {cls:=.type "range", data:=.fields #[.int lo t,.int hi u,.int 1 v]}
 | .fX o u=>h.get? a=some o∧cG H h a u
 | .tbl ps=>h.get? a=some {cls:=.none,data:=.fields ps}
 | .met f x=>h.get? a=some (O9 (.ref f) (.ref x))
 | .ext φ=>φ h∧(∃o,h.get? a=some o)∧∀h1 h2:Heap,φ h1→(∀o,h1.get? a=some o→h2.get? a=some o)→φ h2
def lV(H:Hp)(h:Heap):Prop:=∀a o,H a=some o→cG P w H h a o
end
section
variable{P:Program}{w:World}{H H':Hp}{h h':Heap}{a:Addr}{o:HO}
theorem cG.lt(x:cG P w H h a o):a<h.objs.size:=by
 cases o with
 | lst xs=>obtain⟨_,_,_,_,e⟩:=x;exact Heap.lt_size e
 | tup xs=>obtain⟨_,_,_,p⟩:=x;exact p.lt
 | dK kvs=>obtain⟨_,_,_,_,o,_,_,e,_⟩:=x;exact Heap.lt_size e
 | dT kvs=>obtain⟨_,_,_,_,o,_,_,e,_⟩:=x;exact Heap.lt_size e
 | set S n=>obtain⟨o,_,_,_,e,_⟩:=x;exact Heap.lt_size e
 | ins C dx fs=>obtain⟨_,_,_,e,_⟩:=x;exact Heap.lt_size e
 | own y=>obtain⟨_,e⟩:=x;exact Heap.lt_size e
 | xd fs=>obtain⟨_,⟨_,_,_,e,_⟩,_⟩:=x;exact Heap.lt_size e
 | rng lo hi=>obtain⟨_,_,_,e⟩:=x;exact Heap.lt_size e
 | fX ob u=>obtain⟨e,_⟩:=x;exact Heap.lt_size e
 | tbl ps=>exact Heap.lt_size (show h.get? a=some _ from x)
 | met f y=>exact Heap.lt_size (show h.get? a=some _ from x)
 | ext φ=>obtain⟨_,⟨_,e⟩,_⟩:=x;exact Heap.lt_size e
theorem Paired.Wh{α β:Type}{F G:α→β→Prop}:∀{l₁:List α} {l₂:List β},Paired F l₁ l₂→(∀a b,F a b→G a b)→Paired G l₁ l₂
 | _,_,.nil,_=>.nil
 | _,_,.cons r t,f=>.cons (f _ _ r) (Paired.Wh t f)
theorem cG.stay(x:cG P w H h a o)(k:∀b u,(b=a∨H b=some (.own a))→h.get? b=some u→h'.get? b=some u)
  (ho:∀b,H b=some (.own a)→H' b=some (.own a)) (ht:∀b xs,H b=some (.tup xs)→H' b=some (.tup xs)):cG P w H' h' a o:=by
 induction o with
 | lst xs=>obtain⟨z,its,n,r,e⟩:=x;exact⟨z,its,n,r,k _ _ (.inl rfl) e⟩
 | tup xs=>obtain⟨z,its,r,ob,e,c⟩:=x;exact⟨z,its,r,ob,k _ _ (.inl rfl) e,c⟩
 | dK kvs=>obtain⟨z,y,vs,r,ob,es,ep,e,c⟩:=x;exact⟨z,y,vs,r,ob,es,ep,k _ _ (.inl rfl) e,c⟩
 | dT kvs=>
  obtain⟨z,y,xs,r,ob,es,ep,e,c⟩:=x
  exact⟨z,y,xs,Paired.Wh r λp q z=>⟨z.1,ht _ _ z.2.1,z.2.2⟩,ob,es,ep,k _ _ (.inl rfl) e,c⟩
 | set S n=>obtain⟨ob,es,ep,t,e,c⟩:=x;exact⟨ob,es,ep,t,k _ _ (.inl rfl) e,c⟩
 | ins C dx fs=>
  obtain⟨d,z,ne,e,mA,⟨od,es,ep,e2,c⟩,r⟩:=x
  exact⟨ho _ d,z,ne,k _ _ (.inl rfl) e,mA,⟨od,es,ep,k _ _ (.inr d) e2,c⟩,r⟩
 | own y=>obtain⟨ob,e⟩:=x;exact⟨ob,k _ _ (.inl rfl) e⟩
 | xd fs=>obtain⟨mA,⟨od,es,ep,e,c⟩,r⟩:=x;exact⟨mA,⟨od,es,ep,k _ _ (.inl rfl) e,c⟩,r⟩
 | rng lo hi=>obtain⟨t,u,v,e⟩:=x;exact⟨t,u,v,k _ _ (.inl rfl) e⟩
 | fX ob u ih=>obtain⟨e,q⟩:=x;exact⟨k _ _ (.inl rfl) e,ih q⟩
 | tbl ps=>
  have e:h.get? a=some {cls:=.none,data:=.fields ps}:=x
  show h'.get? a=some {cls:=.none,data:=.fields ps}
  exact k a _ (.inl rfl) e
 | met f y=>
  have e:h.get? a=some (O9 (.ref f) (.ref y)):=x
  show h'.get? a=some (O9 (.ref f) (.ref y))
  exact k a _ (.inl rfl) e
 | ext φ=>obtain⟨p,⟨o,e⟩,st⟩:=x;exact⟨st _ _ p λo q=>k _ _ (.inl rfl) q,⟨o,k _ _ (.inl rfl) e⟩,st⟩
theorem lV.lt(x:lV P w H h)(e:H a=some o):a<h.objs.size:=(x a o e).lt
theorem lV.fresh(x:lV P w H h)(e:h.objs.size≤a):H a=none:=by
 cases q:H a with
 | none=>rfl
 | some u=>exact absurd (C4 (x.lt q) e) (F5 _)
theorem lV.kept(x:lV P w H h)(k:∀b u,h.get? b=some u→h'.get? b=some u):lV P w H h':=λa o e=>
 (x a o e).stay (λb u _ q=>k b u q) (λ_ q=>q) λ_ _ q=>q
theorem lV.laid(x:lV P w H h)(k:∀b u,h.get? b=some u→h'.get? b=some u)(hp:h.objs.size≤a)(new:cG P w (upd H a o) h' a o):lV P w (upd H a o) h':=λb u e=>by
 have hn:=x.fresh hp
 by_cases hb:b=a
 ·subst hb;rw[aV]at e;cases e;exact new
 ·rw[aM hb]at e
  exact(x b u e).stay (λc v _ q=>k c v q) (λc q=>by rw[aM (bM q hn)];exact q) λc xs q=>by rw[aM (bM q hn)];exact q
end
def Rd(H:Hp)(a:Addr)(u:HO):Prop:=H a=some u∨∃o,H a=some (.fX o u)
theorem Rd.ok{P:Program}{w:World}{H:Hp}{h:Heap}{a:Addr}{u:HO}(r:Rd H a u)(x:lV P w H h):cG P w H h a u:=by
 rcases r with r | ⟨o,r⟩
 ·exact x a u r
 ·obtain⟨_,q⟩:=x a _ r
  exact q
def CG:Option HO→Prop
 | some (.lst _)=>True
 | some (.dK _)=>True
 | some (.dT _)=>True
 | some (.set _ _)=>True
 | some (.ins _ _ _)=>True
 | some (.ext _)=>True
 | _=>False
section
variable{P:Program}{w:World}{H:Hp}{h h':Heap}{x e:Addr}{o':HO}
theorem lV.write(ok:lV P w H h)(mu:CG (H x))(he:e=x∨H e=some (.own x))(k:∀b u,b≠e→h.get? b=some u→h'.get? b=some u)(heo:∃u,h'.get? e=some u)
  (new:cG P w (upd H x o') h' x o'):lV P w (upd H x o') h':=λb u q=>by
 have Js:∀c y,H c=some (.own y)→c≠x:=λc y r z=>by subst z;rw[r]at mu;exact mu
 have Qj:∀c xs,H c=some (.tup xs)→c≠x:=λc xs r z=>by subst z;rw[r]at mu;exact mu
 by_cases hb:b=x
 ·subst hb;rw[aV]at q;cases q;exact new
 ·rw[aM hb]at q
  by_cases hbe:b=e
  ·have q':H b=some (.own x):=by
    rcases he with z | z
    ·exact absurd (hbe.trans z) hb
    ·rw[hbe];exact z
   rw[q]at q';cases q'
   obtain⟨v,hv⟩:=heo
   exact⟨v,by rw[hbe];exact hv⟩
  ·refine(ok b u q).stay (λc v hc r=>k c v ?_ r) (λc r=>by rw[aM (Js c b r)];exact r) λc xs r=>by rw[aM (Qj c xs r)];exact r
   rcases hc with rfl | hc
   ·exact hbe
   ·rintro rfl
    rcases he with z | z
    ·exact Js c b hc z
    ·rw[hc]at z;cases z;exact hb rfl
end
structure Un(fs ex:List Addr)(H H':Hp)(h h':Heap):Prop where
 keep:∀b o,h.get? b=some o→H b=none→b∉fs→b∉ex→h'.get? b=some o
 slot:∀b o,h.get? b=some o→H b=none→b∈fs→b∉ex→∃sl,h'.get? b=some {o with slots:=sl}
 free:∀b o,h.get? b=some o→H b=none→b∉ex→H' b=none
 there:∀b o,h.get? b=some o→b∉ex→∃o',h'.get? b=some o'
 tups:∀b xs,H b=some (.tup xs)→H' b=some (.tup xs)
 tY:∀b o u,H b=some (.fX o u)→H' b=some (.fX o u)
 vR:∀b ps,H b=some (.tbl ps)→∃more,H' b=some (.tbl (ps++more))
section
variable{fs fs' ex ex':List Addr}{H H1 H2:Hp}{h h1 h2 h':Heap}{a x e:Addr}{o:HO}
theorem Un.any(u:Un fs ex H H1 h h1){b:Addr}{ob:Obj}(q:h.get? b=some ob)(n:H b=none)(hx:b∉ex):∃sl,h1.get? b=some {ob with slots:=sl}:=by
 by_cases hb:b∈fs
 ·exact u.slot b ob q n hb hx
 ·exact⟨ob.slots,u.keep b ob q n hb hx⟩
theorem Un.kept(k:∀b u,h.get? b=some u→h'.get? b=some u):Un fs ex H H h h':=
 ⟨λb ob q _ _ _=>k b ob q,λb ob q _ _ _=>⟨ob.slots,k b ob q⟩,λ_ _ _ n _=>n,λb ob q _=>⟨ob,k b ob q⟩,λ_ _ q=>q,λ_ _ _ q=>q,λ_ ps q=>⟨#[],by rw[q];simp⟩⟩
theorem Un.refl:Un fs ex H H h h:=Un.kept λ_ _ q=>q
theorem Un.laid(k:∀b u,h.get? b=some u→h'.get? b=some u)(hp:h.objs.size≤a)(hn:H a=none):Un fs ex H (upd H a o) h h' where
 keep:=λb u q _ _ _=>k b u q
 slot:=λb u q _ _ _=>⟨u.slots,k b u q⟩
 free:=λb u q n _=>by rw[aM (C6 (C4 (Heap.lt_size q) hp))];exact n
 there:=λb u q _=>⟨u,k b u q⟩
 tups:=λb xs q=>by rw[aM (bM q hn)];exact q
 tY:=λb u xs q=>by rw[aM (bM q hn)];exact q
 vR:=λb ps q=>⟨#[],by rw[aM (bM q hn),q];simp⟩
theorem Un.write(mu:CG (H x))(he:e=x∨H e=some (.own x))(k:∀b u,b≠e→h.get? b=some u→h'.get? b=some u)(heo:∃u,h'.get? e=some u):Un fs ex H (upd H x o) h h':=by
 have hx:∀b,H b=none→b≠x:=λb n z=>by subst z;rw[n]at mu;exact mu
 have hb:∀b,H b=none→b≠e:=λb n z=>by
  subst z
  rcases he with r | r
  ·exact hx b n r
  ·rw[n]at r;cases r
 have hm:∀b u,H b=some u→¬CG (some u)→b≠x:=λb u q nm z=>by subst z;rw[q]at mu;exact nm mu
 refine⟨λb u q n _ _=>k b u (hb b n) q,λb u q n _ _=>⟨u.slots,k b u (hb b n) q⟩,λb u q n _=>by rw[aM (hx b n)];exact n,λb u q _=>?_,
  λb xs q=>by rw[aM (hm b _ q λz=>z)];exact q,λb u xs q=>by rw[aM (hm b _ q λz=>z)];exact q,λb ps q=>⟨#[],by rw[aM (hm b _ q λz=>z),q];simp⟩⟩
 by_cases hbe:b=e
 ·subst hbe;exact heo
 ·exact⟨u,k b u hbe q⟩
end
def LR(h:Heap)(H:Hp):List Addr:=(D3 h.objs.size).filter λa=>(H a).isSome
def vU(h:Heap)(H:Hp):Heap:=V6 h (LR h H)
theorem Hi(h:Heap)(H:Hp):(vU h H).objs.size=h.objs.size:=PySem.W.hideAll_size _ _
theorem Jt{h:Heap}{H:Hp}{b:Addr}{o:Obj}(e:h.get? b=some o)(n:H b=none):(vU h H).get? b=some o:=
 PySem.W.hideAll_get _ e λhm=>by
  have q:(H b).isSome=true:=(L4.mp hm).2
  rw[n]at q;simp at q
theorem Qk{h:Heap}{H:Hp}{b:Addr}{o:Obj}(e:(vU h H).get? b=some o):h.get? b=some o∧H b=none:=by
 have e':h.get? b=some o:=PySem.W.of_hideAll (LR h H) e
 refine⟨e',?_⟩
 cases q:H b with
 | none=>rfl
 | some x=>
  have hm:b∈LR h H:=L4.mpr ⟨D9.mpr (Heap.lt_size e'),by simp[q]⟩
  have z:(vU h H).get? b=none:=PySem.W.hideAll_none (LR h H) hm
  rw[z]at e;cases e
def Ql(g h:Heap)(L:Addr):List (Addr×Obj):=(D3 h.objs.size).filterMap λa=>if a=L∨(g.get? a).isSome=true then none else(h.get? a).map λo=>(a,o)
def rest(g h:Heap)(L d:Addr):List (Addr×Obj):=(Ql g h L).filter λp=>decide (p.1≠d)
end L2
namespace L2
open PySem PySem.Spec PyProof.Rows
structure Mod(K:aA)(mg:Str→Option Value)(base:Heap):Prop where
 QF:K.In base
 glob:base.Ns mainGlobals mg
 blt:∃mb,base.Ns builtinsNs mb∧∀x:Str,x ≠ "__name__" → mb x=bootBuiltins x
 nolimit:base.NoLimit
structure Cx where
 prog:Program
 w:World
 K:aA
 mg:Str→Option Value
 base:Heap
 A:Around
 N:List Str
 s₀:Shared
 H₀:Hp
 env:Env
 outer:List Env
 stack:List Env
 ex:List Addr
 fn:Str→Bool
 calm:Bool
 pn:List (Addr×Obj)
 xe:Value→Shared→Prop
def frs(l:List Env):List Addr:=l.filterMap (·.frame)
abbrev Cx.fs(X:Cx):List Addr:=frs X.outer
def MF(sc:Scope)(x:Str):Prop:=sc.names.lookup x=some .local∨sc.names.lookup x=some .cell∨sc.names.lookup x=some .free
def Loc(sc:Scope)(x:Str):Prop:=sc.names.lookup x=some .local∨sc.names.lookup x=some .cell
def Look(env:Env)(h:Heap)(m:Str→Option Value)(x:Str)(u:Value):Prop:=
 (env.kindOf x=some .local∧m x=some u)∨((env.kindOf x=some .cell∨env.kindOf x=some .free)∧∃c,env.cells.lookup x=some c∧h.IsCell c (some u))
structure Cx.Ok(X:Cx):Prop where
 mod:Mod X.K X.mg X.base
 kind:X.env.scope.kind=.function
 glob:X.env.globals=mainGlobals
 blt:X.env.builtins=builtinsNs
 above:X.s₀.heap.objs.size≤X.env.locals
 inj:∀x y c,X.env.cells.lookup x=some c→X.env.cells.lookup y=some c→x=y
 has:∀x,(X.env.kindOf x=some .cell∨X.env.kindOf x=some .free)→∃c,X.env.cells.lookup x=some c
 cab:∀x c,X.fn x=true→X.env.cells.lookup x=some c→X.s₀.heap.objs.size≤c
 hd:X.calm=true→X.A.handled=none
 frames:X.A.frames=some X.stack
 MJ:X.stack=X.outer∨(X.stack=X.env::X.outer∧X.env.frame=some X.env.locals)
 VL:∀b∈X.ex,b≠X.env.locals∧∀x c,X.env.cells.lookup x=some c→c≠b
 bs:∀b o,X.base.get? b=some o→X.s₀.heap.get? b=some o∧X.H₀ b=none
 Uv:X.base.objs.size≤X.s₀.heap.objs.size
 Ju:∀b o,X.base.get? b=some o→b∉X.ex
 Qm:∀b∈X.ex,b∉X.fs
 qH:X.s₀.heap.FunFrames X.base X.outer
 CJ:∀b∈X.fs,X.H₀ b=none
structure Inv(X:Cx)(pins:List (Addr×Obj))(σ:List (Option V))(H:Hp)(s:Shared):Prop where
 ok:X.Ok
 os:s.os=X.s₀.os
 bare:AllBare s.gens
 base:Un X.fs X.ex X.H₀ H X.s₀.heap s.heap
 loc:∃m,s.heap.Ns X.env.locals m∧∀(i:Nat)(x:Str)(v:V),X.N[i]?=some x→σ[i]?=some (some v)→MF X.env.scope x→∃u,RelV v u∧Look X.env s.heap m x u
 cell:∀x c,X.env.cells.lookup x=some c→∃v,s.heap.IsCell c v
 free:H X.env.locals=none
 fY:∀x c,X.env.cells.lookup x=some c→H c=none
 pin:∀p∈X.pn++pins,s.heap.get? p.1=some p.2∧H p.1=none∧p.1≠X.env.locals∧p.1∉X.fs∧∀v,p.2.data≠.cell v
 hok:lV X.prog X.w H s.heap
 len:σ.length=X.N.length
section
variable{X:Cx}{pins:List (Addr×Obj)}{σ:List (Option V)}{H H':Hp}{s:Shared}{h':Heap}
theorem Cx.Ok.QG(ok:X.Ok){b:Addr}{o:Obj}(e:X.base.get? b=some o):b∉X.fs:=λhb=>by
 have:=(ok.qH.mem hb).1
 rw[e]at this;cases this
theorem Inv.bs(I:Inv X pins σ H s):∀b o,X.base.get? b=some o→s.heap.get? b=some o∧H b=none:=λb o e=>
 ⟨I.base.keep b o (I.ok.bs b o e).1 (I.ok.bs b o e).2 (I.ok.QG e) (I.ok.Ju b o e),I.base.free b o (I.ok.bs b o e).1 (I.ok.bs b o e).2 (I.ok.Ju b o e)⟩
theorem Inv.bk(I:Inv X pins σ H s):∀b o,X.base.get? b=some o→s.heap.get? b=some o:=λb o e=>(I.bs b o e).1
theorem Inv.mod(I:Inv X pins σ H s):Mod X.K X.mg X.base:=I.ok.mod
theorem Inv.CK(I:Inv X pins σ H s):X.K.In s.heap:=I.ok.mod.QF.keeps I.bk
theorem Inv.lt(I:Inv X pins σ H s):X.env.locals<s.heap.objs.size:=let ⟨_,hn,_⟩:=I.loc;hn.lt
theorem Inv.sz(I:Inv X pins σ H s):X.s₀.heap.objs.size≤s.heap.objs.size:=F1 I.ok.above (K7 I.lt)
theorem Inv.QH(I:Inv X pins σ H s){a:Addr}(h:s.heap.objs.size≤a):a∉X.fs:=λhb=>by
 obtain⟨_,o,ho,_⟩:=I.ok.qH.mem hb
 exact absurd (C4 (Heap.lt_size ho) (F1 I.sz h)) (F5 _)
theorem Inv.Qd(I:Inv X pins σ H s):∀x c,X.env.cells.lookup x=some c→c≠X.env.locals:=λx c e z=>by
 obtain⟨v,o,ho,hd⟩:=I.cell x c e
 obtain⟨m,⟨o',es,ep,ho',hd',_⟩,_⟩:=I.loc
 rw[z,ho']at ho;cases ho;rw[hd']at hd;cases hd
theorem Inv.qH(I:Inv X pins σ H s):s.heap.FunFrames X.base X.outer:=by
 have all:∀(l:List Env),(∀b∈frs l,b∈X.fs)→X.s₀.heap.FunFrames X.base l→s.heap.FunFrames X.base l:=by
  intro l
  induction l with
  | nil=>intro _ _;trivial
  | cons env r ih=>
   intro hs hl
   obtain⟨hk,⟨L,o,hf,hn,ho,hd⟩,hr⟩:=hl
   have hL:L∈X.fs:=hs L (by unfold frs;rw[G5,hf];exact B7)
   obtain⟨sl,e⟩:=I.base.slot L o ho (I.ok.CJ L hL) hL λz=>I.ok.Qm L z hL
   exact⟨hk,⟨L,_,hf,hn,e,hd⟩,ih (λb hb=>hs b (by unfold frs;rw[G5,hf];exact B4 _ hb)) hr⟩
 exact all X.outer (λ_ hb=>hb) I.ok.qH
theorem Inv.stack(I:Inv X pins σ H s):s.heap.FunFrames X.base X.stack:=by
 rcases I.ok.MJ with e | ⟨e,hf⟩
 ·rw[e];exact I.qH
 ·rw[e]
  obtain⟨m,hn,_⟩:=I.loc
  refine .cons (by rw[I.ok.kind];decide) hf hn ?_ I.qH
  exact Heap.get?_none_of_le (F1 I.ok.Uv I.ok.above)
theorem Inv.vV(I:Inv X pins σ H s):∀b∈frs X.stack,b∈X.env.locals::X.fs:=λb hb=>by
 rcases I.ok.MJ with e | ⟨e,hf⟩
 ·rw[e]at hb;exact B4 _ hb
 ·rw[e]at hb
  unfold frs at hb
  rw[G5,hf]at hb
  exact hb
theorem Inv.Ek(I:Inv X pins σ H s):∀b∈frs X.stack,H b=none:=λb hb=>by
 rcases B6.mp (I.vV b hb)with e | hb
 ·rw[e];exact I.free
 ·obtain⟨_,o,ho,_⟩:=I.ok.qH.mem hb
  exact I.base.free b o ho (I.ok.CJ b hb) λz=>I.ok.Qm b z hb
theorem Inv.step{g':Array GenState}{t':Nat}{d':Drawn}{ch:List Addr}(I:Inv X pins σ H s)
  (hch:∀b∈ch,(b∈X.ex∨X.s₀.heap.objs.size≤b)∧b≠X.env.locals∧(∀x c,X.env.cells.lookup x=some c→c≠b)∧∀p∈X.pn++pins,p.1≠b)
  (keep:∀b o,b≠X.env.locals→b∉X.fs→b∉ch→s.heap.get? b=some o→H b=none→h'.get? b=some o)
  (slot:∀b o,b≠X.env.locals→b∈X.fs→b∉ch→s.heap.get? b=some o→H b=none→∃sl,h'.get? b=some {o with slots:=sl}) (free:∀b o,b∉ch→s.heap.get? b=some o→H b=none→H' b=none)
  (there:∀b o,b∉ch→s.heap.get? b=some o→∃o',h'.get? b=some o')
  (tups:∀b xs,H b=some (.tup xs)→H' b=some (.tup xs)) (tY:∀b o u,H b=some (.fX o u)→H' b=some (.fX o u)) (vR:∀b ps,H b=some (.tbl ps)→∃more,H' b=some (.tbl (ps++more)))
  (ns:∀m,s.heap.Ns X.env.locals m→h'.Ns X.env.locals m) (hok:lV X.prog X.w H' h') (hg:AllBare g') :
  Inv X pins σ H' {s with heap:=h',gens:=g',drawn:=d',toks:=t'}:=by
 have VM:∀b o,X.s₀.heap.get? b=some o→b≠X.env.locals:=λb o e=>C6 (C4 (Heap.lt_size e) I.ok.above)
 have CN:∀b o,X.s₀.heap.get? b=some o→b∉X.ex→b∉ch:=λb o e hx hb=>by
  rcases(hch b hb).1 with z | z
  ·exact hx z
  ·exact absurd (C4 (Heap.lt_size e) z) (F5 _)
 have cellK:∀x c,X.env.cells.lookup x=some c→∀v,s.heap.IsCell c v→h'.IsCell c v:=λx c e v ⟨o,ho,hd⟩=>by
  have DQ:c∉ch:=λz=>(hch c z).2.2.1 x c e rfl
  by_cases hc:c∈X.fs
  ·obtain⟨sl,q⟩:=slot c o (I.Qd x c e) hc DQ ho (I.fY x c e)
   exact⟨_,q,hd⟩
  ·exact⟨o,keep c o (I.Qd x c e) hc DQ ho (I.fY x c e),hd⟩
 refine⟨I.ok,I.os,hg,⟨λb o e n hb hx=>?_,λb o e n hb hx=>?_,λb o e n hx=>?_,λb o e hx=>?_,λb xs e=>tups b xs (I.base.tups b xs e),λb o xs e=>tY b o xs (I.base.tY b o xs e),λb ps e=>?_⟩,?_,λx c e=>?_,?_,λx c e=>?_,λp hp=>?_,hok,I.len⟩
 ·exact keep b o (VM b o e) hb (CN b o e hx) (I.base.keep b o e n hb hx) (I.base.free b o e n hx)
 ·obtain⟨sl,e1⟩:=I.base.slot b o e n hb hx
  obtain⟨sl',e2⟩:=slot b _ (VM b o e) hb (CN b o e hx) e1 (I.base.free b o e n hx)
  exact⟨sl',e2⟩
 ·obtain⟨o',e1⟩:=I.base.there b o e hx
  exact free b o' (CN b o e hx) e1 (I.base.free b o e n hx)
 ·obtain⟨o',e1⟩:=I.base.there b o e hx
  exact there b o' (CN b o e hx) e1
 ·obtain⟨m1,e1⟩:=I.base.vR b ps e
  obtain⟨m2,e2⟩:=vR b _ e1
  exact⟨m1++m2,by rw[e2,Array.append_assoc]⟩
 ·obtain⟨m,hn,hl⟩:=I.loc
  refine⟨m,ns m hn,λi x v e1 e2 e3=>?_⟩
  obtain⟨u,r,l⟩:=hl i x v e1 e2 e3
  refine⟨u,r,?_⟩
  rcases l with l | ⟨k,c,e,z⟩
  ·exact .inl l
  ·exact .inr ⟨k,c,e,cellK x c e _ z⟩
 ·obtain⟨v,z⟩:=I.cell x c e
  exact⟨v,cellK x c e v z⟩
 ·obtain⟨m,⟨o,_,_,ho,_⟩,_⟩:=I.loc
  exact free _ o (λz=>(hch _ z).2.1 rfl) ho I.free
 ·obtain⟨v,o,ho,hd⟩:=I.cell x c e
  exact free c o (λz=>(hch c z).2.2.1 x c e rfl) ho (I.fY x c e)
 ·obtain⟨e,n,ne,nf,d⟩:=I.pin p hp
  have DQ:p.1∉ch:=λz=>(hch p.1 z).2.2.2 p hp rfl
  exact⟨keep p.1 p.2 ne nf DQ e n,free p.1 p.2 DQ e n,ne,nf,d⟩
theorem Inv.un{t':Nat}(I:Inv X pins σ H s)(u:Un X.fs [] H H' s.heap h')(hok:lV X.prog X.w H' h'):Inv X pins σ H' {s with heap:=h',toks:=t'}:=by
 obtain⟨m,⟨o,es,ep,ho,r⟩,_⟩:=id I.loc
 obtain⟨sl,hL⟩:=u.any ho I.free (by simp)
 exact I.step (g':=s.gens) (d':=s.drawn) (ch:=[]) (λ_ z=>nomatch z) (λb o _ hb _ e n=>u.keep b o e n hb (by simp)) (λb o _ hb _ e n=>u.slot b o e n hb (by simp)) (λb o _ e n=>u.free b o e n (by simp)) (λb o _ e=>u.there b o e (by simp)) u.tups u.tY u.vR (λm' hm=>by
  obtain⟨o',es',ep',ho',r'⟩:=hm
  rw[ho]at ho';cases ho'
  exact⟨_,es',ep',hL,r'⟩) hok I.bare
theorem Inv.call{g':Array GenState}{t':Nat}{d':Drawn}{ch:List Addr}(I:Inv X pins σ H s)(u:Un (frs X.stack) ch H H' s.heap h')(hok:lV X.prog X.w H' h')(hg:AllBare g')
  (hch:∀b∈ch,(b∈X.ex∨X.s₀.heap.objs.size≤b)∧b≠X.env.locals∧(∀x c,X.env.cells.lookup x=some c→c≠b)∧∀p∈X.pn++pins,p.1≠b) :
  Inv X pins σ H' {s with heap:=h',gens:=g',drawn:=d',toks:=t'}:=by
 obtain⟨m,⟨o,es,ep,ho,r⟩,_⟩:=id I.loc
 obtain⟨sl,hL⟩:=u.any ho I.free λz=>(hch _ z).2.1 rfl
 exact I.step (ch:=ch) hch (λb o hL hb hc e n=>u.keep b o e n (λz=>(B6.mp (I.vV b z)).elim hL hb) hc) (λb o _ _ hc e n=>u.any e n hc) (λb o hc e n=>u.free b o e n hc) (λb o hc e=>u.there b o e hc) u.tups u.tY u.vR (λm' hm=>by
  obtain⟨o',es',ep',ho',r'⟩:=hm
  rw[ho]at ho';cases ho'
  exact⟨_,es',ep',hL,r'⟩) hok hg
theorem Inv.turned{t':Nat}{it:Addr}(I:Inv X pins σ H s)(k:∀b o,b≠it→s.heap.get? b=some o→h'.get? b=some o)(hn:H it=none)(hL:it≠X.env.locals)
  (h1:it∈X.ex∨X.s₀.heap.objs.size≤it) (h2:∀x c,X.env.cells.lookup x=some c→c≠it) (h3:∀p∈X.pn++pins,p.1≠it):Inv X pins σ H {s with heap:=h',toks:=t'}:=by
 have VN:∀b u,H b=some u→b≠it:=λb u e z=>by rw[z,hn]at e;cases e
 refine I.step (g':=s.gens) (d':=s.drawn) (ch:=[it]) (λb hb=>?_) (λb o _ _ hc e _=>k b o (λz=>hc (by simp[z])) e) (λb o _ _ hc e _=>⟨o.slots,k b o (λz=>hc (by simp[z])) e⟩) (λ_ _ _ _ n=>n)
  (λb o hc e=>⟨o,k b o (λz=>hc (by simp[z])) e⟩) (λ_ _ e=>e) (λ_ _ _ e=>e) (λb ps e=>⟨#[],by rw[e];simp⟩) (λm hm=>?_) (λb u e=>?_) I.bare
 ·have e:b=it:=by simpa using hb
  subst e
  exact⟨h1,hL,h2,h3⟩
 ·obtain⟨o,es,ep,ho,r⟩:=hm
  exact⟨o,es,ep,k _ o (Ne.symm hL) ho,r⟩
 ·refine(I.hok b u e).stay (λc v hc q=>k c v ?_ q) (λ_ q=>q) λ_ _ q=>q
  rcases hc with z | z
  ·rw[z];exact VN b u e
  ·exact VN c _ z
theorem Inv.tok(I:Inv X pins σ H s)(t:Nat):Inv X pins σ H {s with toks:=t}:=I.un (h':=s.heap) (t':=t) Un.refl I.hok
theorem Inv.kept{t':Nat}(I:Inv X pins σ H s)(k:∀b u,s.heap.get? b=some u→h'.get? b=some u):Inv X pins σ H {s with heap:=h',toks:=t'}:=I.un (Un.kept k) (I.hok.kept k)
theorem Inv.laid{a:Addr}{o:HO}{t':Nat}(I:Inv X pins σ H s)(k:∀b u,s.heap.get? b=some u→h'.get? b=some u)(hp:s.heap.objs.size≤a)(new:cG X.prog X.w (upd H a o) h' a o) :
  Inv X pins σ (upd H a o) {s with heap:=h',toks:=t'}:=I.un (Un.laid k hp (I.hok.fresh hp)) (I.hok.laid k hp new)
theorem Inv.write{x e:Addr}{o:HO}{t':Nat}(I:Inv X pins σ H s)(mu:CG (H x))(he:e=x∨H e=some (.own x))(k:∀b u,b≠e→s.heap.get? b=some u→h'.get? b=some u)(heo:∃u,h'.get? e=some u)
  (new:cG X.prog X.w (upd H x o) h' x o):Inv X pins σ (upd H x o) {s with heap:=h',toks:=t'}:=I.un (Un.write mu he k heo) (I.hok.write mu he k heo new)
theorem Inv.weak{σ':List (Option V)}(I:Inv X pins σ H s)(hl:σ'.length=σ.length)(w:∀(i:Nat) v,σ'[i]?=some (some v)→σ[i]?=some (some v)):Inv X pins σ' H s:=
 ⟨I.ok,I.os,I.bare,I.base,let ⟨m,hn,hl'⟩:=I.loc;⟨m,hn,λi x v e1 e2 e3=>hl' i x v e1 (w i v e2) e3⟩,I.cell,I.free,I.fY,I.pin,I.hok,hl.trans I.len⟩
theorem Inv.vW{Jv:List (Addr×Obj)}(I:Inv X pins σ H s)(h:∀p∈Jv,s.heap.get? p.1=some p.2∧H p.1=none∧p.1≠X.env.locals∧p.1∉X.fs∧∀v,p.2.data≠.cell v):Inv X Jv σ H s:=
 ⟨I.ok,I.os,I.bare,I.base,I.loc,I.cell,I.free,I.fY,λp hp=>(D4.mp hp).elim (λz=>I.pin p (E1 _ z)) (h p),I.hok,I.len⟩
theorem yR{N:List Str}(hN:N.Nodup){i j:Nat}{x:Str}(a:N[i]?=some x)(b:N[j]?=some x):i=j:=by
 obtain⟨h1,e1⟩:=C3.mp a
 obtain⟨h2,e2⟩:=C3.mp b
 exact(List.getElem_inj hN).mp (e1.trans e2.symm)
theorem uG{M:Model}{A:Around}{E:Value→Shared→Prop}{i:Nat}{x:Str}{v:V}{u:Value}{Q:Unit→Shared→Prop}(I:Inv X pins σ H s)(hN:X.N.Nodup)(hi:X.N[i]?=some x)(hx:Loc X.env.scope x)(r:RelV v u)
  (h:∀s',Inv X pins (σ.set i (some v)) H s'→(∃a,Heap.SameBut a s.heap s'.heap∧(a=X.env.locals∨X.env.cells.lookup x=some a))→Q () s') (hf:X.fn x=true∨X.env.scope.names.lookup x=some .local:=by first | exact .inl rfl | exact .inr rfl | assumption):wpAny M A (storeName X.env x u) Q E s:=by
 obtain⟨m,hn,hl⟩:=id I.loc
 have hcls:(X.env.scope.kind==.class||(X.env.scope.kind==.module&&X.env.locals != X.env.globals))=false:=by rw[I.ok.kind];rfl
 have VP:i<σ.length:=by rw[I.len];exact(C3.mp hi).1
 have Qd:=I.Qd
 have tracked:∀{a:Addr} {h':Heap},(∃o,s.heap.get? a=some o∧H a=none)→Heap.SameBut a s.heap h'→lV X.prog X.w H h':=λ{a h'} ha hs b ob e=>by
  obtain⟨_,_,hfree⟩:=ha
  refine(I.hok b ob e).stay (λc w' hc q=>(hs.2 c ?_).trans q) (λ_ q=>q) λ_ _ q=>q
  rintro rfl
  rcases hc with rfl | hc
  ·rw[hfree]at e;cases e
  ·rw[hfree]at hc;cases hc
 rcases hx with hk | hk
 ·refine wpAny_storeName_local hk hn (λh' hn' hs=>?_) hcls
  obtain⟨oL,_,_,hoL,_⟩:=id hn
  refine h _ ⟨I.ok,I.os,I.bare,⟨λb o e n hb hx=>?_,λb o e n hb hx=>?_,I.base.free,λb o e hx=>?_,I.base.tups,I.base.tY,I.base.vR⟩,⟨_,hn',λj y v' e1 e2 e3=>?_⟩,λy c e=>?_,I.free,I.fY,λp hp=>?_,tracked ⟨oL,hoL,I.free⟩ hs,by simpa using I.len⟩ ⟨_,hs,.inl rfl⟩
  ·exact(hs.2 b (C6 (C4 (Heap.lt_size e) I.ok.above))).trans (I.base.keep b o e n hb hx)
  ·obtain⟨sl,e1⟩:=I.base.slot b o e n hb hx
   exact⟨sl,(hs.2 b (C6 (C4 (Heap.lt_size e) I.ok.above))).trans e1⟩
  ·obtain⟨o',e1⟩:=I.base.there b o e hx
   exact⟨o',(hs.2 b (C6 (C4 (Heap.lt_size e) I.ok.above))).trans e1⟩
  ·by_cases hj:j=i
   ·subst hj
    rw[hi]at e1;cases e1
    rw[R6 VP]at e2
    cases e2
    exact⟨u,r,.inl ⟨hk,by simp⟩⟩
   ·rw[T1 (Ne.symm hj)]at e2
    obtain⟨u',r',q⟩:=hl j y v' e1 e2 e3
    refine⟨u',r',?_⟩
    rcases q with ⟨k,e⟩ | ⟨k,c,e,z⟩
    ·refine .inl ⟨k,?_⟩
     have:y≠x:=λe=>hj (yR hN e1 (e▸hi))
     simp[this,e]
    ·exact .inr ⟨k,c,e,z.sameBut hs (Qd y c e)⟩
  ·obtain⟨w',z⟩:=I.cell y c e
   exact⟨w',z.sameBut hs (Qd y c e)⟩
  ·obtain⟨e,n,ne,nf,d⟩:=I.pin p hp
   exact⟨(hs.2 p.1 ne).trans e,n,ne,nf,d⟩
 ·have hfn:X.fn x=true:=by
   rcases hf with z | z
   ·exact z
   ·rw[z]at hk;cases hk
  obtain⟨c,hc⟩:=I.ok.has x (.inl hk)
  obtain⟨w',z⟩:=I.cell x c hc
  refine wpAny_storeName_cell I.ok.kind hk hc z (λh' hc' hs=>?_)
  obtain⟨oc,hoc,QJ⟩:=id z
  refine h {s with heap:=h'} ⟨I.ok,I.os,I.bare,⟨λb o e n hb hx=>?_,λb o e n hb hx=>?_,I.base.free,λb o e hx=>?_,I.base.tups,I.base.tY,I.base.vR⟩,⟨m,hn.sameBut hs (Ne.symm (Qd x c hc)),λj y v' e1 e2 e3=>?_⟩,λy c' e=>?_,I.free,I.fY,λp hp=>?_,tracked ⟨oc,hoc,I.fY x c hc⟩ hs,by simpa using I.len⟩ ⟨c,hs,.inr hc⟩
  ·exact(hs.2 b (C6 (C4 (Heap.lt_size e) (I.ok.cab x c hfn hc)))).trans (I.base.keep b o e n hb hx)
  ·obtain⟨sl,e1⟩:=I.base.slot b o e n hb hx
   exact⟨sl,(hs.2 b (C6 (C4 (Heap.lt_size e) (I.ok.cab x c hfn hc)))).trans e1⟩
  ·obtain⟨o',e1⟩:=I.base.there b o e hx
   exact⟨o',(hs.2 b (C6 (C4 (Heap.lt_size e) (I.ok.cab x c hfn hc)))).trans e1⟩
  ·by_cases hj:j=i
   ·subst hj
    rw[hi]at e1;cases e1
    rw[R6 VP]at e2
    cases e2
    exact⟨u,r,.inr ⟨.inl hk,c,hc,hc'⟩⟩
   ·rw[T1 (Ne.symm hj)]at e2
    obtain⟨u',r',q⟩:=hl j y v' e1 e2 e3
    refine⟨u',r',?_⟩
    rcases q with q | ⟨k,c',e,z'⟩
    ·exact .inl q
    ·refine .inr ⟨k,c',e,z'.sameBut hs ?_⟩
     rintro rfl
     exact hj (yR hN e1 (I.ok.inj _ _ _ e hc▸hi))
  ·by_cases hcc:c'=c
   ·subst hcc;exact⟨_,hc'⟩
   ·obtain⟨w2,z2⟩:=I.cell y c' e
    exact⟨w2,z2.sameBut hs hcc⟩
  ·obtain⟨e,n,ne,nf,d⟩:=I.pin p hp
   refine⟨(hs.2 p.1 ?_).trans e,n,ne,nf,d⟩
   intro q
   rw[q,hoc]at e
   have q':oc=p.2:=E4 e
   exact d w' (by rw[←q'];exact QJ)
theorem yS{M:Model}{A:Around}{E:Value→Shared→Prop}{i:Nat}{x:Str}{v:V}{u:Value}{Q:Unit→Shared→Prop}(I:Inv X pins σ H s)(hN:X.N.Nodup)(hi:X.N[i]?=some x)(hx:Loc X.env.scope x)(r:RelV v u)
  (h:∀s',Inv X pins (σ.set i (some v)) H s'→Q () s') (hf:X.fn x=true∨X.env.scope.names.lookup x=some .local:=by first | exact .inl rfl | exact .inr rfl | assumption):wpAny M A (storeName X.env x u) Q E s:=
 uG I hN hi hx r (λs' I' _=>h s' I') hf
theorem Inv.call'{s':Shared}{ch:List Addr}(I:Inv X pins σ H s)(ho:s'.os=s.os)(u:Un (frs X.stack) ch H H' s.heap s'.heap)(hok:lV X.prog X.w H' s'.heap)(hg:AllBare s'.gens)
  (hch:∀b∈ch,(b∈X.ex∨X.s₀.heap.objs.size≤b)∧b≠X.env.locals∧(∀x c,X.env.cells.lookup x=some c→c≠b)∧∀p∈X.pn++pins,p.1≠b):Inv X pins σ H' s':=by
 obtain⟨h',g',d',t',o'⟩:=s'
 have e:o'=s.os:=ho
 subst e
 exact I.call (g':=g') (t':=t') (d':=d') u hok hg hch
end
abbrev XK:=Value→Option Addr→Hp→Prop
abbrev St:=List (Option V)
abbrev VK:=V→Hp→Prop
abbrev TE:=St→Hp→VK→Prop
abbrev TT:=St→Hp→(Bool→Hp→Prop)→Prop
abbrev TA:=St→Hp→(List V→Hp→Prop)→Prop
structure Ends where
 nx:St→Hp→Prop
 rt:VK
 bk:St→Hp→Prop:=λ_ _=>False
 ct:St→Hp→Prop:=λ_ _=>False
abbrev TS:=Ends→St→Hp→Prop
def EP(X:Cx)(pins:List (Addr×Obj))(σ:St)(Q:VK)(u:Value)(s':Shared):Prop:=∃v H',Inv X pins σ H' s'∧RelV v u∧Q v H'
def TP(X:Cx)(pins:List (Addr×Obj))(σ:St)(Q:Bool→Hp→Prop)(b:Bool)(s':Shared):Prop:=∃H',Inv X pins σ H' s'∧Q b H'
def AP(X:Cx)(pins:List (Addr×Obj))(σ:St)(Q:List V→Hp→Prop)(us:List Value)(s':Shared):Prop:=∃vs H',Inv X pins σ H' s'∧Vals vs us∧Q vs H'
def SP(X:Cx)(pins:List (Addr×Obj))(D:Ends)(f:Flow)(s':Shared):Prop:=
 match f with
 | .next=>∃σ' H',Inv X pins σ' H' s'∧D.nx σ' H'
 | .brk=>∃σ' H',Inv X pins σ' H' s'∧D.bk σ' H'
 | .cont=>∃σ' H',Inv X pins σ' H' s'∧D.ct σ' H'
 | .ret u=>∃v σ' H',Inv X pins σ' H' s'∧RelV v u∧D.rt v H'
def PE(X:Cx)(e:Expr)(t:TE):Prop:=
 ∀(pins:List (Addr×Obj))(s:Shared)(σ:St)(H:Hp)(Q:VK),Inv X pins σ H s→t σ H Q→wpAny (model X.prog X.w) X.A (eval e X.env) (EP X pins σ Q) X.xe s
def PT(X:Cx)(e:Expr)(t:TT):Prop:=
 ∀(pins:List (Addr×Obj))(s:Shared)(σ:St)(H:Hp)(Q:Bool→Hp→Prop),Inv X pins σ H s→t σ H Q→wpAny (model X.prog X.w) X.A (isTrue e X.env (eval e X.env)) (TP X pins σ Q) X.xe s
def PW(X:Cx)(e:Expr)(t:TT):Prop:=
 ∀(whole:Sem Value)(pins:List (Addr×Obj))(s:Shared)(σ:St)(H:Hp)(Q:Bool→Hp→Prop),Inv X pins σ H s→t σ H Q→wpAny (model X.prog X.w) X.A (isTrue e X.env whole) (TP X pins σ Q) X.xe s
theorem PW.pt{X:Cx}{e:Expr}{t:TT}(h:PW X e t):PT X e t:=h _
def PA(X:Cx)(es:List Expr)(t:TA):Prop:=
 ∀(pos:Pos)(pins:List (Addr×Obj))(s:Shared)(σ:St)(H:Hp)(Q:List V→Hp→Prop),Inv X pins σ H s→t σ H Q→wpAny (model X.prog X.w) X.A (spliced (backTo pos (starEach es X.env))) (AP X pins σ Q) X.xe s
def PS(X:Cx)(st:Stmt)(t:TS):Prop:=
 ∀(pins:List (Addr×Obj))(s:Shared)(σ:St)(H:Hp)(D:Ends),Inv X pins σ H s→t D σ H→wpAny (model X.prog X.w) X.A (exec st X.env) (SP X pins D) X.xe s
def yU(X:Cx)(st:List Stmt)(t:TS):Prop:=
 ∀(pins:List (Addr×Obj))(s:Shared)(σ:St)(H:Hp)(D:Ends),Inv X pins σ H s→t D σ H→wpAny (model X.prog X.w) X.A (execs st X.env) (SP X pins D) X.xe s
theorem cD{α:Type}{t:Sem α}{Q Q':α→Shared→Prop}{M:Model}{A:Around}{E:Value→Shared→Prop}{s:Shared}(h:wpAny M A t Q E s)(hQ:∀a s,Q a s→Q' a s):wpAny M A t Q' E s:=wpAny_mono h hQ λ_ _ x=>x
end L2
namespace L2
open PySem PySem.Spec PyProof.Rows
section
variable{X:Cx}
def gU(i:Nat):TE:=λσ H Q=>∃v,σ[i]?=some (some v)∧Q v H
def tC(v:V):TE:=λ_ H Q=>Q v H
theorem Wi{i:Nat}{x:Str}{pos:Pos}(hN:X.N[i]?=some x)(hv:MF X.env.scope x)(hd:(x==("__debug__" : Str))=false:=by decide) (hcd:(x==("__classdict__" : Str))=false:=by decide):PE X (.Name x pos) (gU i):=by
  intro pins s σ H Q I h
  obtain⟨v,e,h⟩:=h
  obtain⟨m,hn,hl⟩:=I.loc
  obtain⟨u,r,l⟩:=hl i x v hN e hv
  have fin:EP X pins σ Q u s:=⟨v,H,I,r,h⟩
  rcases l with ⟨hk,hm⟩ | ⟨hk,c,hc,hcell⟩
  · exact wpAny_Name (wpAny_loadName_local I.ok.kind hk hn hm fin) hd
  · rcases hk with hk | hk
    · exact wpAny_Name (wpAny_loadName_cell I.ok.kind hk hc hcell fin) hd
    · exact wpAny_Name (wpAny_loadName_free I.ok.kind hk hc hcell fin hcd) hd
theorem Wj{i j pos}:PE X (.Constant (.int i) j pos) (tC (.int i)):=λ_ _ _ H _ I h=>wpAny_Constant_int ⟨.int i,H,I.tok _,⟨_,rfl⟩,h⟩
theorem Uw{b j pos}:PE X (.Constant (.bool b) j pos) (tC (.bl b)):=λ_ _ _ H _ I h=>Constant_bool ⟨.bl b,H,I,rfl,h⟩
def Gl(X:Cx)(x:Str):Prop:=X.env.kindOf x=some .globalImplicit
theorem Qn{E:Value→Shared→Prop}{pins:List (Addr×Obj)}{s:Shared}{σ:St}{H:Hp}{x:Str}{u:Value}{pos:Pos}{Q:Value→Shared→Prop}(I:Inv X pins σ H s)(hg:Gl X x)(hm:X.mg x=some u)(h:Q u s)
  (hd:(x==("__debug__" : Str))=false:=by decide):wpAny (model X.prog X.w) X.A (eval (.Name x pos) X.env) Q E s:=
 Calls.Name_function_global I.ok.kind hg (Calls.loadGlobal_global (by rw[I.ok.glob];exact I.mod.glob.keeps I.bk) hm h) hd
theorem lW{E:Value→Shared→Prop}{pins:List (Addr×Obj)}{s:Shared}{σ:St}{H:Hp}{x:Str}{u:Value}{pos:Pos}{Q:Value→Shared→Prop}(I:Inv X pins σ H s)(hg:Gl X x)(hm:X.mg x=none)(hv:bootBuiltins x=some u)(h:Q u s)
  (hn:x ≠ "__name__" := by decide) (hd:(x==("__debug__" : Str))=false:=by decide):wpAny (model X.prog X.w) X.A (eval (.Name x pos) X.env) Q E s:=by
 obtain⟨mb,h1,h2⟩:=I.mod.blt
 exact Calls.Name_function_global I.ok.kind hg (Calls.loadGlobal_builtin (by rw[I.ok.glob];exact I.mod.glob.keeps I.bk) hm (by rw[I.ok.blt];exact h1.keeps I.bk) ((h2 x hn).trans hv) h) hd
variable{a b:Expr}{ta tb:TE}{pos:Pos}
def PC(X:Cx)(op:CmpOp)(a b:Expr)(t:TE):Prop:=
 ∀(pins:List (Addr×Obj))(s:Shared)(σ:St)(H:Hp)(Q:VK),Inv X pins σ H s→t σ H Q →
  wpAny (model X.prog X.w) X.A (eval a X.env) (λv s₁=>wpAny (model X.prog X.w) X.A (eval b X.env) (λu s₂=>wpAny (model X.prog X.w) X.A (compareOp op v u) (EP X pins σ Q) X.xe s₂) X.xe s₁) X.xe s
def tB(t:TE):TT:=λσ H Q=>t σ H λx H1=>∃c,x=.bl c∧Q c H1
theorem Jw{op:CmpOp}{t:TE}(h:PC X op a b t)(h1:behindInMarks op b=false:=by first | exact nobehind _ (by decide) (by decide) | rfl):PE X (.Compare a [op] [b] pos) t:=λpins s σ H Q I hw=>wpAny_Compare1 (h pins s σ H Q I hw) h1
theorem Wk{op:CmpOp}{t:TE}(h:PC X op a b t)(h1:behindInMarks op b=false:=by first | exact nobehind _ (by decide) (by decide) | rfl):PT X (.Compare a [op] [b] pos) (tB t):=by
 intro pins s σ H Q I hw
 refine wpAny_isTrue_Compare1 (cD (h pins s σ H _ I hw) λv s1 h1=>cD h1 λu s2 h2=>cD h2 λc s3 ⟨x,H1,I1,r1,q1⟩=>?_) h1
 obtain⟨d,rfl,q⟩:=q1
 cases r1
 exact wpAny_truthy_bool ⟨H1,I1,q⟩
theorem Wl{e:Expr}{t:TE}(h:PE X e t)(he:∀whole,isTrue e X.env whole=(do let v ←whole;standAt e.pos;holding [v] (truthy v)):=by intro _;rfl):PT X e (tB t):=by
 intro pins s σ H Q I hw
 refine isTrue_plain (cD (h pins s σ H _ I hw) λv s1 ⟨x,H1,I1,r1,q1⟩=>?_) (he _)
 obtain⟨d,rfl,q⟩:=q1
 cases r1
 exact wpAny_truthy_bool ⟨H1,I1,q⟩
variable{tA MK:TT}{rest:List Expr}
def Wm(t u:TT):TT:=λσ H Q=>t σ H λc H1=>if c=true then u σ H1 Q else Q false H1
def QK(t u:TT):TT:=λσ H Q=>t σ H λc H1=>if c=true then Q true H1 else u σ H1 Q
def Wn(t:TT):TT:=λσ H Q=>t σ H λc H1=>Q (!c) H1
theorem Qo(ha:PT X a tA):PW X (.BoolOp .And [a] pos) tA:=by
 intro wh pins s σ H Q I h
 refine isTrue_and (cD (ha pins s σ H Q I h) λc s1 e=>?_)
 cases c with
 | true=>exact isTrue_and_nil e
 | false=>exact e
theorem Wo(ha:PT X a tA):PW X (.BoolOp .Or [a] pos) tA:=by
 intro wh pins s σ H Q I h
 refine isTrue_or (cD (ha pins s σ H Q I h) λc s1 e=>?_)
 cases c with
 | false=>exact isTrue_or_nil e
 | true=>exact e
theorem Wq(ha:PT X a tA)(hb:PW X (.BoolOp .And (b::rest) pos) MK):PW X (.BoolOp .And (a::b::rest) pos) (Wm tA MK):=by
 intro wh pins s σ H Q I h
 refine isTrue_and (cD (ha pins s σ H _ I h) λc s1 ⟨H1,I1,q1⟩=>?_)
 cases c with
 | true=>exact hb wh pins s1 σ H1 Q I1 q1
 | false=>exact⟨H1,I1,q1⟩
theorem DR(ha:PT X a tA)(hb:PW X (.BoolOp .Or (b::rest) pos) MK):PW X (.BoolOp .Or (a::b::rest) pos) (QK tA MK):=by
 intro wh pins s σ H Q I h
 refine isTrue_or (cD (ha pins s σ H _ I h) λc s1 ⟨H1,I1,q1⟩=>?_)
 cases c with
 | true=>exact⟨H1,I1,q1⟩
 | false=>exact hb wh pins s1 σ H1 Q I1 q1
theorem Wr(ha:PT X a tA):PT X (.UnaryOp .Not a pos) (Wn tA):=by
 intro pins s σ H Q I h
 exact isTrue_not (ha pins s σ H (λc H1=>Q (!c) H1) I h)
def Ux(ta:TE):TE:=λσ H Q=>ta σ H λx H1=>∃c,x=.bl c∧Q (.bl (!c)) H1
theorem Ws(ha:PE X a ta):PE X (.UnaryOp .Not a pos) (Ux ta):=by
 intro pins s σ H Q I h
 refine UnaryOp_ (cD (ha pins s σ H _ I h) λv s1 ⟨x,H1,I1,r1,q1⟩=>?_)
 obtain⟨c,rfl,q1⟩:=q1
 cases r1
 exact not_of (wpAny_truthy_bool ⟨.bl (!c),H1,I1,rfl,q1⟩)
end
end L2
namespace L2
open PySem PySem.Spec PyProof.Rows
def eN(K:aA)(H:Hp)(a:Addr)(xs:List V):Prop:=
 Rd H a (.lst xs) ∨
  ∃(o:Obj)(its:Array Value)(n:Nat),K.lookup a=some o∧o.cls=.type "list" ∧ o.dict=none∧o.data=.seq its n∧its.size≤sizeLine∧Vals xs its.toList
def lC(K:aA)(H:Hp)(a:Addr)(xs:List V):Prop:=
 Rd H a (.tup xs) ∨
  ∃(o:Obj)(its:Array Value)(n:Nat),K.lookup a=some o∧o.cls=.type "tuple" ∧ o.data=.seq its n∧its.size≤sizeLine∧Vals xs its.toList
def QL:Value→Option V
 | .none=>some .non
 | .bool b=>some (.bl b)
 | .int i _=>some (.int i)
 | .str x _=>some (.str x)
 | .bytes b _=>some (.byt b)
 | .float b _=>some (.flt b)
 | .ref a=>some (.ref a)
 | .type n=>some (.ty n)
 | _=>none
theorem RelV.abs{x:V}{u:Value}(r:RelV x u):QL u=some x:=by
 cases x with
 | non=>cases r;rfl
 | bl _=>cases r;rfl
 | int _=>obtain⟨t,rfl⟩:=r;rfl
 | str _=>obtain⟨t,rfl⟩:=r;rfl
 | byt _=>obtain⟨t,rfl⟩:=r;rfl
 | flt _=>obtain⟨t,rfl⟩:=r;rfl
 | ref _=>cases r;rfl
 | ty _=>cases r;rfl
theorem RelV.inj{x y:V}{u:Value}(r:RelV x u)(q:RelV y u):x=y:=E4 (r.abs.symm.trans q.abs)
theorem Vals.inj:∀{xs ys:List V} {us:List Value},Vals xs us→Vals ys us→xs=ys
 | _,_,_,.nil,.nil=>rfl
 | _,_,_,.cons r t,.cons r' t'=>by rw[r.inj r',Vals.inj t t']
section
variable{X:Cx}{pins:List (Addr×Obj)}{σ:St}{H:Hp}{s:Shared}{a:Addr}{xs ys:List V}
theorem eN.of{K:aA}(h:H a=some (.lst xs)):eN K H a xs:=.inl (.inl h)
theorem lC.of{K:aA}(h:H a=some (.tup xs)):lC K H a xs:=.inl (.inl h)
theorem Inv.list(I:Inv X pins σ H s)(h:eN X.K H a xs):∃its:List Value,Vals xs its∧PlainL s.heap a its.toArray∧xs.length≤sizeLine:=by
 rcases h with h | ⟨o,its,n,hk,hc,hd,hs,hz,r⟩
 ·obtain⟨z,its,n,r,e⟩:=h.ok I.hok
  exact⟨its,r,⟨_,n,e,rfl,rfl,rfl⟩,z⟩
 ·refine⟨its.toList,r,⟨o,n,I.CK a o hk,hc,hd,by simpa using hs⟩,?_⟩
  have e:=r.length
  simp only[C9]at e
  omega
theorem Inv.tuple(I:Inv X pins σ H s)(h:lC X.K H a xs):∃its:List Value,Vals xs its∧IsTup s.heap a its.toArray∧xs.length≤sizeLine:=by
 rcases h with h | ⟨o,its,n,hk,hc,hs,hz,r⟩
 ·obtain⟨z,its,r,p⟩:=h.ok I.hok
  exact⟨its,r,p,z⟩
 ·refine⟨its.toList,r,⟨o,I.CK a o hk,hc,n,by simpa using hs⟩,?_⟩
  have e:=r.length
  simp only[C9]at e
  omega
theorem Inv.qI(I:Inv X pins σ H s)(h:eN X.K H a xs)(h':eN X.K H a ys):xs=ys:=by
 obtain⟨its,r,⟨o,n,e,_,_,d⟩,_⟩:=I.list h
 obtain⟨its',r',⟨o',n',e',_,_,d'⟩,_⟩:=I.list h'
 rw[e]at e';cases e'
 rw[d]at d'
 injection d' with d1 _
 have:its=its':=by simpa using congrArg X5 d1
 subst this
 exact r.inj r'
theorem Inv.uH(I:Inv X pins σ H s)(h:lC X.K H a xs)(h':lC X.K H a ys):xs=ys:=by
 obtain⟨its,r,⟨o,e,_,n,d⟩,_⟩:=I.tuple h
 obtain⟨its',r',⟨o',e',_,n',d'⟩,_⟩:=I.tuple h'
 rw[e]at e';cases e'
 rw[d]at d'
 injection d' with d1 _
 have:its=its':=by simpa using congrArg X5 d1
 subst this
 exact r.inj r'
end
abbrev Cx.wish(X:Cx)(E:Value→Shared→Prop):Cx:={X with xe:=E}
abbrev Cx.Wt(X:Cx):Cx:=X.wish λ_ _=>False
theorem Cx.Ok.wish{X:Cx}(ok:X.Ok)(E:Value→Shared→Prop):(X.wish E).Ok:=
 ⟨ok.mod,ok.kind,ok.glob,ok.blt,ok.above,ok.inj,ok.has,ok.cab,ok.hd,ok.frames,ok.MJ,ok.VL,ok.bs,ok.Uv,ok.Ju,ok.Qm,ok.qH,ok.CJ⟩
theorem Cx.Ok.iY{X:Cx}{E:Value→Shared→Prop}(ok:(X.wish E).Ok):X.Ok:=
 ⟨ok.mod,ok.kind,ok.glob,ok.blt,ok.above,ok.inj,ok.has,ok.cab,ok.hd,ok.frames,ok.MJ,ok.VL,ok.bs,ok.Uv,ok.Ju,ok.Qm,ok.qH,ok.CJ⟩
section
variable{X:Cx}{pins:List (Addr×Obj)}{σ:St}{H:Hp}{s:Shared}{E:Value→Shared→Prop}
theorem Inv.wish(I:Inv X pins σ H s)(E:Value→Shared→Prop):Inv (X.wish E) pins σ H s:=⟨I.ok.wish E,I.os,I.bare,I.base,I.loc,I.cell,I.free,I.fY,I.pin,I.hok,I.len⟩
theorem Inv.iY(I:Inv (X.wish E) pins σ H s):Inv X pins σ H s:=⟨I.ok.iY,I.os,I.bare,I.base,I.loc,I.cell,I.free,I.fY,I.pin,I.hok,I.len⟩
theorem SP.iY{D:Ends}{f:Flow}{s':Shared}(h:SP (X.wish E) pins D f s'):SP X pins D f s':=by
 cases f with
 | next=>obtain⟨σ',H',I,q⟩:=h;exact⟨σ',H',I.iY,q⟩
 | brk=>obtain⟨σ',H',I,q⟩:=h;exact⟨σ',H',I.iY,q⟩
 | cont=>obtain⟨σ',H',I,q⟩:=h;exact⟨σ',H',I.iY,q⟩
 | ret u=>obtain⟨v,σ',H',I,r,q⟩:=h;exact⟨v,σ',H',I.iY,r,q⟩
theorem yU.Wt{st:List Stmt}{t:TS}(h:yU X.Wt st t):yU X st t:=λpins s σ H D I hw=>
 wpAny_mono (h pins s σ H D (I.wish _) hw) (λ_ _ q=>q.iY) λ_ _ z=>False.elim z
end
section
variable{X:Cx}{st:Stmt}{rest:List Stmt}{t u:TS}{e:Expr}{te:TE}{pos:Pos}
def Uy:TS:=λD σ H=>D.nx σ H
def Wu(t u:TS):TS:=λD σ H=>t {D with nx:=u D} σ H
theorem Qp:yU X [] Uy:=λ_ _ σ H _ I h=>wpAny_execs_nil ⟨σ,H,I,h⟩
theorem Jx(h1:PS X st t)(h2:yU X rest u):yU X (st::rest) (Wu t u):=by
 intro pins s σ H D I h
 refine wpAny_execs_cons (cD (h1 pins s σ H {D with nx:=u D} I h) λf s1 q=>?_)
 cases f with
 | next=>
  obtain⟨σ',H',I',q⟩:=q
  exact h2 pins s1 σ' H' D I' q
 | ret v=>exact q
 | brk=>exact q
 | cont=>exact q
theorem Qq(h1:PS X st t):yU X [st] t:=by
 intro pins s σ H D I h
 refine wpAny_execs_cons (cD (h1 pins s σ H D I h) λf s1 q=>?_)
 cases f with
 | next=>exact wpAny_execs_nil q
 | ret v=>exact q
 | brk=>exact q
 | cont=>exact q
theorem Inv.quiet{pins:List (Addr×Obj)}{σ:St}{H:Hp}{s:Shared}(I:Inv X pins σ H s):interactive X.env=false:=by simp[interactive,I.ok.kind]
def El(te:TE):TS:=λD σ H=>te σ H λ_ H1=>D.nx σ H1
theorem mQ(he:PE X e te)(hs:swapsWith e none pos.line X.env=pure false:=by rfl):PS X (.Expr e pos) (El te):=by
 intro pins s σ H D I h
 exact wpAny_Expr_any (cD (he pins s σ H _ I h) λv s1 ⟨x,H1,I1,r1,q1⟩=>⟨σ,H1,I1,q1⟩) I.quiet hs
def Wv(te:TE):TS:=λD σ H=>te σ H D.rt
theorem Jy(he:PE X e te):PS X (.Return (some e) pos) (Wv te):=by
 intro pins s σ H D I h
 exact wpAny_Return_some (cD (he pins s σ H _ I h) λv s1 ⟨x,H1,I1,r1,q1⟩=>⟨x,σ,H1,I1,r1,q1⟩)
def DW(c:TT)(t u:TS):TS:=λD σ H=>c σ H λb H1=>if b=true then t D σ H1 else u D σ H1
theorem DX{c:Expr}{a b:List Stmt}{tc:TT}(hc:PT X c tc)(ha:yU X a t)(hb:yU X b u):PS X (.If c a b pos) (DW tc t u):=by
 intro pins s σ H D I h
 refine wpAny_If (cD (hc pins s σ H _ I h) λd s1 ⟨H1,I1,q1⟩=>?_)
 cases d with
 | true=>exact ha pins s1 σ H1 D I1 q1
 | false=>exact hb pins s1 σ H1 D I1 q1
end
abbrev TG:=V→St→Hp→(St→Hp→Prop)→Prop
def PG(X:Cx)(target:Expr)(t:TG):Prop:=
 ∀(pins:List (Addr×Obj))(s:Shared)(σ:St)(H:Hp)(v:V)(u:Value)(Q:St→Hp→Prop),Inv X pins σ H s→RelV v u→t v σ H Q →
  wpAny (model X.prog X.w) X.A (assign target X.env u) (λ_ s'=>∃σ' H',Inv X pins σ' H' s'∧Q σ' H') X.xe s
section
variable{X:Cx}{pos:Pos}
def bL(i:Nat):TG:=λv σ H Q=>Q (σ.set i (some v)) H
theorem dZ{i:Nat}{x:Str}(hN:X.N.Nodup)(hi:X.N[i]?=some x)(hx:Loc X.env.scope x)(hf:X.fn x=true∨X.env.scope.names.lookup x=some .local:=by first | exact .inl rfl | exact .inr rfl | assumption):PG X (.Name x pos) (bL i):=by
 intro pins s σ H v u Q I r h
 exact wpAny_assign_Name (yS I hN hi hx r (λs' I'=>⟨_,H,I',h⟩) hf)
def vX(te:TE)(g:TG):TS:=λD σ H=>te σ H λx H1=>g x σ H1 D.nx
theorem bH{i:Nat}{x:Str}{e:Expr}{te:TE}{pos':Pos}(hN:X.N.Nodup)(hi:X.N[i]?=some x)(hx:Loc X.env.scope x)(he:PE X e te)(hs:swapsWith e (some (.Name x pos')) pos.line X.env=pure false:=by rfl)(hf:X.fn x=true∨X.env.scope.names.lookup x=some .local:=by first | exact .inl rfl | exact .inr rfl | assumption) :
  PS X (.Assign [.Name x pos'] e pos) (vX te (bL i)):=by
 intro pins s σ H D I h
 refine wpAny_Assign_Name (cD (he pins s σ H _ I h) λv s1 ⟨y,H1,I1,r1,q1⟩=>?_) hs
 exact yS I1 hN hi hx r1 (λs2 I2=>⟨_,H1,I2,q1⟩) hf
end
section
variable{X:Cx}{pos:Pos}
def Bx(c:TT)(tb:TS):TS:=λD σ H=>∃W:Nat→St→Hp→Prop,(∃m,W m σ H)∧∀m σ H,W m σ H →
 c σ H λb H1=>if b=true then ∃N:St→Hp→Prop,(∀σ' H',N σ' H'→∃m',m'<m∧W m' σ' H')∧tb {D with nx:=N,ct:=N,bk:=D.nx} σ H1 else D.nx σ H1
theorem Jz{c:Expr}{body:List Stmt}{tc:TT}{tb:TS}(hp:PassesOwn (model X.prog X.w) X.A X.env X.xe)(hc:PT X c tc)(hb:yU X body tb):PS X (.While c body [] pos) (Bx tc tb):=by
 intro pins s σ H D I h
 obtain⟨W,⟨m0,w0⟩,turn⟩:=h
 refine wpAny_While (codeAny_whileLoop (λn s'=>∃σ' H',Inv X pins σ' H' s'∧W n σ' H') ?_ m0 ⟨σ,H,I,w0⟩)
 rintro n s1 ⟨σ1,H1,I1,w1⟩
 refine wpAny_passesOwn hp (cD (hc pins s1 σ1 H1 _ I1 (turn n σ1 H1 w1)) λb s2 ⟨H2,I2,q2⟩=>?_)
 cases b with
 | true=>
  obtain⟨N,hN,q2⟩:=q2
  rw[if_pos rfl]
  refine wpAny_passesOwn hp (cD (hb pins s2 σ1 H2 _ I2 q2) λf s3 q3=>?_)
  cases f with
  | next=>
   obtain⟨σ3,H3,I3,n3⟩:=q3
   obtain⟨m',hm,w3⟩:=hN σ3 H3 n3
   exact⟨m',hm,σ3,H3,I3,w3⟩
  | cont=>
   obtain⟨σ3,H3,I3,n3⟩:=q3
   obtain⟨m',hm,w3⟩:=hN σ3 H3 n3
   exact⟨m',hm,σ3,H3,I3,w3⟩
  | brk=>exact q3
  | ret v=>exact q3
 | false=>
  rw[if_neg C7]
  exact wpAny_execs_nil ⟨σ1,H2,I2,q2⟩
end
structure It where
 go:Nat→Hp→Prop
 DY:Nat→Hp→V→Hp→Prop
 stop:Nat→Hp→Prop
def vY(X:Cx)(pins:List (Addr×Obj))(H:Hp)(b:Addr):Prop:=
 H b=none∧b≠X.env.locals∧b∉X.fs∧(b∈X.ex∨X.s₀.heap.objs.size≤b)∧(∀x c,X.env.cells.lookup x=some c→c≠b)∧∀p∈X.pn++pins,p.1≠b
theorem Inv.Ka{X:Cx}{pins:List (Addr×Obj)}{σ:St}{H H':Hp}{s:Shared}{b:Addr}(I:Inv X pins σ H s)(hb:s.heap.objs.size≤b)(hn:H' b=none):vY X pins H' b:=by
 refine⟨hn,J2 (C4 I.lt hb),I.QH hb,.inr (F1 I.sz hb),λx c e z=>?_,λp hp z=>?_⟩
 ·obtain⟨v,q⟩:=I.cell x c e
  exact absurd (C4 q.lt (by rw[z];exact hb)) (F5 _)
 ·exact absurd (C4 (Heap.lt_size (I.pin p hp).1) (by rw[z];exact hb)) (F5 _)
structure Turn(P:Program)(w:World)(K:aA)(tg:Expr)(J:It)(fp:List Addr)(it:Addr)(tn:Nat→Heap→Prop):Prop where
 mem:it∈fp
 obj:∀i h,tn i h→∀b∈fp,∃o,h.get? b=some o∧∀v,o.data≠.cell v
 keep:∀i h h',tn i h→(∀b∈fp,∀o,h.get? b=some o→h'.get? b=some o)→tn i h'
 item:∀(X:Cx),X.prog=P→X.w=w→X.K=K→X.calm=true→∀(i:Nat)(pins:List (Addr×Obj))(s:Shared)(σ:St)(H:Hp)(E:Value→Shared→Prop),Inv X pins σ H s→(∀b∈fp,vY X pins H b)→tn i s.heap→J.go i H →
  wpAny (model P w) X.A (pyNext (.ref it)) (λr s1=>∃u,r=some u ∧
   wpAny (model P w) X.A (letOwnedTupleGo tg (.ref it) u) (λ_ s2=>∃x H',Inv X pins σ H' s2∧RelV x u∧J.DY i H x H'∧tn (i+1) s2.heap∧∀b∈fp,H' b=none) E s1) E s
 done:∀(X:Cx),X.prog=P→X.w=w→X.K=K→X.calm=true→∀(i:Nat)(pins:List (Addr×Obj))(s:Shared)(σ:St)(H:Hp)(E:Value→Shared→Prop),Inv X pins σ H s→(∀b∈fp,vY X pins H b)→tn i s.heap→J.stop i H →
  wpAny (model P w) X.A (pyNext (.ref it)) (λr s1=>r=none∧Inv X pins σ H s1) E s
 self:∀(A:Around)(i:Nat)(s:Shared)(Q:Value→Shared→Prop)(E:Value→Shared→Prop),tn i s.heap→Q (.ref it) s→wpAny (model P w) A (pyIter (.ref it)) Q E s
abbrev TI:=St→Hp→(It→Hp→Prop)→Prop
def PIE(X:Cx)(pins:List (Addr×Obj))(σ:St)(tg:Expr)(R:It→Hp→Prop)(itv:Value)(s2:Shared):Prop:=
 ∃(it:Addr)(fp:List Addr)(tn:Nat→Heap→Prop)(J:It)(H':Hp),itv=.ref it∧Inv X pins σ H' s2∧Turn X.prog X.w X.K tg J fp it tn∧tn 0 s2.heap∧(∀b∈fp,vY X pins H' b)∧R J H'
def PI(X:Cx)(tg iter:Expr)(wi:TI):Prop:=
 ∀(pins:List (Addr×Obj))(s:Shared)(σ:St)(H:Hp)(R:It→Hp→Prop),Inv X pins σ H s→wi σ H R →
  wpAny (model X.prog X.w) X.A (eval iter X.env) (λv s1=>wpAny (model X.prog X.w) X.A (pyIter v) (PIE X pins σ tg R) X.xe s1) X.xe s
theorem Em{M:Model}{A:Around}{E:Value→Shared→Prop}{s:Shared}{tg:Expr}{it:Addr}{u:Value}{o:Obj}{n:String}{vs:Array Value}{Q:Unit→Shared→Prop}(ho:s.heap.get? it=some o)(hc:o.cls=.type n)(hd:o.data=.fields vs)
    (hn:["enumerate", "zip", "dict_itemiterator", "dict_reverseitemiterator", "odict_iterator", "itertools.zip_longest", "itertools.pairwise"].contains n=false) (hQ:Q () s):wpAny M A (letOwnedTupleGo tg (.ref it) u) Q E s:=by
  unfold letOwnedTupleGo
  cases tg<;>first
    | exact wpAny_pure hQ
    | (cases u<;>first
        | exact wpAny_pure hQ
        | (refine wpAny_bind (wpAny_load ho ?_)
           rw[hc,hd]
           show wpAny M A (if(["enumerate", "zip", "dict_itemiterator", "dict_reverseitemiterator", "odict_iterator", "itertools.zip_longest", "itertools.pairwise"].contains n&&vs[0]?==some (rawInt _))=true then _ else _) Q E s
           rw[if_neg (by intro h;rw[hn,Bool.false_and]at h;cases h)]
           exact wpAny_pure hQ))
def QM(K:aA)(a:Addr):It:=
 ⟨λi H=>∃xs x,eN K H a xs∧xs[i]?=some x,λi H x H'=>H'=H∧∀xs,eN K H a xs→xs[i]?=some x,λi H=>∃xs,eN K H a xs∧xs.length≤i⟩
def QQ(K:aA)(a:Addr):It:=
 ⟨λi H=>∃xs x,lC K H a xs∧xs[i]?=some x,λi H x H'=>H'=H∧∀xs,lC K H a xs→xs[i]?=some x,λi H=>∃xs,lC K H a xs∧xs.length≤i⟩
def EY(lo:Int)(n:Nat):It:=⟨λi _=>i<n,λi H x H'=>H'=H∧x=.int (lo+i),λi _=>n≤i⟩
theorem Hj{P:Program}{w:World}{K:aA}{tg:Expr}(a it:Addr):Turn P w K tg (QM K a) [it] it (λi h=>h.IsListIter it a i) where
 mem:=by simp
 obj:=λi h st b hb=>by
  have e:b=it:=by simpa using hb
  subst e
  obtain⟨o,e,c,d⟩:=st
  exact⟨o,e,λv z=>by rw[d]at z;cases z⟩
 keep:=λi h h' st k=>st.at λo e=>k it (by simp) o e
 item:=by
  intro X hP hw hK hc i pins s σ H E I hf st hg
  subst hP hw hK
  obtain⟨xs,x,hq,hx⟩:=hg
  obtain⟨its,rv,p,hz⟩:=I.list hq
  obtain⟨u,hu,ru⟩:=rv.get hx
  obtain⟨f0,f1,f2,f3,f4,f5⟩:=hf it (by simp)
  refine wpAny_pyNext_list_item st p.isList (x:=u) (by simpa using hu) λh' st' sb=>?_
  have I1:Inv X pins σ H {s with heap:=h'}:=I.turned (t':=s.toks) (λb o hb e=>(sb.2 b hb).trans e) f0 f1 f3 f4 f5
  obtain⟨o,e,c,d⟩:=id st'
  exact⟨u,rfl,Em (s:={s with heap:=h'}) e c d (by decide) ⟨x,H,I1,ru,⟨rfl,λys hy=>by rw[I.qI hy hq];exact hx⟩,st',λb hb=>(hf b hb).1⟩⟩
 done:=by
  intro X hP hw hK hc i pins s σ H E I hf st hg
  subst hP hw hK
  obtain⟨xs,hq,hx⟩:=hg
  obtain⟨its,rv,p,hz⟩:=I.list hq
  obtain⟨f0,f1,f2,f3,f4,f5⟩:=hf it (by simp)
  have hl:=rv.length
  exact wpAny_pyNext_list_end (I.ok.hd hc) st p.isList (by simp;omega) λh' eb=>⟨rfl,I.turned (t':=s.toks) (λb o hb e=>eb b o hb e) f0 f1 f3 f4 f5⟩
 self:=λ_ _ _ _ _ st h=>wpAny_pyIter_listiter st h
theorem By{P:Program}{w:World}{K:aA}{tg:Expr}(a it:Addr):Turn P w K tg (QQ K a) [it] it (λi h=>h.IsTupleIter it a i) where
 mem:=by simp
 obj:=λi h st b hb=>by
  have e:b=it:=by simpa using hb
  subst e
  obtain⟨o,e,c,d⟩:=st
  exact⟨o,e,λv z=>by rw[d]at z;cases z⟩
 keep:=λi h h' st k=>st.at λo e=>k it (by simp) o e
 item:=by
  intro X hP hw hK hc i pins s σ H E I hf st hg
  subst hP hw hK
  obtain⟨xs,x,hq,hx⟩:=hg
  obtain⟨its,rv,p,hz⟩:=I.tuple hq
  obtain⟨u,hu,ru⟩:=rv.get hx
  obtain⟨f0,f1,f2,f3,f4,f5⟩:=hf it (by simp)
  refine wpAny_pyNext_tuple_item st (show s.heap.IsTuple a its.toArray from p) (x:=u) (by simpa using hu) λh' st' sb=>?_
  have I1:Inv X pins σ H {s with heap:=h'}:=I.turned (t':=s.toks) (λb o hb e=>(sb.2 b hb).trans e) f0 f1 f3 f4 f5
  obtain⟨o,e,c,d⟩:=id st'
  exact⟨u,rfl,Em (s:={s with heap:=h'}) e c d (by decide) ⟨x,H,I1,ru,⟨rfl,λys hy=>by rw[I.uH hy hq];exact hx⟩,st',λb hb=>(hf b hb).1⟩⟩
 done:=by
  intro X hP hw hK hc i pins s σ H E I hf st hg
  subst hP hw hK
  obtain⟨xs,hq,hx⟩:=hg
  obtain⟨its,rv,p,hz⟩:=I.tuple hq
  obtain⟨f0,f1,f2,f3,f4,f5⟩:=hf it (by simp)
  have hl:=rv.length
  exact wpAny_pyNext_tuple_end (I.ok.hd hc) st (show s.heap.IsTuple a its.toArray from p) (by simp;omega) λh' eb=>⟨rfl,I.turned (t':=s.toks) (λb o hb e=>eb b o hb e) f0 f1 f3 f4 f5⟩
 self:=λ_ _ _ _ _ st h=>wpAny_pyIter_tupleiter st h
theorem Ca{P:Program}{w:World}{K:aA}{tg:Expr}(it:Addr)(lo:Int)(n:Nat):Turn P w K tg (EY lo n) [it] it (λi h=>IsRangeIter h it (lo+(i:Nat)*1) ((n:Int)-(i:Nat)) 1) where
 mem:=by simp
 obj:=λi h st b hb=>by
  have e:b=it:=by simpa using hb
  subst e
  exact⟨_,st,λv z=>by
   have z':Data.fields _=Data.cell v:=z
   cases z'⟩
 keep:=λi h h' st k=>k it (by simp) _ st
 item:=by
  intro X hP hw hK hc i pins s σ H E I hf st hg
  subst hP hw hK
  obtain⟨f0,f1,f2,f3,f4,f5⟩:=hf it (by simp)
  have W:=Walks.range (prog:=X.prog) (w:=X.w) (I.ok.hd hc) it lo 1 n
  refine W.item i s _ _ hg st λv h' tk hv st' kk=>?_
  obtain⟨t,rfl⟩:=hv
  have I1:Inv X pins σ H {s with heap:=h',toks:=tk}:=I.turned (λb o hb e=>kk b o (by simpa using hb) e) f0 f1 f3 f4 f5
  refine⟨_,rfl,Em (s:={s with heap:=h',toks:=tk}) (n := "range_iterator") st' rfl rfl (by decide) ⟨.int (lo+i),H,I1,⟨t,?_⟩,⟨rfl,rfl⟩,st',λb hb=>(hf b hb).1⟩⟩
  rw[Int.mul_one]
 done:=by
  intro X hP hw hK hc i pins s σ H E I hf st hg
  subst hP hw hK
  obtain⟨f0,f1,f2,f3,f4,f5⟩:=hf it (by simp)
  exact wpAny_pyNext_range_end (I.ok.hd hc) st (by have:n≤i:=hg;omega) λh' eb=>⟨rfl,I.turned (t':=s.toks) (λb o hb e=>eb b o hb e) f0 f1 f3 f4 f5⟩
 self:=λ_ _ _ _ _ st h=>wpAny_pyIter_rangeiter st h
end L2
namespace L2
open PySem PySem.Spec PyProof.Rows
section
variable{X:Cx}{tg:Expr}
def Uz(K:aA)(tl:TE):TI:=λσ H R=>tl σ H λx H1=>∃a,x=.ref a∧(∃xs,eN K H1 a xs)∧R (QM K a) H1
def FJ(K:aA)(tl:TE):TI:=λσ H R=>tl σ H λx H1=>∃a,x=.ref a∧(∃xs,lC K H1 a xs)∧R (QQ K a) H1
theorem Qt{l:Expr}{tl:TE}(hl:PE X l tl):PI X tg l (Uz X.K tl):=by
 intro pins s σ H R I h
 refine cD (hl pins s σ H _ I h) λv s1 ⟨x,H1,I1,r1,q1⟩=>?_
 obtain⟨a,e,⟨xs,hq⟩,q⟩:=q1
 subst e
 cases r1
 obtain⟨its,rv,p,hz⟩:=I1.list hq
 refine wpAny_pyIter_list p.isList ?_
 refine⟨s1.heap.objs.size,[s1.heap.objs.size],_,_,H1,rfl,I1.kept (t':=s1.toks) λb o e=>Heap.get?_push_of_some _ e,Hj a _,⟨_,Heap.get?_push_size _ rfl,rfl,rfl⟩,λb hb=>?_,q⟩
 have e:b=s1.heap.objs.size:=by simpa using hb
 subst e
 exact I1.Ka (A9 _) (I1.hok.fresh (A9 _))
theorem Ww{l:Expr}{tl:TE}(hl:PE X l tl):PI X tg l (FJ X.K tl):=by
 intro pins s σ H R I h
 refine cD (hl pins s σ H _ I h) λv s1 ⟨x,H1,I1,r1,q1⟩=>?_
 obtain⟨a,e,⟨xs,hq⟩,q⟩:=q1
 subst e
 cases r1
 obtain⟨its,rv,p,hz⟩:=I1.tuple hq
 refine wpAny_pyIter_tuple (show s1.heap.IsTuple a its.toArray from p) ?_
 refine⟨s1.heap.objs.size,[s1.heap.objs.size],_,_,H1,rfl,I1.kept (t':=s1.toks) λb o e=>Heap.get?_push_of_some _ e,By a _,⟨_,Heap.get?_push_size _ rfl,rfl,rfl⟩,λb hb=>?_,q⟩
 have e:b=s1.heap.objs.size:=by simpa using hb
 subst e
 exact I1.Ka (A9 _) (I1.hok.fresh (A9 _))
theorem yV{pins:List (Addr×Obj)}{σ:St}{H:Hp}{s:Shared}{R:It→Hp→Prop}{E:Value→Shared→Prop}{lo hi:Int}{t u v:Tok}{tk:Nat}(I:Inv X pins σ H s)(h1:-(2 ^ 62)≤lo)(h2:lo<2 ^ 62)(h3:-(2 ^ 62)≤hi)(h4:hi<2 ^ 62)
  (q:R (EY lo (hi-lo).toNat) H):wpAny (model X.prog X.w) X.A (pyIter (.ref s.heap.objs.size)) (PIE X pins σ tg R) E {s with heap:=s.heap.push {cls:=.type "range", data:=.fields #[.int lo t,.int hi u,.int 1 v]},toks:=tk}:=by
 refine wpAny_pyIter_range (IsRange.new ..) (small_one h1 h2 h3 h4) ?_
 have I1:Inv X pins σ H {s with heap:=s.heap.push {cls:=.type "range", data:=.fields #[.int lo t,.int hi u,.int 1 v]},toks:=tk}:=I.kept λb o e=>Heap.get?_push_of_some _ e
 refine⟨(s.heap.push {cls:=.type "range", data:=.fields #[.int lo t,.int hi u,.int 1 v]}).objs.size,[(s.heap.push {cls:=.type "range", data:=.fields #[.int lo t,.int hi u,.int 1 v]}).objs.size],_,_,H,rfl,
  I1.kept (t':=tk) λb o e=>Heap.get?_push_of_some _ e,Ca _ lo (hi-lo).toNat,?_,λb hb=>?_,q⟩
 ·have e1:lo+((0:Nat):Int)*1=lo:=by simp
  have e2:(((hi-lo).toNat:Nat):Int)-((0:Nat):Int)=Builtin.Range.rangeSize lo hi 1:=by rw[rangeSize_one];split<;>omega
  show IsRangeIter _ _ (lo+((0:Nat):Int)*1) ((((hi-lo).toNat:Nat):Int)-((0:Nat):Int)) 1
  rw[e1,e2]
  exact Heap.get?_push_size _ rfl
 ·have e:b=(s.heap.push {cls:=.type "range", data:=.fields #[.int lo t,.int hi u,.int 1 v]}).objs.size:=by simpa using hb
  subst e
  exact I1.Ka (A9 _) (I1.hok.fresh (A9 _))
def Kc(ta:TA):TI:=λσ H R=>ta σ H λvs H1=>∃j:Int,vs=[.int j]∧-(2 ^ 62)≤j∧j<2 ^ 62∧R (EY 0 j.toNat) H1
def Kd(ta:TA):TI:=λσ H R=>ta σ H λvs H1=>∃i j:Int,vs=[.int i,.int j]∧(-(2 ^ 62)≤i∧i<2 ^ 62∧-(2 ^ 62)≤j∧j<2 ^ 62)∧R (EY i (j-i).toNat) H1
theorem uI{a:Expr}{ta:TA}{p pos:Pos}(hg:Gl X "range") (hm:X.mg "range" = none) (ha:PA X [a] ta) (hs:starEach [a] X.env=[(false,eval a X.env)]:=by rfl):PI X tg (.Call (.Name "range" p) [a] [] pos) (Kc ta):=by
 intro pins s σ H R I h
 refine Call_ (lW I hg hm boot_range (G4 (cD (ha pos pins s σ H _ I h) λus s1 ⟨vs,H1,I1,r1,q1⟩=>?_) hs rfl))
 obtain⟨j,e,q1,q2,q⟩:=q1
 subst e
 cases r1 with
 | cons r rr=>
  cases rr
  obtain⟨t,rfl⟩:=r
  exact call_range_1 (yV I1 (by omega) (by omega) q1 q2 (by simpa using q))
theorem Ho{a b:Expr}{ta:TA}{p pos:Pos}(hg:Gl X "range") (hm:X.mg "range" = none) (ha:PA X [a,b] ta) (hs:starEach [a,b] X.env=[(false,eval a X.env),(false,eval b X.env)]:=by rfl) (hs2:starEach [b] X.env=[(false,eval b X.env)]:=by rfl) :
  PI X tg (.Call (.Name "range" p) [a,b] [] pos) (Kd ta):=by
 intro pins s σ H R I h
 refine Call_ (lW I hg hm boot_range (G4 (cD (ha pos pins s σ H _ I h) λus s1 ⟨vs,H1,I1,r1,q1⟩=>?_) (by rw[hs,hs2]) (by rw[hs2];rfl)))
 obtain⟨i,j,e,⟨q1,q2,q3,q4⟩,q⟩:=q1
 subst e
 cases r1 with
 | cons r rr=>
  cases rr with
  | cons r' rr=>
   cases rr
   obtain⟨t,rfl⟩:=r
   obtain⟨t',rfl⟩:=r'
   exact call_range_2 (yV I1 q1 q2 q3 q4 q)
def Cd(wi:TI)(g:TG)(tb:TS):TS:=λD σ H=>wi σ H λJ H1=>∃W:Nat→Nat→St→Hp→Prop,(∃m,W 0 m σ H1)∧∀i m σ H,W i m σ H →
 (J.stop i H∧D.nx σ H)∨(J.go i H∧∃N:St→Hp→Prop,(∀σ' H',N σ' H'→∃m',m'<m∧W (i+1) m' σ' H')∧∀x H',J.DY i H x H'→g x σ H' λσ2 H2=>tb {D with nx:=N,ct:=N,bk:=D.nx} σ2 H2)
def qJ(fp:List Addr)(h:Heap):List (Addr×Obj):=fp.filterMap λb=>(h.get? b).map λo=>(b,o)
theorem gW{fp:List Addr}{h:Heap}{b:Addr}{o:Obj}(hb:b∈fp)(e:h.get? b=some o):(b,o)∈qJ fp h:=O3.mpr ⟨b,hb,by rw[e];rfl⟩
theorem Hq{fp:List Addr}{h:Heap}{p:Addr×Obj}(hp:p∈qJ fp h):p.1∈fp∧h.get? p.1=some p.2:=by
 obtain⟨b,hb,e⟩:=O3.mp hp
 cases q:h.get? b with
 | none=>rw[q]at e;cases e
 | some o=>
  rw[q]at e
  have e':(b,o)=p:=E4 e
  subst e'
  exact⟨hb,q⟩
theorem Inv.pinned{pins:List (Addr×Obj)}{σ:St}{H:Hp}{s:Shared}{fp:List Addr}(I:Inv X pins σ H s)(hf:∀b∈fp,vY X pins H b)(ho:∀b∈fp,∃o,s.heap.get? b=some o∧∀v,o.data≠.cell v):Inv X (pins++qJ fp s.heap) σ H s:=
 I.vW λp hp=>(D4.mp hp).elim (λz=>I.pin p (C5 _ z)) λz=>by
  obtain⟨hb,e⟩:=Hq z
  obtain⟨f0,f1,f2,_⟩:=hf p.1 hb
  obtain⟨o,e',d⟩:=ho p.1 hb
  rw[e]at e';cases e'
  exact⟨e,f0,f1,f2,d⟩
theorem Inv.iZ{pins pl:List (Addr×Obj)}{σ:St}{H:Hp}{s:Shared}(I:Inv X (pins++pl) σ H s):Inv X pins σ H s:=I.vW λp hp=>I.pin p (C5 _ (E1 _ hp))
theorem Ce{iter:Expr}{body:List Stmt}{wi:TI}{g:TG}{tb:TS}{pos:Pos}(hp:PassesOwn (model X.prog X.w) X.A X.env X.xe)(hc:X.calm=true)(hi:PI X tg iter wi)(hg:PG X tg g)(hb:yU X body tb)
  (hs:∀x,foldedSetIterable iter X.env x=pure x:=by intro _;rfl):PS X (.For tg iter body [] pos) (Cd wi g tb):=by
 intro pins s σ H D I h
 refine wpAny_For (cD (hi pins s σ H _ I h) λv s1 h1=>cD h1 λitv s2 h2=>?_) hs
 obtain⟨it,fp,tn,J,H2,e,I2,T,st2,f2,W,⟨m0,w0⟩,turn⟩:=h2
 subst e
 have stat:∀{H':Hp},(∀b∈fp,H' b=none)→∀b∈fp,vY X pins H' b:=λhn b hb=>⟨hn b hb,(f2 b hb).2⟩
 refine codeAny_forLoop_any (λn s'=>∃i σ' H',Inv X pins σ' H' s'∧tn i s'.heap∧(∀b∈fp,H' b=none)∧W i n σ' H') ?_ m0 ⟨0,σ,H2,I2,st2,λb hb=>(f2 b hb).1,w0⟩
 rintro n s3 ⟨i,σ3,H3,I3,st3,fr3,w3⟩
 rcases turn i n σ3 H3 w3 with ⟨stop,qn⟩ | ⟨go,N,hN,step⟩
 ·refine wpAny_passesOwn hp (cD (T.done X rfl rfl rfl hc i pins s3 σ3 H3 X.xe I3 (stat fr3) st3 stop) λr s4 ⟨hr,I4⟩=>?_)
  subst hr
  exact wpAny_execs_nil ⟨σ3,H3,I4,qn⟩
 ·refine wpAny_passesOwn hp (cD (T.item X rfl rfl rfl hc i pins s3 σ3 H3 X.xe I3 (stat fr3) st3 go) λr s4 ⟨u,hr,h4⟩=>?_)
  subst hr
  refine wpAny_passesOwn hp (cD h4 λ_ s5 ⟨x,H5,I5,r5,y5,st5,fr5⟩=>?_)
  have ZK:=I5.pinned (stat fr5) (T.obj _ _ st5)
  refine wpAny_passesOwn hp (cD (hg _ s5 σ3 H5 x u _ ZK r5 (step x H5 y5)) λ_ s6 ⟨σ6,H6,I6,q6⟩=>?_)
  refine wpAny_passesOwn hp (cD (hb _ s6 σ6 H6 _ I6 q6) λf s7 q7=>?_)
  have again:∀{σ7:St} {H7:Hp},Inv X (pins++qJ fp s5.heap) σ7 H7 s7→N σ7 H7→∃m,m<n∧∃i σ' H',Inv X pins σ' H' s7∧tn i s7.heap∧(∀b∈fp,H' b=none)∧W i m σ' H':=λ{σ7 H7} I7 n7=>by
   obtain⟨m',hm,w7⟩:=hN σ7 H7 n7
   refine⟨m',hm,i+1,σ7,H7,I7.iZ,T.keep _ _ _ st5 λb hb o e=>(I7.pin (b,o) (C5 _ (C5 _ (gW hb e)))).1,λb hb=>?_,w7⟩
   obtain⟨o,e,d⟩:=T.obj _ _ st5 b hb
   exact(I7.pin (b,o) (C5 _ (C5 _ (gW hb e)))).2.1
  cases f with
  | next=>obtain⟨σ7,H7,I7,n7⟩:=q7;exact again I7 n7
  | cont=>obtain⟨σ7,H7,I7,n7⟩:=q7;exact again I7 n7
  | brk=>obtain⟨σ7,H7,I7,q7⟩:=q7;exact⟨σ7,H7,I7.iZ,q7⟩
  | ret v=>obtain⟨x7,σ7,H7,I7,r7,q7⟩:=q7;exact⟨x7,σ7,H7,I7.iZ,r7,q7⟩
end
end L2
namespace L2
open PySem PySem.Spec PyProof.Rows
abbrev R2:=V→V→Hp→VK→Prop
def nZ(X:Cx)(f:Value→Value→Sem Value)(r:R2):Prop:=
 ∀(pins:List (Addr×Obj))(s:Shared)(σ:St)(H:Hp)(x y:V)(v u:Value)(Q:VK),Inv X pins σ H s→RelV x v→RelV y u→r x y H Q →
  wpAny (model X.prog X.w) X.A (f v u) (EP X pins σ Q) X.xe s
def dY(X:Cx)(f:Value)(r:List V→Hp→VK→Prop):Prop:=
 ∀(pins:List (Addr×Obj))(s:Shared)(σ:St)(H:Hp)(xs:List V)(us:List Value)(Q:VK),Inv X pins σ H s→Vals xs us→r xs H Q →
  wpAny (model X.prog X.w) X.A (call f us) (EP X pins σ Q) X.xe s
def Ke(r:R2)(ta tb:TE):TE:=λσ H Q=>ta σ H λx H1=>tb σ H1 λy H2=>r x y H2 Q
def rI(C:Int→Int→Prop)(g:Int→Int→V):R2:=λx y H Q=>∃i j,x=.int i∧y=.int j∧C i j∧Q (g i j) H
def Va(g:Int→Int→V):R2:=λx y H Q=>∃i j,x=.int i∧y=.int j∧Q (g i j) H
section
variable{X:Cx}{a b c:Expr}{ta tb tc:TE}{pos:Pos}
theorem FN(ha:PE X a ta)(hb:PE X b tb){pins:List (Addr×Obj)}{s:Shared}{σ:St}{H:Hp}{R:V→V→Hp→Prop}(I:Inv X pins σ H s)
  (h:ta σ H λx H1=>tb σ H1 λy H2=>R x y H2) {Q:Value→Shared→Prop} {f:Value→Value→Sem Value}
  (hf:∀v u s2 x y H2,Inv X pins σ H2 s2→RelV x v→RelV y u→R x y H2→wpAny (model X.prog X.w) X.A (f v u) Q X.xe s2) :
  wpAny (model X.prog X.w) X.A (eval a X.env) (λv s₁=>wpAny (model X.prog X.w) X.A (eval b X.env) (λu s₂=>wpAny (model X.prog X.w) X.A (f v u) Q X.xe s₂) X.xe s₁) X.xe s:=by
 refine cD (ha pins s σ H _ I h) λv s1 ⟨x,H1,I1,r1,q1⟩=>?_
 refine cD (hb pins s1 σ H1 _ I1 q1) λu s2 ⟨y,H2,I2,r2,q2⟩=>?_
 exact hf v u s2 x y H2 I2 r1 r2 q2
theorem FQ{op:Operator}{r:R2}(ho:nZ X (binaryOp op) r)(ha:PE X a ta)(hb:PE X b tb):PE X (.BinOp a op b pos) (Ke r ta tb):=by
 intro pins s σ H Q I h
 exact wpAny_BinOp (FN ha hb I h λv u s2 x y H2 I2 rx ry q=>ho pins s2 σ H2 x y v u Q I2 rx ry q)
theorem VR{f:Value→Value→Sem Value}{C:Int→Int→Prop}{g:Int→Int→Int}
  (rule:∀(i j:Int)(t u:Tok)(s:Shared)(Q:Value→Shared→Prop)(E:Value→Shared→Prop),C i j→Q (.int (g i j) s.toks) {s with toks:=s.toks+1}→wpAny (model X.prog X.w) X.A (f (.int i t) (.int j u)) Q E s) :
  nZ X f (rI C λi j=>.int (g i j)):=by
 intro pins s σ H x y v u Q I rx ry h
 obtain⟨i,j,rfl,rfl,hc,q⟩:=h
 obtain⟨t,rfl⟩:=rx
 obtain⟨t',rfl⟩:=ry
 exact rule i j t t' s _ _ hc ⟨.int (g i j),H,I.tok _,⟨_,rfl⟩,q⟩
theorem QR{f:Value→Value→Sem Value}{g:Int→Int→Int}
  (rule:∀(i j:Int)(t u:Tok)(s:Shared)(Q:Value→Shared→Prop)(E:Value→Shared→Prop),Q (.int (g i j) s.toks) {s with toks:=s.toks+1}→wpAny (model X.prog X.w) X.A (f (.int i t) (.int j u)) Q E s) :
  nZ X f (Va λi j=>.int (g i j)):=by
 intro pins s σ H x y v u Q I rx ry h
 obtain⟨i,j,rfl,rfl,q⟩:=h
 obtain⟨t,rfl⟩:=rx
 obtain⟨t',rfl⟩:=ry
 exact rule i j t t' s _ _ ⟨.int (g i j),H,I.tok _,⟨_,rfl⟩,q⟩
theorem FW{f:Value→Value→Sem Value}{g:Int→Int→Bool}
  (rule:∀(i j:Int)(t u:Tok)(s:Shared)(Q:Value→Shared→Prop)(E:Value→Shared→Prop),Q (.bool (g i j)) s→wpAny (model X.prog X.w) X.A (f (.int i t) (.int j u)) Q E s) :
  nZ X f (Va λi j=>.bl (g i j)):=by
 intro pins s σ H x y v u Q I rx ry h
 obtain⟨i,j,rfl,rfl,q⟩:=h
 obtain⟨t,rfl⟩:=rx
 obtain⟨t',rfl⟩:=ry
 exact rule i j t t' s _ _ ⟨.bl (g i j),H,I,rfl,q⟩
def Hr(i j:Int):Prop:=0<j∧j<1073741824
def Wx(i j:Int):Prop:=0≤j∧j≤1000000∧i.natAbs<2 ^ 64
def Wy(i j:Int):Prop:=(-(2 ^ 64)<i∧i<2 ^ 64)∨(-(2 ^ 64)<j∧j<2 ^ 64)
theorem Wz:nZ X (binaryOp .Add) (Va λi j=>.int (i+j)):=QR λ_ _ _ _ _ _ _ q=>add_int q
theorem Qu:nZ X (binaryOp .FloorDiv) (rI Hr λi j=>.int (i/j)):=VR λi j _ _ _ _ _ hc q=>by
 have h1:(0:Int)<j:=hc.1
 have h2:j<1073741824:=hc.2
 exact floordiv_int (by omega) (by rw[Int.fdiv_eq_ediv_of_nonneg i (by omega)];exact q) (.inl (PyProof.noPylong_small (by omega)))
theorem Xa:nZ X (binaryOp .Mod) (rI (λ_ j=>0<j) λi j=>.int (i%j)):=VR λi j _ _ _ _ _ hc q=>by
 have h1:(0:Int)<j:=hc
 exact mod_int' (by omega) (by rw[Int.fmod_eq_emod_of_nonneg i (by omega)];exact q)
end
def Qv:V→V→Bool
  | .non,.non=>true | .non,.int _=>true | .int _,.non=>true | .non,.bl _=>true | .bl _,.non=>true | .non,.str _=>true | .str _,.non=>true
  | .int _,.int _=>true | .bl _,.bl _=>true | .str _,.str _=>true | .byt _,.byt _=>true
  | .int _,.str _=>true | .str _,.int _=>true | .bl _,.str _=>true | .str _,.bl _=>true
  | _,_=>false
def QS:R2:=λx y H Q=>Qv x y=true∧Q (.bl (decide (x=y))) H
def WD:R2:=λx y H Q=>Qv x y=true∧Q (.bl (!decide (x=y))) H
theorem En{i j:Int}:decide (V.int i=V.int j)=(i==j):=by
 rw[F7]
 simp
theorem Kf{i j:Bool}:decide (V.bl i=V.bl j)=(i==j):=by
 rw[F7]
 simp
theorem Eo{i j:Str}:decide (V.str i=V.str j)=(i==j):=by
 rw[F7]
 simp
theorem Ep{i j:Array UInt8}:decide (V.byt i=V.byt j)=(i.toList==j.toList):=by
 rw[F7]
 cases i
 cases j
 simp
section
variable{X:Cx}{a b c:Expr}{ta tb tc:TE}{pos:Pos}
theorem aY{pins:List (Addr×Obj)}{σ:St}{H:Hp}{s:Shared}{Q:VK}{k k':Bool}(I:Inv X pins σ H s)(q:Q (.bl k) H)(e:k=k'):EP X pins σ Q (.bool k') s:=by
 subst e
 exact⟨.bl k,H,I,rfl,q⟩
theorem FZ:nZ X (compareOp .Eq) QS:=by
 intro pins s σ H x y v u Q I rx ry h
 obtain⟨hs,q⟩:=h
 cases x with
 | non=>
  cases rx
  cases y with
  | non=>cases ry;exact PySem.EqNone.eq_none_none (aY I q (by simp))
  | bl j=>cases ry;exact PySem.EqNone.eq_none_bool (aY I q (by simp))
  | int j=>obtain⟨t',rfl⟩:=ry;exact PySem.EqNone.eq_none_int (aY I q (by simp))
  | str j=>obtain⟨t',rfl⟩:=ry;exact PySem.EqNone.eq_none_str (aY I q (by simp))
  | _=>exact absurd (show false=true from hs) C7
 | bl i=>
  cases rx
  cases y with
  | non=>cases ry;exact PySem.EqNone.eq_bool_none (aY I q (by simp))
  | bl j=>cases ry;exact eq_bool (aY I q Kf)
  | str j=>obtain⟨t',rfl⟩:=ry;exact PySem.EqMixed.eq_bool_str (aY I q (by simp))
  | _=>exact absurd (show false=true from hs) C7
 | int i=>
  obtain⟨t,rfl⟩:=rx
  cases y with
  | non=>cases ry;exact PySem.EqNone.eq_int_none (aY I q (by simp))
  | int j=>obtain⟨t',rfl⟩:=ry;exact eq_int (aY I q En)
  | str j=>obtain⟨t',rfl⟩:=ry;exact PySem.EqMixed.eq_int_str (aY I q (by simp))
  | _=>exact absurd (show false=true from hs) C7
 | str i=>
  obtain⟨t,rfl⟩:=rx
  cases y with
  | non=>cases ry;exact PySem.EqNone.eq_str_none (aY I q (by simp))
  | bl j=>cases ry;exact PySem.EqMixed.eq_str_bool (aY I q (by simp))
  | int j=>obtain⟨t',rfl⟩:=ry;exact PySem.EqMixed.eq_str_int (aY I q (by simp))
  | str j=>obtain⟨t',rfl⟩:=ry;exact eq_str (aY I q Eo)
  | _=>exact absurd (show false=true from hs) C7
 | byt i=>
  obtain⟨t,rfl⟩:=rx
  cases y with
  | byt j=>obtain⟨t',rfl⟩:=ry;exact PySem.W.eq_bytes (aY I q Ep)
  | _=>exact absurd (show false=true from hs) C7
 | _=>cases y<;>exact absurd (show false=true from hs) C7
theorem GC:nZ X (compareOp .NotEq) WD:=by
 intro pins s σ H x y v u Q I rx ry h
 obtain⟨hs,q⟩:=h
 cases x with
 | non=>
  cases rx
  cases y with
  | non=>cases ry;exact PySem.EqNone.ne_none_none (aY I q (by simp))
  | bl j=>cases ry;exact PySem.EqNone.ne_none_bool (aY I q (by simp))
  | int j=>obtain⟨t',rfl⟩:=ry;exact PySem.EqNone.ne_none_int (aY I q (by simp))
  | str j=>obtain⟨t',rfl⟩:=ry;exact PySem.EqNone.ne_none_str (aY I q (by simp))
  | _=>exact absurd (show false=true from hs) C7
 | bl i=>
  cases rx
  cases y with
  | non=>cases ry;exact PySem.EqNone.ne_bool_none (aY I q (by simp))
  | bl j=>cases ry;exact ne_bool (aY I q (congrArg not Kf))
  | str j=>obtain⟨t',rfl⟩:=ry;exact PySem.EqMixed.ne_bool_str (aY I q (by simp))
  | _=>exact absurd (show false=true from hs) C7
 | int i=>
  obtain⟨t,rfl⟩:=rx
  cases y with
  | non=>cases ry;exact PySem.EqNone.ne_int_none (aY I q (by simp))
  | int j=>obtain⟨t',rfl⟩:=ry;exact ne_int (aY I q (congrArg not En))
  | str j=>obtain⟨t',rfl⟩:=ry;exact PySem.EqMixed.ne_int_str (aY I q (by simp))
  | _=>exact absurd (show false=true from hs) C7
 | str i=>
  obtain⟨t,rfl⟩:=rx
  cases y with
  | non=>cases ry;exact PySem.EqNone.ne_str_none (aY I q (by simp))
  | bl j=>cases ry;exact PySem.EqMixed.ne_str_bool (aY I q (by simp))
  | int j=>obtain⟨t',rfl⟩:=ry;exact PySem.EqMixed.ne_str_int (aY I q (by simp))
  | str j=>obtain⟨t',rfl⟩:=ry;exact ne_str (aY I q (congrArg not Eo))
  | _=>exact absurd (show false=true from hs) C7
 | byt i=>
  obtain⟨t,rfl⟩:=rx
  cases y with
  | byt j=>obtain⟨t',rfl⟩:=ry;exact PySem.W.ne_bytes (aY I q (congrArg not Ep))
  | _=>exact absurd (show false=true from hs) C7
 | _=>cases y<;>exact absurd (show false=true from hs) C7
theorem GD:nZ X (compareOp .Lt) (Va λi j=>.bl (decide (i<j))):=FW λ_ _ _ _ _ _ _ q=>lt_int q
theorem GF:nZ X (compareOp .Gt) (Va λi j=>.bl (decide (j<i))):=FW λ_ _ _ _ _ _ _ q=>gt_int q
theorem nZ.or{f:Value→Value→Sem Value}{r r':R2}(h:nZ X f r)(h':nZ X f r'):nZ X f (λx y H Q=>r x y H Q∨r' x y H Q):=by
 intro pins s σ H x y v u Q I rx ry q
 rcases q with q | q
 ·exact h pins s σ H x y v u Q I rx ry q
 ·exact h' pins s σ H x y v u Q I rx ry q
theorem eU(b:Expr){op:CmpOp}(h:op≠.In:=by decide)(h2:op≠.NotIn:=by decide):behindInMarks op b=false:=by
 have e1:(op==CmpOp.In)=false:=by cases op<;>first | rfl | exact absurd rfl h
 have e2:(op==CmpOp.NotIn)=false:=by cases op<;>first | rfl | exact absurd rfl h2
 cases b<;>simp[behindInMarks,e1,e2]
def Kg(t:TE):TT:=λσ H Q=>t σ H λx H'=>∃k,x=.bl k∧Q k H'
theorem Qw{op:CmpOp}{r:R2}(ho:nZ X (compareOp op) r)(ha:PE X a ta)(hb:PE X b tb)(hm:behindInMarks op b=false):PT X (.Compare a [op] [b] pos) (Kg (Ke r ta tb)):=by
 intro pins s σ H Q I h
 refine wpAny_isTrue_Compare1 (cD (ha pins s σ H _ I h) λv s1 ⟨x,H1,I1,r1,q1⟩=>cD (hb pins s1 σ H1 _ I1 q1) λu s2 ⟨y,H2,I2,r2,q2⟩=>
  cD (ho pins s2 σ H2 x y v u _ I2 r1 r2 q2) λc s3 ⟨z,H3,I3,r3,k,e,q3⟩=>?_) hm
 subst e
 cases r3
 exact wpAny_truthy_bool ⟨H3,I3,q3⟩
theorem vZ:(sizeLine:Nat)<2 ^ 63:=by rw[sizeLine_eq];decide
theorem vals1{x:V}{us:List Value}(r:Vals [x] us):∃u,us=[u]∧RelV x u:=by
 cases r with
 | cons r1 r2=>cases r2;exact⟨_,rfl,r1⟩
end
end L2
namespace L2
open PySem PySem.Spec PyProof.Rows
structure ZL(h:Heap)(x dx C:Addr)(mA:Str→Option Value):Prop where
 obj:h.get? x=some (V5 C dx)
 ns:h.Ns1 dx mA
 ne:dx≠x
section
variable{prog:Program}{w:World}{A:Around}{E:Value→Shared→Prop}{s:Shared}{K:aA}{x dx C f:Addr}{mA:Str→Option Value}{name:Str}{v:Value}
end
section
variable{P:Program}{w:World}{H H':Hp}{h h':Heap}{a C dx:Addr}{fs fs':List (Str×V)}
end
structure WK(K:aA)(C:Addr):Prop where
 pg:PySem.W.plainGet K C Str.empty=true
 hd:PySem.W.hasDictIn K C=true
 po:PySem.W.plainOver K C=true
 sa:I0 K (.ref C) "__setattr__" = some (some (.builtin "object.__setattr__"))
def Xb(K:aA)(C:Addr)(f:Str):Prop:=I0 K (.ref C) f=some none
structure km(K:aA)(C:Addr)(f:Str)(v:V)(u:Value):Prop where
 at_:I0 K (.ref C) f=some (some u)
 rel:RelV v u
 get:P0 K u "__get__" = some none
 cp:PySem.W.copiedNames.contains f=false
structure Meth(K:aA)(C:Addr)(m:Str)(f:Addr):Prop where
 at_:I0 K (.ref C) m=some (some (.ref f))
 fn:X6 K (.ref f)=true
 kp:G2 K (.ref f)=true
section
variable{X:Cx}{pins:List (Addr×Obj)}{σ:St}{H:Hp}{s:Shared}{a C dx:Addr}{fs:List (Str×V)}{f:Str}{v:V}{A:Around}{E:Value→Shared→Prop}
end
section
variable{X:Cx}{o e value:Expr}{f:Str}{pos pos' tpos:Pos}{ta tv:TE}
end
section
variable{X:Cx}{pins:List (Addr×Obj)}{σ:St}{H:Hp}{s:Shared}{A:Around}{E:Value→Shared→Prop}{Q:Value→Shared→Prop}{c:Value}{b:Bool}
inductive qK(K:aA)(H:Hp):V→Value→Prop where
 | non:qK K H .non (.type "NoneType")
 | bl (x:Bool):qK K H (.bl x) (.type "bool")
 | int (i:Int):qK K H (.int i) (.type "int")
 | str (x:Str):qK K H (.str x) (.type "str")
 | flt (x:UInt64):qK K H (.flt x) (.type "float")
 | lst {a:Addr} {xs:List V} (e:H a=some (.lst xs)):qK K H (.ref a) (.type "list")
 | fX {a:Addr} {o:Obj} {xs:List V} (e:H a=some (.fX o (.lst xs))):qK K H (.ref a) (.type "list")
 | tup {a:Addr} {xs:List V} (e:H a=some (.tup xs)):qK K H (.ref a) (.type "tuple")
 | dK {a:Addr} {kvs:List (Key×V)} (e:H a=some (.dK kvs)):qK K H (.ref a) (.type "dict")
 | dT {a:Addr} {kvs:List (List Key×V)} (e:H a=some (.dT kvs)):qK K H (.ref a) (.type "dict")
 | ins {a C dx:Addr} {fs:List (Str×V)} (e:H a=some (.ins C dx fs)) (cl:WK K C) (ha:I0 K (.ref C) "__class__" = some (some (.builtin "object.__class__")))
   (hn:P0 K (.builtin "object.__class__") "__get__" = some (some (.builtin "getset_descriptor.__get__"))) (htk:V7 K (.builtin "object.__class__")=some true)
   (hm:X0 K C (.type "object")=some true):qK K H (.ref a) (.ref C)
end
end L2
namespace L2
open PySem PySem.Spec PyProof.Rows
structure eV(k:Nat)(A:Around):Prop where
 hd:A.handled=none
 dp:A.depth+3*k+5<recursionLimit
 un:A.units+16*k+200<cLine
theorem eV.mono{j k:Nat}{A:Around}(r:eV k A)(h:j≤k):eV j A:=⟨r.hd,by have:=r.dp;omega,by have:=r.un;omega⟩
theorem eV.deeper{k:Nat}{A:Around}(r:eV (k+1) A)(env:Env):eV k (A.deeper env):=
 ⟨r.hd,by have:=r.dp;show A.depth+1+3*k+5<_;omega,by have:=r.un;show A.units+3+16*k+200<_;omega⟩
theorem eV.depth{k:Nat}{A:Around}(r:eV k A):A.depth<recursionLimit:=by have:=r.dp;omega
theorem eV.units{k:Nat}{A:Around}(r:eV k A):A.units+64<cLine:=by have:=r.un;omega
def yW:TA:=λ_ H Q=>Q [] H
def pI(ta:TE)(tr:TA):TA:=λσ H Q=>ta σ H λx H1=>tr σ H1 λxs H2=>Q (x::xs) H2
section
variable{X:Cx}{e:Expr}{es:List Expr}{te:TE}{t:TA}{pos:Pos}
theorem lX:PA X [] yW:=λ_ _ _ _ H Q I h=>Calls.spliced_nil ⟨[],H,I,.nil,h⟩
theorem gY(ha:PE X e te)(hr:PA X es t)(hs:starEach (e::es) X.env=(false,eval e X.env)::starEach es X.env:=by rfl):PA X (e::es) (pI te t):=by
 intro pos pins s σ H Q I h
 rw[hs]
 show wpAny _ _ (spliced ((false,eval e X.env)::backTo pos (starEach es X.env))) _ _ s
 refine Calls.spliced_cons (cD (ha pins s σ H _ I h) λu s1 ⟨x,H1,I1,r1,q1⟩=>?_)
 exact cD (hr pos pins s1 σ H1 _ I1 q1) λus s2 ⟨xs,H2,I2,r2,q2⟩=>⟨x::xs,H2,I2,.cons r1 r2,q2⟩
def Xc(t:TA):TE:=λσ H Q=>t σ H λxs H1=>xs.length≤sizeLine∧∀p,H1 p=none→Q (.ref p) (upd H1 p (.tup xs))
def Kh(t:TA):TE:=λσ H Q=>t σ H λxs H1=>xs.length≤sizeLine∧∀p,H1 p=none→Q (.ref p) (upd H1 p (.lst xs))
theorem Xd{x1}(h:PA X es t):PE X (.Tuple es x1 pos) (Xc t):=by
 intro pins s σ H Q I hq
 refine wpAny_Tuple_spliced (cD (h pos pins s σ H _ I hq) λus s1 ⟨xs,H1,I1,r,z,q⟩=>⟨by rw[←r.length];exact z,?_⟩)
 have hf:H1 s1.heap.objs.size=none:=I1.hok.fresh (A9 _)
 refine⟨.ref s1.heap.objs.size,upd H1 s1.heap.objs.size (.tup xs),I1.laid (t':=s1.toks) (λb u e=>Heap.get?_push_of_some _ e) (A9 _) ?_,rfl,q _ hf⟩
 exact⟨z,us,r,⟨_,Heap.get?_push_size _ rfl,rfl,_,rfl⟩⟩
theorem Kl(h:PA X es t):PE X (.List es pos) (Kh t):=by
 intro pins s σ H Q I hq
 refine wpAny_List_spliced (cD (h pos pins s σ H _ I hq) λus s1 ⟨xs,H1,I1,r,z,q⟩=>⟨by rw[←r.length];exact z,?_⟩)
 have hf:H1 s1.heap.objs.size=none:=I1.hok.fresh (A9 _)
 refine⟨.ref s1.heap.objs.size,upd H1 s1.heap.objs.size (.lst xs),I1.laid (t':=s1.toks) (λb u e=>Heap.get?_push_of_some _ e) (A9 _) ?_,rfl,q _ hf⟩
 exact⟨z,us,0,r,Heap.get?_push_size _ rfl⟩
end
abbrev Sp:=List V→Hp→VK→XK→Prop
abbrev Hs:=List Env→Hp→Shared→XK→Value→Shared→Prop
structure Qx(P:Program)(w:World)(K:aA)(mg:Str→Option Value)(base:Heap)(A:Around)(outer:List Env)(s:Shared)(H:Hp):Prop where
 frames:A.frames=some outer
 mod:Mod K mg base
 bs:∀b o,base.get? b=some o→s.heap.get? b=some o∧H b=none
 Uv:base.objs.size≤s.heap.objs.size
 qH:s.heap.FunFrames base outer
 CJ:∀b∈frs outer,H b=none
 hok:lV P w H s.heap
 bare:AllBare s.gens
def CE(outer:List Env)(P:Program)(w:World)(H:Hp)(s:Shared)(Q:VK)(u:Value)(s':Shared):Prop:=
 ∃v H',s'.os=s.os∧AllBare s'.gens∧Un (frs outer) [] H H' s.heap s'.heap∧lV P w H' s'.heap∧RelV v u∧Q v H'
def CR(CX:Hs)(outer:List Env)(P:Program)(w:World)(H:Hp)(s:Shared)(Q:VK)(E:XK)(r:Result)(s':Shared):Prop:=
 match r with
 | .ok (.ret u)=>CE outer P w H s Q u s'
 | .ok _=>False
 | .error e=>CX outer H s E e s'
structure oE(P:Program)(w:World)(K:aA)(mg:Str→Option Value)(base:Heap)(CX:Hs)(k:Nat)(f:Addr)(fd:FuncData)(ps:List Str)(sp:Sp):Prop where
 len:∀vs H Q E,sp vs H Q E→vs.length=ps.length
 run:∀(A:Around)(outer:List Env)(s:Shared)(H:Hp)(args:Args)(us:List Value)(vs:List V)(Q:VK)(E:XK),eV k A→Qx P w K mg base A outer s H→BindsTo s fd args (ps.zip us)→Vals vs us→sp vs H Q E →
  codeAny (model P w) A (.call (.ref f) args) (CR CX outer P w H s Q E) s
section
variable{X:Cx}{pins:List (Addr×Obj)}{σ:St}{H:Hp}{s s':Shared}
theorem Inv.env0(I:Inv X pins σ H s):Qx X.prog X.w X.K X.mg X.base X.A X.stack s H:=
 ⟨I.ok.frames,I.ok.mod,I.bs,F1 I.ok.Uv I.sz,I.stack,I.Ek,I.hok,I.bare⟩
theorem Inv.after{Q:VK}{u:Value}(I:Inv X pins σ H s)(h:CE X.stack X.prog X.w H s Q u s'):EP X pins σ Q u s':=by
 obtain⟨v,H',os,bare,un,hok,r,q⟩:=h
 obtain⟨hh,g,d,t,os'⟩:=s'
 obtain rfl:os'=s.os:=os
 exact⟨v,H',I.call (h':=hh) (g':=g) (d':=d) (t':=t) (ch:=[]) un hok bare (λb z=>absurd z (by simp)),r,q⟩
end
def yX(sp:Sp)(Vb:List V)(E:XK)(t:TA):TE:=λσ H Q=>t σ H λvs H1=>sp (vs++Vb) H1 Q E
def Binds(K:aA)(fd:FuncData)(ps:List Str)(ds:List Value):Prop:=
 ∀(s:Shared)(us:List Value),K.In s.heap→(us++ds).length=ps.length→BindsTo s fd ⟨us,[]⟩ (ps.zip (us++ds))
theorem Binds.all{K:aA}{fd:FuncData}{ps:List Str}(h:∀us:List Value,us.length=ps.length→bindArgs fd ⟨us,[]⟩=pure (ps.zip us)):Binds K fd ps []:=λs us _ hl=>by
 rw[Q8]at hl ⊢
 exact .of_eq (h us hl)
def Passes(CX:Hs)(X:Cx)(E:XK):Prop:=∀(pins:List (Addr×Obj))(σ:St)(H:Hp)(s:Shared)(e:Value)(s':Shared),Inv X pins σ H s→CX X.stack H s E e s'→X.xe e s'
section
variable{X:Cx}{CX:Hs}{k:Nat}{f C:Addr}{fd:FuncData}{ps:List Str}{sp:Sp}{Vb:List V}{ds:List Value}{E:XK}{x m:Str}{p pos apos:Pos}{e o:Expr}{es:List Expr}{ta:TE}{t:TA}
theorem Xe{pins:List (Addr×Obj)}{σ:St}{H:Hp}{s:Shared}{Q:VK}{us:List Value}{vs:List V}(F:oE X.prog X.w X.K X.mg X.base CX k f fd ps sp)(hr:eV k X.A)(hb:Binds X.K fd ps ds)(hd:Vals Vb ds)(hx:Passes CX X E)
  (I:Inv X pins σ H s) (r:Vals vs us) (h:sp (vs++Vb) H Q E):wpAny (model X.prog X.w) X.A (call (.ref f) us) (EP X pins σ Q) X.xe s:=by
 have r2:Vals (vs++Vb) (us++ds):=r.append hd
 have hl:(us++ds).length=ps.length:=by rw[←r2.length];exact F.len _ _ _ _ h
 refine wpAny_call (codeAny_mono (F.run X.A X.stack s H ⟨us,[]⟩ (us++ds) (vs++Vb) Q E hr I.env0 (hb s us I.CK hl) r2 h) λr s' hq=>?_)
 cases r with
 | error e=>exact hx pins σ H s e s' I hq
 | ok fl=>
  cases fl with
  | ret u=>exact I.after hq
  | next=>exact False.elim hq
  | brk=>exact False.elim hq
  | cont=>exact False.elim hq
theorem Qy(F:oE X.prog X.w X.K X.mg X.base CX k f fd ps sp)(hr:eV k X.A)(hg:Gl X x)(hm:X.mg x=some (.ref f))(hk:G2 X.K (.ref f)=true)(hb:Binds X.K fd ps ds)(hd:Vals Vb ds)(hx:Passes CX X E)
  (ha:PA X (e::es) t) (hdb:(x==("__debug__" : Str))=false:=by decide) (he:starEach (e::es) X.env=(false,eval e X.env)::starEach es X.env:=by rfl) (hpl:(backTo pos (starEach es X.env)).any (·.1)=false:=by rfl) :
  PE X (.Call (.Name x p) (e::es) [] pos) (yX sp Vb E t):=by
 intro pins s σ H Q I h
 refine wpAny_Call_Name_kw (Qn I hg hm ?_ hdb)
 refine PySem.W.callWith_K (h₀:=X.base) I.ok.mod.QF hk (cD (ha pos pins s σ H _ I h) λus s1 ⟨vs,H1,I1,r,q⟩=>⟨I1.CK,?_⟩) he hpl
 exact Xe F hr hb hd hx I1 r q
structure Mk(K:aA)(C f:Addr):Prop where
 makes:PySem.W.makesIn K C=true
 init:I0 K (.ref C) "__init__" = some (some (.ref f))
 fn:X6 K (.ref f)=true
 kp:G2 K (.ref C)=true
end
section
variable{X:Cx}{CX:Hs}{k:Nat}{f C:Addr}{fd:FuncData}{ps ks:List Str}{sp:Sp}{E:XK}{x m:Str}{p pos apos kpos:Pos}{e o:Expr}{es:List Expr}{kws:List Keyword}{te ta:TE}{t tk:TA}{nm:Option Str}
structure QT(K:aA)(fd:FuncData)(ps ks:List Str)(g:List Value→List Value→List Value)(gV:List V→List V→List V):Prop where
 to:∀(s:Shared)(us ws:List Value),K.In s.heap→(g us ws).length=ps.length→BindsTo s fd ⟨us,ks.zip ws⟩ (ps.zip (g us ws))
 rel:∀{vs:List V} {us:List Value} {zs:List V} {ws:List Value},Vals vs us→Vals zs ws→Vals (gV vs zs) (g us ws)
variable{g:List Value→List Value→List Value}{gV:List V→List V→List V}
end
structure bJ(N P:List Str)(sc:Scope):Prop where
 kind:sc.kind=.function
 co:sc.isCoroutine=false
 gen:sc.isGenerator=false
 nd:N.Nodup
 pre:N.take P.length=P
 par:∀x∈P,sc.names.lookup x=some .local∨sc.names.lookup x=some .cell
 Xf:∀y∈sc.names,y.2≠.free
theorem uJ{kindOf:Str→Option NameKind}{x:Str}:∀{binds:List (Str×Value)} {m:Str→Option Value},(∀v,(x,v)∉binds)→bindL kindOf binds m x=m x
 | [],_,_=>rfl
 | (n,v)::r,m,h=>by
  unfold bindL
  rw[uJ λw hw=>h w (B4 _ hw)]
  split
  ·have:x≠n:=by rintro rfl;exact h v B7
   simp[this]
  ·rfl
theorem uK{kindOf:Str→Option NameKind}{x:Str}:∀{binds:List (Str×Value)} {m:Str→Option Value},(∀v,(x,v)∉binds)→bindC kindOf binds m x=m x
 | [],_,_=>rfl
 | (n,v)::r,m,h=>by
  unfold bindC
  rw[uK λw hw=>h w (B4 _ hw)]
  split
  ·rfl
  ·have:x≠n:=by rintro rfl;exact h v B7
   simp[this]
theorem uL{kindOf:Str→Option NameKind}{x:Str}{v:Value}:∀{P:List Str} {vs:List Value} {i:Nat} {m:Str→Option Value},P.Nodup→P[i]?=some x→vs[i]?=some v→kindOf x=some .local →
  bindL kindOf (P.zip vs) m x=some v
 | [],_,_,_,_,h,_,_=>by simp at h
 | _::_,[],_,_,_,_,h,_=>by simp at h
 | p::P,w::vs,0,m,nd,h1,h2,hk=>by
  simp at h1 h2;subst h1;subst h2
  show bindL kindOf ((p,w)::P.zip vs) m p=_
  unfold bindL
  rw[uJ λv hv=>(E5.mp nd).1 (Q9 hv).1,if_pos hk]
  simp
 | p::P,w::vs,i+1,m,nd,h1,h2,hk=>by
  show bindL kindOf ((p,w)::P.zip vs) m x=_
  unfold bindL
  exact uL (i:=i) (E5.mp nd).2 (by simpa using h1) (by simpa using h2) hk
theorem uM{kindOf:Str→Option NameKind}{x:Str}{v:Value}:∀{P:List Str} {vs:List Value} {i:Nat} {m:Str→Option Value},P.Nodup→P[i]?=some x→vs[i]?=some v→kindOf x≠some .local →
  bindC kindOf (P.zip vs) m x=some v
 | [],_,_,_,_,h,_,_=>by simp at h
 | _::_,[],_,_,_,_,h,_=>by simp at h
 | p::P,w::vs,0,m,nd,h1,h2,hk=>by
  simp at h1 h2;subst h1;subst h2
  show bindC kindOf ((p,w)::P.zip vs) m p=_
  unfold bindC
  rw[uK λv hv=>(E5.mp nd).1 (Q9 hv).1,if_neg hk]
  simp
 | p::P,w::vs,i+1,m,nd,h1,h2,hk=>by
  show bindC kindOf ((p,w)::P.zip vs) m x=_
  unfold bindC
  exact uM (i:=i) (E5.mp nd).2 (by simpa using h1) (by simpa using h2) hk
def start(N:List Str)(vs:List V):St:=vs.map some++E8 (N.length-vs.length) none
def wA(CX:Hs)(P:Program)(w:World)(K:aA)(mg:Str→Option Value)(base:Heap)(N:List Str)(qual:Str)(scope:Scope)(f:Addr)(cd:Value)(A:Around)(outer:List Env)(s:Shared)(H:Hp)(E:XK):Cx where
 prog:=P
 w:=w
 K:=K
 mg:=mg
 base:=base
 A:=A.deeper (envOfC qual scope s.heap.objs.size f cd)
 N:=N
 s₀:=s
 H₀:=H
 env:=envOfC qual scope s.heap.objs.size f cd
 outer:=outer
 stack:=envOfC qual scope s.heap.objs.size f cd::outer
 ex:=[]
 calm:=true
 fn:=λ_=>true
 pn:=[]
 xe:=λe s'=>wpAny (model P w) (A.deeper (envOfC qual scope s.heap.objs.size f cd)) (leaving (envOfC qual scope s.heap.objs.size f cd) e) (λ_ s''=>CX outer H s E e s'') (λe' s''=>CX outer H s E e' s'') s'
theorem yZ{sc:Scope}{n:Nat}{x:Str}(h:sc.names.lookup x=some .cell):∃c,(cellsFrom n sc.names []).lookup x=some c:=by
 have q:=R7 sc.names n [] (.inl h)
 exact Option.isSome_iff_exists.mp q
theorem Ht{CX:Hs}{P:Program}{w:World}{K:aA}{mg:Str→Option Value}{base:Heap}{N ps:List Str}{qual:Str}{scope:Scope}{f:Addr}{cd:Value}{A:Around}{outer:List Env}{s s1:Shared}{H:Hp}{E:XK}{us:List Value}{vs:List V}
  (S:bJ N ps scope) (hd:A.handled=none) (e0:Qx P w K mg base A outer s H) (hl:vs.length=ps.length) (r:Vals vs us)
  (x:InCallC s s.heap.objs.size (bindL (envOfC qual scope s.heap.objs.size f cd).kindOf (ps.zip us) λ_=>none) (cellsFrom (s.heap.objs.size+1) scope.names []) (bindC (envOfC qual scope s.heap.objs.size f cd).kindOf (ps.zip us) λ_=>none) s1) :
  Inv (wA CX P w K mg base N qual scope f cd A outer s H E) [] (start N vs) H s1:=by
 have hpl:ps.length≤N.length:=by have:=congrArg List.length S.pre;rw[K8]at this;omega
 obtain⟨h1,tk,rfl,hk⟩:=x.done
 have GJ:∀b:Addr,b∉(wA CX P w K mg base N qual scope f cd A outer s H E).ex:=λb z=>absurd (show b∈([]:List Addr)from z) (by simp)
 refine⟨⟨e0.mod,S.kind,rfl,rfl,A9 _,λy z c h1 h2=>?_,λy hy=>?_,λy c _ h=>?_,λ_=>hd,Around.frames_deeper e0.frames,.inr ⟨rfl,rfl⟩,λb z=>absurd z (GJ b),e0.bs,e0.Uv,λb _ _=>GJ b,λb z=>absurd z (GJ b),e0.qH,e0.CJ⟩,
  rfl,e0.bare,Un.kept hk,⟨_,x.toInCall.ns,λi y v h1 h2 h3=>?_⟩,λy c h=>⟨_,x.cell y c h⟩,e0.hok.fresh (A9 _),λy c h=>?_,λp hp=>absurd (show p∈([]:List (Addr×Obj))from hp) (by simp),e0.hok.kept hk,?_⟩
 ·exact name_of_addr x.apart (G6 h1) (G6 h2)
 ·have hy:scope.names.lookup y=some .cell∨scope.names.lookup y=some .free:=hy
  rcases hy with hy | hy
  ·exact yZ hy
  ·exact absurd rfl (S.Xf _ (G6 hy))
 ·exact K7 (x.above y c (G6 h))
 ·have hi:i<vs.length:=by
   unfold start at h2
   by_cases hi:i<vs.length
   ·exact hi
   ·rw[O7 (by simpa using hi)]at h2
    rw[Q5]at h2
    split at h2<;>cases h2
  have ha:vs[i]?=some v:=by
   unfold start at h2
   rw[P4 (by simpa using hi),C8]at h2
   cases e:vs[i]? with
   | none=>rw[e]at h2;cases h2
   | some a=>rw[e]at h2;cases h2;rfl
  obtain⟨u,hu,rv⟩:=r.get ha
  have hp:ps[i]?=some y:=by
   rw[←S.pre,List.getElem?_take_of_lt (by omega)];exact h1
  have WL:ps.Nodup:=by rw[←S.pre];exact S.nd.sublist (U3 _ _)
  refine⟨u,rv,?_⟩
  rcases S.par y (E9 hp)with k | k
  ·exact .inl ⟨k,uL WL hp hu k⟩
  ·obtain⟨c,e⟩:=yZ (n:=s.heap.objs.size+1) k
   refine .inr ⟨.inl k,c,e,?_⟩
   have q:=x.cell y c e
   rw[uM WL hp hu (by show scope.names.lookup y≠_;rw[k];decide)]at q
   exact q
 ·exact e0.hok.fresh (K7 (x.above y c (G6 h)))
 ·unfold start
  show _=N.length
  rw[D1,B0,S6]
  omega
theorem GK{CX:Hs}{P:Program}{w:World}{K:aA}{mg:Str→Option Value}{base:Heap}{k:Nat}{f:Addr}{name qual:Str}{params:Arguments}{body:List Stmt}{scope:Scope}{dV kV doc pm cdv ct oc:Value}{an od:Option Addr}
  {osl:Array (Option Value)} {N ps:List Str} {sp:Sp} (lk:K.lookup f=some ⟨oc,od,.func (F0 name qual params body scope dV kV doc pm an cdv ct),osl⟩) (hcd:L7 K cdv qual=true) (S:bJ N ps scope)
  (len:∀vs H Q E,sp vs H Q E→vs.length=ps.length)
  (hbody:∀(A:Around)(outer:List Env)(s:Shared)(H:Hp)(vs:List V)(Q:VK)(E:XK),eV k (A.deeper (envOfC qual scope s.heap.objs.size f cdv))→sp vs H Q E →
   ∃t,yU (wA CX P w K mg base N qual scope f cdv A outer s H E) body t∧t {nx:=λ_ H'=>Q .non H',rt:=Q} (start N vs) H) :
  oE P w K mg base CX (k+1) f (F0 name qual params body scope dV kV doc pm an cdv ct) ps sp:=by
 refine⟨len,λA outer s H args us vs Q E hr e0 hb r hsp=>?_⟩
 have hl:=len _ _ _ _ hsp
 have KX:K.In s.heap:=e0.mod.QF.keeps λb o e=>(e0.bs b o e).1
 have lim:s.heap.NoLimit:=e0.mod.nolimit.keeps λb o e=>(e0.bs b o e).1
 have hkind:∀y∈ps.zip us,scope.names.lookup y.1=some .local∨(scope.names.lookup y.1=some .cell∧((cellsFrom (s.heap.objs.size+1) scope.names []).lookup y.1).isSome=true):=λ⟨n,v⟩ hy=>by
  rcases S.par n (Q9 hy).1 with q | q
  ·exact .inl q
  ·exact .inr ⟨q,R7 _ _ _ (.inl q)⟩
 refine codeAny_call_function hr.depth (KX _ _ lk) rfl S.co S.gen rfl (PySem.W.codeRec_of KX hcd) (hb _ _ _ _ ?_)
 refine wpAny_newFunctionEnv_cells S.kind hkind λenv he s1 x=>?_
 subst he
 refine⟨lim.keeps x.toInCall.keep,codeAny_func ?_⟩
 obtain⟨t,ht,hq⟩:=hbody A outer s H vs Q E (hr.deeper _) hsp
 have I:Inv (wA CX P w K mg base N qual scope f cdv A outer s H E) [] (start N vs) H s1:=Ht S hr.hd e0 hl r x
 refine wpAny_mono (ht [] s1 (start N vs) H _ I hq) (λfl s' hs=>?_) λe s' hs=>hs
 have fin:∀{σ':St} {H':Hp} {v:V} {u:Value},Inv (wA CX P w K mg base N qual scope f cdv A outer s H E) [] σ' H' s'→RelV v u→Q v H'→CE outer P w H s Q u s':=
  λ{σ' H' v u} J rv q=>⟨v,H',J.os,J.bare,J.base,J.hok,rv,q⟩
 cases fl with
 | ret u=>
  obtain⟨v,σ',H',J,rv,q⟩:=hs
  exact fin J rv q
 | next=>
  obtain⟨σ',H',J,q⟩:=hs
  exact fin (v:=V.non) (u:=Value.none) J rfl q
 | brk=>
  obtain⟨_,_,_,q⟩:=hs
  exact False.elim q
 | cont=>
  obtain⟨_,_,_,q⟩:=hs
  exact False.elim q
end L2
namespace L2
open PySem PySem.Spec PyProof.Rows
section
variable{X:Cx}{x:Str}{p pos:Pos}{e:Expr}{es:List Expr}{t:TA}{id T:String}{r:List V→Hp→VK→Prop}
def GP(r:List V→Hp→VK→Prop)(t:TA):TE:=λσ H Q=>t σ H λvs H1=>r vs H1 Q
theorem Km(hc:dY X (.builtin id) r)(hg:Gl X x)(hm:X.mg x=none)(hv:bootBuiltins x=some (.builtin id))(ha:PA X (e::es) t)(hn:x ≠ "__name__" := by decide) (hdb:(x==("__debug__" : Str))=false:=by decide)
  (he:starEach (e::es) X.env=(false,eval e X.env)::starEach es X.env:=by rfl) (hpl:(backTo pos (starEach es X.env)).any (·.1)=false:=by rfl):PE X (.Call (.Name x p) (e::es) [] pos) (GP r t):=by
 intro pins s σ H Q I h
 refine wpAny_Call_Name_kw (lW I hg hm hv ?_ hn hdb)
 exact N7 (cD (ha pos pins s σ H _ I h) λus s1 ⟨vs,H1,I1,r1,q1⟩=>hc pins s1 σ H1 vs us Q I1 r1 q1) he hpl
theorem Hu(hc:dY X (.type T) r)(hg:Gl X x)(hm:X.mg x=none)(hv:bootBuiltins x=some (.type T))(ha:PA X (e::es) t)(hn:x ≠ "__name__" := by decide) (hdb:(x==("__debug__" : Str))=false:=by decide)
  (he:starEach (e::es) X.env=(false,eval e X.env)::starEach es X.env:=by rfl) (hpl:(backTo pos (starEach es X.env)).any (·.1)=false:=by rfl):PE X (.Call (.Name x p) (e::es) [] pos) (GP r t):=by
 intro pins s σ H Q I h
 refine wpAny_Call_Name_kw (lW I hg hm hv ?_ hn hdb)
 exact G4 (cD (ha pos pins s σ H _ I h) λus s1 ⟨vs,H1,I1,r1,q1⟩=>hc pins s1 σ H1 vs us Q I1 r1 q1) he hpl
end
end L2
namespace HT
open PySem PyProof.Rows
theorem Ko(A:Around)(s:Shared)(a:Int)(t:Tok)(c:Int)(u:Tok)(prog:Program)(w:World)(E:Value→Shared→Prop)(Q:Value→Shared→Prop)(h:Q (.bool (decide (a<c))) s) :
  wpAny (model prog w) A (richCompare .Lt (.int a t) (.int c u)) Q E s:=
 (PyProof.Rows.lt_int h:wpAny (model prog w) A (compareOp .Lt (.int a t) (.int c u)) Q E s)
section
open PySem.SeqAt
open PySem.AutoSeq1 (wpAny_loadPart')
open PySem.MeetsSeq PySem.MeetsSeq2 PySem.MeetsSeq3
end
section
variable{prog:Program}{w:World}{A:Around}{E:Value→Shared→Prop}{s:Shared}
def qL(n d:Nat):Option Int→Nat
 | none=>d
 | some v=>if v<0 then(v+(n:Int)).toNat else min v.toNat n
theorem Qz(n d k:Nat):qL n d (some (k:Int))=min k n:=by
 show (if(k:Int)<0 then((k:Int)+(n:Int)).toNat else min (k:Int).toNat n)=min k n
 rw[if_neg (by omega),J5]
end
end HT
namespace L2
open PySem PySem.Spec PyProof.Rows
abbrev TO:=St→Hp→(Option Int→Hp→Prop)→Prop
def PO(X:Cx)(e:Option Expr)(t:TO):Prop:=
 ∀(pins:List (Addr×Obj))(s:Shared)(σ:St)(H:Hp)(Q:Option Int→Hp→Prop),Inv X pins σ H s→t σ H Q →
  wpAny (model X.prog X.w) X.A (evalPart e X.env) (λu s'=>∃o H',Inv X pins σ H' s'∧IsPart u o∧Q o H') X.xe s
def Er:TO:=λ_ H Q=>Q none H
def Vc(t:TE):TO:=λσ H Q=>t σ H λx H1=>∃i,x=.int i∧Q (some i) H1
theorem intsAre_of{ns:List Int}:∀{us:List Value},Vals (ns.map V.int) us→IntsAre us ns:=by
 induction ns with
 | nil=>intro us r;rw[E2]at r;cases r;exact .nil
 | cons n ns ih=>
  intro us r
  rw[B8]at r
  cases r with
  | cons r1 r2=>
   obtain⟨t,e⟩:=r1
   subst e
   exact .cons n t (ih r2)
section
variable{X:Cx}{e:Expr}{te:TE}{lo hi:Option Expr}{tl th:TO}{pos p2:Pos}
theorem Ra:PO X none Er:=by
 intro pins s σ H Q I h
 rw[evalPart_none]
 exact wpAny_pure ⟨none,H,I,.none,h⟩
theorem Rb(h:PE X e te):PO X (some e) (Vc te):=by
 intro pins s σ H Q I hw
 rw[evalPart_some]
 refine cD (h pins s σ H _ I hw) λu s1 ⟨x,H1,I1,r1,q1⟩=>?_
 obtain⟨i,rfl,q⟩:=q1
 obtain⟨t,rfl⟩:=r1
 exact⟨some i,H1,I1,.int i t,q⟩
def QV(X:Cx)(r:V→Option Int→Option Int→Hp→VK→Prop):Prop:=
 ∀(pins:List (Addr×Obj))(s:Shared)(σ:St)(H:Hp)(x:V)(v vl vu:Value)(lo hi:Option Int)(sl:Addr)(Q:VK),Inv X pins σ H s→RelV x v→s.heap.IsSliceOf sl vl vu .none→IsPart vl lo→IsPart vu hi→r x lo hi H Q →
  ∃T id,typeLookup (.type T) "__getitem__" = pure (some (.builtin id))∧s.TypeIs v T∧wpAny (model X.prog X.w) X.A (getItem v (.ref sl)) (EP X pins σ Q) X.xe s
def WM(r:V→Option Int→Option Int→Hp→VK→Prop)(te:TE)(tl th:TO):TE:=λσ H Q=>te σ H λx H1=>tl σ H1 λl H2=>th σ H2 λu H3=>r x l u H3 Q
theorem Kq{r:V→Option Int→Option Int→Hp→VK→Prop}(hr:QV X r)(he:PE X e te)(hl:PO X lo tl)(hu:PO X hi th):PE X (.Subscript e (.Slice lo hi none p2) pos) (WM r te tl th):=by
 intro pins s σ H Q I h
 refine Subscript_ (cD (he pins s σ H _ I h) λv s1 ⟨x,H1,I1,r1,q1⟩=>?_)
 refine wpAny_Slice (cD (hl pins s1 σ H1 _ I1 q1) λvl s2 ⟨l,H2,I2,pl,q2⟩=>cD (hu pins s2 σ H2 _ I2 q2) λvu s3 ⟨u,H3,I3,pu,q3⟩=>?_)
 rw[evalPart_none]
 refine wpAny_pure ?_
 have I4:Inv X pins σ H3 {s3 with heap:=s3.heap.push {cls:=.type "slice", data:=.fields #[vl,vu,.none]}}:=I3.kept (t':=s3.toks) λb ob q=>Heap.get?_push_of_some _ q
 obtain⟨T,id,hT,ht,hg⟩:=hr pins {s3 with heap:=s3.heap.push {cls:=.type "slice", data:=.fields #[vl,vu,.none]}} σ H3 x v vl vu l u s3.heap.objs.size Q I4 r1 (Heap.IsSliceOf.new ..) pl pu q3
 show wpAny (model X.prog X.w) X.A (subscriptTail e (.Slice lo hi none p2) v (.ref s3.heap.objs.size)) (EP X pins σ Q) X.xe {s3 with heap:=s3.heap.push {cls:=.type "slice", data:=.fields #[vl,vu,.none]}}
 exact tail_any (ops:=[.ref s3.heap.objs.size,v]) ht hT hg (by with_unfolding_all rfl)
def Cg(xs:List V)(lo hi:Option Int):List V:=(xs.drop (HT.qL xs.length 0 lo)).take (HT.qL xs.length xs.length hi-HT.qL xs.length 0 lo)
theorem zA(xs:List V)(lo hi:Option Int):(Cg xs lo hi).length≤xs.length:=by
 unfold Cg
 rw[K8,P7]
 omega
end
end L2
namespace L2
open PySem PySem.Spec PyProof.Rows
def GQ(n:Nat)(i:Int):Option Nat:=if 0≤i then(if i<n then some i.toNat else none)else if -(n:Int)≤i then some (i+n).toNat else none
def Kr{α:Type}(xs:List α)(i:Int):Option α:=(GQ xs.length i).bind λj=>xs[j]?
theorem Rc{n:Nat}{i:Int}{j:Nat}(h:GQ n i=some j):seqIndex? i n=some j∧j<n∧-(n:Int)≤i∧i<n:=by
 unfold GQ at h
 by_cases h0:0≤i
 ·rw[if_pos h0]at h
  by_cases h1:i<n
  ·rw[if_pos h1]at h
   have e:i.toNat=j:=E4 h
   exact⟨by rw[seqIndex_of h0 h1,e],by omega,by omega,h1⟩
  ·rw[if_neg h1]at h;cases h
 ·rw[if_neg h0]at h
  by_cases h1:-(n:Int)≤i
  ·rw[if_pos h1]at h
   have e:(i+n).toNat=j:=E4 h
   exact⟨by rw[seqIndex_neg (by omega) h1,e],by omega,h1,by omega⟩
  ·rw[if_neg h1]at h;cases h
theorem wB{α:Type}{xs:List α}{i:Int}{v:α}(h:Kr xs i=some v):∃j,seqIndex? i xs.length=some j∧xs[j]?=some v∧j<xs.length∧-(xs.length:Int)≤i∧i<xs.length:=by
 unfold Kr at h
 cases e:GQ xs.length i with
 | none=>rw[e]at h;cases h
 | some j=>
  rw[e]at h
  obtain⟨h1,h2,h3,h4⟩:=Rc e
  exact⟨j,h1,h,h2,h3,h4⟩
def Es(b:Expr):Prop:=∀o i,subscripted b false o i=operate [o,i] (getItem o i)
def Qe(X:Cx)(r:R2):Prop:=
 ∀(value slice:Expr)(pins:List (Addr×Obj))(s:Shared)(σ:St)(H:Hp)(x y:V)(v u:Value)(Q:VK),Inv X pins σ H s→RelV x v→RelV y u→r x y H Q →
  subscripted slice false v u=operate [v,u] (getItem v u)→wpAny (model X.prog X.w) X.A (subscriptTail value slice v u) (EP X pins σ Q) X.xe s
def WN(X:Cx)(id:String)(r:V→List V→Hp→VK→Prop):Prop:=
 ∀(pins:List (Addr×Obj))(s:Shared)(σ:St)(H:Hp)(x:V)(xs:List V)(v:Value)(us:List Value)(Q:VK),Inv X pins σ H s→RelV x v→Vals xs us→r x xs H Q →
  wpAny (model X.prog X.w) X.A (call (.builtin id) (v::us)) (EP X pins σ Q) X.xe s
section
variable{X:Cx}{a b:Expr}{ta tb:TE}{pos:Pos}
theorem Qe.or{r r':R2}(h:Qe X r)(h':Qe X r'):Qe X (λx y H Q=>r x y H Q∨r' x y H Q):=by
 intro value slice pins s σ H x y v u Q I rx ry q hs
 rcases q with q | q
 ·exact h value slice pins s σ H x y v u Q I rx ry q hs
 ·exact h' value slice pins s σ H x y v u Q I rx ry q hs
theorem GR{r:R2}(hr:Qe X r)(ha:PE X a ta)(hb:PE X b tb)(hs:Es b):PE X (.Subscript a b pos) (Ke r ta tb):=by
 intro pins s σ H Q I h
 exact Subscript_ (FN ha hb I h λv u s2 x y H2 I2 rx ry q=>hr a b pins s2 σ H2 x y v u Q I2 rx ry q (hs _ _))
def GX(K:aA):R2:=λx y H Q=>∃p xs i v,x=.ref p∧y=.int i∧eN K H p xs∧Kr xs i=some v∧Q v H
def HD(K:aA):R2:=λx y H Q=>∃p xs i v,x=.ref p∧y=.int i∧lC K H p xs∧Kr xs i=some v∧Q v H
def HF:R2:=λx y H Q=>∃z i c,x=.str z∧y=.int i∧z.length≤sizeLine∧Kr z.cps.toList i=some c∧Q (.str ⟨#[c]⟩) H
theorem Rf:Qe X (GX X.K):=by
 intro value slice pins s σ H x y v u Q I rx ry h hs
 obtain⟨p,xs,i,z,rfl,rfl,hq,he,q⟩:=h
 cases rx
 obtain⟨t,rfl⟩:=ry
 obtain⟨its,r,pl,hz⟩:=I.list hq
 obtain⟨j,h1,h2,h3,h4,h5⟩:=wB he
 obtain⟨w,ew,QW⟩:=r.get h2
 have hl:=r.length
 have hn:=vZ
 have fin:EP X pins σ Q w s:=⟨z,H,I,QW,q⟩
 by_cases h0:0≤i
 ·have hj:i.toNat=j:=by
   rw[seqIndex_of h0 h5]at h1
   exact E4 h1
  exact item_listR pl.isList h0 (by omega) (by rw[hj];simpa using ew) fin hs
 ·have hj:(i+(its.toArray.size:Int)).toNat=j:=by
   rw[seqIndex_neg (by omega) h4]at h1
   rw[B5,←hl]
   exact E4 h1
  exact subscriptTail_builtinR (x:=w) pl.isList.typeIs slot_list_getitem.lookup
   (wpAny_getItem_list_neg (Q:=λr s'=>r=w∧EP X pins σ Q r s') pl.isList (by omega) (by rw[B5]<;>omega) (by omega) (by rw[hj];simpa using ew) ⟨rfl,fin⟩) hs
theorem Xg:Qe X (HD X.K):=by
 intro value slice pins s σ H x y v u Q I rx ry h hs
 obtain⟨p,xs,i,z,rfl,rfl,hq,he,q⟩:=h
 cases rx
 obtain⟨t,rfl⟩:=ry
 obtain⟨its,r,pl,hz⟩:=I.tuple hq
 obtain⟨j,h1,h2,h3,h4,h5⟩:=wB he
 obtain⟨w,ew,QW⟩:=r.get h2
 have hl:=r.length
 have hn:=vZ
 have fin:EP X pins σ Q w s:=⟨z,H,I,QW,q⟩
 exact subscriptTail_builtinR (x:=w) pl.typeIs slot_tuple_getitem.lookup
  (getItem_tuple (j:=j) (Q:=λr s'=>r=w∧EP X pins σ Q r s') pl (by omega) (by omega) (by rw[B5,←hl];exact h1) (by simpa using ew) ⟨rfl,fin⟩) hs
theorem Xh:Qe X HF:=by
 intro value slice pins s σ H x y v u Q I rx ry h hs
 obtain⟨z,i,c,rfl,rfl,hz,he,q⟩:=h
 obtain⟨t,rfl⟩:=rx
 obtain⟨t',rfl⟩:=ry
 obtain⟨j,h1,h2,h3,h4,h5⟩:=wB he
 have hl:z.cps.toList.length=z.length:=by simp[Str.length]
 rw[hl]at h1 h4 h5
 have hn:=vZ
 exact tail_any (typeIs_str s z t) slot_str_getitem.lookup (getItem_str (c:=c) (by
  have e1:decide (i < -(2 ^ 63:Int))=false:=decide_eq_false (by omega)
  have e2:decide (i≥2 ^ 63)=false:=decide_eq_false (by omega)
  rw[e1,e2,X1]) (by rw[h1];simpa using h2) ⟨.str ⟨#[c]⟩,H,I.tok _,⟨_,rfl⟩,q⟩) hs
def QX(K:aA):R2:=λx y H Q=>GX K x y H Q∨HD K x y H Q∨HF x y H Q
theorem Xi:Qe X (QX X.K):=Rf.or (Xg.or Xh)
theorem wC(lo hi:Option Int)(n:Nat):(sliceBounds lo hi none n).1=((HT.qL n 0 lo:Nat):Int)∧(sliceBounds lo hi none n).2.1=((HT.qL n n hi:Nat):Int)∧(sliceBounds lo hi none n).2.2=1:=by
 refine⟨?_,?_,rfl⟩
 ·cases lo with
  | none=>simp[sliceBounds,HT.qL]
  | some i=>
   simp only[sliceBounds,HT.qL,U9,show (1:Int) > 0 by decide,if_true]
   by_cases h:i<0
   ·simp only[h,if_true]<;>omega
   ·simp only[h,if_false]<;>omega
 ·cases hi with
  | none=>simp[sliceBounds,HT.qL]
  | some i=>
   simp only[sliceBounds,HT.qL,U9,show (1:Int) > 0 by decide,if_true]
   by_cases h:i<0
   ·simp only[h,if_true]<;>omega
   ·simp only[h,if_false]<;>omega
theorem tZ(its:List Value)(lo hi:Option Int):slicePick its.toArray lo hi none=((its.drop (HT.qL its.length 0 lo)).take (HT.qL its.length its.length hi-HT.qL its.length 0 lo)).toArray:=by
 obtain⟨h1,h2,h3⟩:=wC lo hi its.toArray.size
 unfold slicePick
 rw[h1,h2,h3]
 simp only[sliceRange_one,pick_run,B5]<;>rfl
def Xj(K:aA):V→Option Int→Option Int→Hp→VK→Prop:=λx lo hi H Q=>∃a xs,x=.ref a∧eN K H a xs∧∀p,H p=none→Q (.ref p) (upd H p (.lst (Cg xs lo hi)))
theorem Rg:QV X (Xj X.K):=by
 intro pins s σ H x v vl vu lo hi sl Q I rx hs pl pu h
 obtain⟨a,xs,rfl,hx,q⟩:=h
 cases rx
 obtain⟨its,r,ht,hz⟩:=I.list hx
 have hlen:=r.length
 refine⟨"list", _,slot_list_getitem.lookup,ht.isList.typeIs,?_⟩
 refine wpAny_getItem_list_slice ht.isList hs pl pu .none (by simp) ?_ (by rw[B5]<;>omega)
 rw[tZ,←hlen]
 refine⟨.ref s.heap.objs.size,_,I.laid (t':=s.toks) (o:=.lst (Cg xs lo hi)) (λb ob q=>Heap.get?_push_of_some _ q) (A9 _) ?_,rfl,q _ (I.hok.fresh (A9 _))⟩
 exact⟨F1 (zA xs lo hi) hz,_,0,(r.drop (HT.qL xs.length 0 lo)).take (HT.qL xs.length xs.length hi-HT.qL xs.length 0 lo),Heap.get?_push_size _ rfl⟩
def jA:V→Bool
 | .non=>true
 | .bl _=>true
 | .int _=>true
 | .str _=>true
 | _=>false
def Qf:V→V→Bool
 | .non,.non=>true
 | .bl a,.bl b=>a==b
 | .bl a,.int b=>(if a then 1 else 0)==b
 | .int a,.bl b=>a==(if b then 1 else 0)
 | .int a,.int b=>a==b
 | .str a,.str b=>a==b
 | _,_=>false
theorem Xk{A:Around}{s:Shared}{y x:V}{u v:Value}(ry:RelV y u)(rx:RelV x v)(fy:jA y=true)(fx:jA x=true):SeqAt.EqAt A s u v (Qf y x):=by
 cases y with
 | non=>
  cases ry
  cases x with
  | non=>cases rx;exact SeqAt.EqAt.same _
  | bl b=>cases rx;exact SeqAt.EqAt.none_bool b
  | int b=>obtain⟨t,rfl⟩:=rx;exact SeqAt.EqAt.none_int b t
  | str b=>obtain⟨t,rfl⟩:=rx;exact SeqAt.EqAt.none_str b t
  | _=>exact absurd (show false=true from fx) C7
 | bl a=>
  cases ry
  cases x with
  | non=>cases rx;exact SeqAt.EqAt.bool_none a
  | bl b=>cases rx;exact SeqAt.EqAt.bool_bool a b
  | int b=>obtain⟨t,rfl⟩:=rx;exact SeqAt.EqAt.bool_int a b t
  | str b=>obtain⟨t,rfl⟩:=rx;exact SeqAt.EqAt.bool_str a b t
  | _=>exact absurd (show false=true from fx) C7
 | int a=>
  obtain⟨t',rfl⟩:=ry
  cases x with
  | non=>cases rx;exact SeqAt.EqAt.int_none a t'
  | bl b=>cases rx;exact SeqAt.EqAt.int_bool a t' b
  | int b=>obtain⟨t,rfl⟩:=rx;exact SeqAt.EqAt.int_int a t' b t
  | str b=>obtain⟨t,rfl⟩:=rx;exact SeqAt.EqAt.int_str a t' b t
  | _=>exact absurd (show false=true from fx) C7
 | str a=>
  obtain⟨t',rfl⟩:=ry
  cases x with
  | non=>cases rx;exact SeqAt.EqAt.str_none a t'
  | bl b=>cases rx;exact SeqAt.EqAt.str_bool a t' b
  | int b=>obtain⟨t,rfl⟩:=rx;exact SeqAt.EqAt.str_int a t' b t
  | str b=>obtain⟨t,rfl⟩:=rx;exact SeqAt.EqAt.str_str a t' b t
  | _=>exact absurd (show false=true from fx) C7
 | _=>exact absurd (show false=true from fy) C7
def Rh(x:V)(u:Value):Bool:=match u with
 | .none=>Qf .non x
 | .bool b=>Qf (.bl b) x
 | .int i _=>Qf (.int i) x
 | .str z _=>Qf (.str z) x
 | _=>false
theorem Ks{x y:V}{u:Value}(r:RelV y u)(f:jA y=true):Rh x u=Qf y x:=by
 cases y with
 | non=>cases r;rfl
 | bl b=>cases r;rfl
 | int i=>obtain⟨t,rfl⟩:=r;rfl
 | str z=>obtain⟨t,rfl⟩:=r;rfl
 | _=>exact absurd (show false=true from f) C7
theorem wD{x:V}:∀{xs:List V} {us:List Value},Vals xs us→xs.all jA=true→us.any (Rh x)=xs.any λy=>Qf y x
 | _,_,.nil,_=>rfl
 | y::xs,u::us,.cons r t,f=>by
  rw[X2,D6]at f
  rw[N5,N5,Ks r f.1,wD t f.2]
theorem qM{A:Around}{s:Shared}{x:V}{v:Value}(rx:RelV x v)(fx:jA x=true):∀{xs:List V} {us:List Value},Vals xs us→xs.all jA=true→∀u∈us,SeqAt.EqAt A s u v (Rh x u)
 | _,_,.nil,_=>λu hu=>by cases hu
 | y::xs,u::us,.cons r t,f=>λu' hu=>by
  rw[X2,D6]at f
  rcases B6.mp hu with rfl | hu
  ·rw[Ks r f.1];exact Xk r rx f.1 fx
  ·exact qM rx fx t f.2 u' hu
def inV(x:V)(xs:List V):Bool:=xs.any λy=>Qf y x
def QZ(K:aA)(neg:Bool):R2:=λx y H Q=>∃p xs,y=.ref p∧(eN K H p xs∨lC K H p xs)∧jA x=true∧xs.all jA=true∧Q (.bl (if neg then !inV x xs else inV x xs)) H
theorem wF:nZ X (compareOp .NotIn) (QZ X.K true):=by
 intro pins s σ H x y v u Q I rx ry h
 obtain⟨p,xs,rfl,hq,fx,fs,q⟩:=h
 cases ry
 rcases hq with hq | hq
 ·obtain⟨its,r,pl,hz⟩:=I.list hq
  refine SeqAt.notIn_listAt (Rh x) pl.isList (λw hw=>qM rx fx r fs w (by simpa using hw)) ⟨.bl _,H,I,rfl,?_⟩
  rw[show its.toArray.any (Rh x)=its.any (Rh x) by simp,wD r fs]
  exact q
 ·obtain⟨its,r,pl,hz⟩:=I.tuple hq
  refine SeqAt.notIn_tupleAt (Rh x) pl (λw hw=>qM rx fx r fs w (by simpa using hw)) ⟨.bl _,H,I,rfl,?_⟩
  rw[show its.toArray.any (Rh x)=its.any (Rh x) by simp,wD r fs]
  exact q
theorem wG:dY X (.builtin "len") (λxs H Q=>∃p ys,xs=[.ref p]∧(eN X.K H p ys∨lC X.K H p ys)∧Q (.int ys.length) H):=by
 intro pins s σ H xs us Q I r h
 obtain⟨p,ys,rfl,hq,q⟩:=h
 obtain⟨u,rfl,rx⟩:=vals1 r
 cases rx
 have hn:=vZ
 rcases hq with hq | hq
 ·obtain⟨its,r',pl,hz⟩:=I.list hq
  have hlen:=r'.length
  exact Calls.call_len_list pl.isList (by simp only[B5]<;>omega) ⟨.int ys.length,H,I.tok _,⟨s.toks+1,by rw[B5,hlen]⟩,q⟩
 ·obtain⟨its,r',pl,hz⟩:=I.tuple hq
  have hlen:=r'.length
  exact len_tuple pl (by simp only[B5]<;>omega) ⟨.int ys.length,H,I.tok _,⟨s.toks+1,by rw[B5,hlen]⟩,q⟩
theorem uA:dY X (.type "tuple") (λxs H Q=>∃p ys,xs=[.ref p]∧((eN X.K H p ys∧∀l,H l=none→Q (.ref l) (upd H l (.tup ys)))∨(lC X.K H p ys∧Q (.ref p) H))):=by
 intro pins s σ H xs us Q I r h
 obtain⟨p,ys,rfl,h⟩:=h
 obtain⟨u,rfl,rx⟩:=vals1 r
 cases rx
 rcases h with ⟨hq,q⟩ | ⟨hq,q⟩
 ·obtain⟨its,r',pl,hz⟩:=I.list hq
  have hlen:=r'.length
  refine call_tuple_list pl.isList (λh' kp=>?_) (by simp only[B5]<;>omega)
  have I1:Inv X pins σ H {s with heap:=h'}:=I.kept (t':=s.toks) kp
  have I2:Inv X pins σ (upd H h'.objs.size (.tup ys)) {s with heap:=h'.push {cls:=.type "tuple", data:=.seq its.toArray}}:=
   I1.laid (t':=s.toks) (λb o e=>Heap.get?_push_of_some _ e) (A9 _) (show cG X.prog X.w _ _ _ (.tup ys)from⟨hz,its,r',IsTup.new _ _⟩)
  exact⟨.ref h'.objs.size,_,I2,rfl,q _ (I1.hok.fresh (A9 _))⟩
 ·obtain⟨its,r',pl,hz⟩:=I.tuple hq
  exact call_tuple_same pl ⟨.ref p,H,I,rfl,q⟩
def RB(K:aA)(T:String)(x:V)(H:Hp):Prop:=match x with
 | .str _=>T = "str"
 | .int _=>T = "int"
 | .ref p=>(T = "list" ∧ ∃xs,eN K H p xs)∨(T = "tuple" ∧ ∃o,K.lookup p=some o∧o.cls=.type "tuple" ∧ o.dict=none) ∨
   (T = "dict" ∧ ((∃kvs,H p=some (.dK kvs))∨∃kvs,H p=some (.dT kvs)))∨(T = "set" ∧ ∃S n,H p=some (.set S n))
 | _=>False
theorem Ku{pins:List (Addr×Obj)}{σ:St}{H:Hp}{s:Shared}{T:String}{x:V}{v:Value}(I:Inv X pins σ H s)(r:RelV x v)(ty:RB X.K T x H) :
  s.TypeIs v T∧∀a,v=.ref a→∃ob,s.heap.get? a=some ob∧ob.dict=none:=by
 cases x with
 | str z=>
  obtain⟨t,rfl⟩:=r
  cases(show T = "str" from ty)
  exact⟨typeIs_str s z t,λ_ e=>nomatch e⟩
 | int i=>
  obtain⟨t,rfl⟩:=r
  cases(show T = "int" from ty)
  exact⟨typeIs_int s i t,λ_ e=>nomatch e⟩
 | ref p=>
  cases r
  rcases ty with ⟨rfl,xs,hq⟩ | ⟨rfl,o,hk,hc,hd⟩ | ⟨rfl,hk⟩ | ⟨rfl,S,n,hk⟩
  ·obtain⟨its,_,pl,_⟩:=I.list hq
   refine⟨pl.isList.typeIs,λa e=>?_⟩
   cases e
   obtain⟨o,n,e,c,hd,_⟩:=pl
   exact⟨o,e,hd⟩
  ·refine⟨⟨o,I.CK p o hk,hc⟩,λa e=>?_⟩
   cases e
   exact⟨o,I.CK _ o hk,hd⟩
  ·have z:∃o,s.heap.get? p=some o∧o.ExactDict:=by
    rcases hk with ⟨kvs,hk⟩ | ⟨kvs,hk⟩
    ·obtain⟨_,_,_,_,o,_,_,e,ex,_⟩:=I.hok p _ hk
     exact⟨o,e,ex⟩
    ·obtain⟨_,_,_,_,o,_,_,e,ex,_⟩:=I.hok p _ hk
     exact⟨o,e,ex⟩
   obtain⟨o,e,ex⟩:=z
   refine⟨⟨o,e,ex.1⟩,λa e2=>?_⟩
   cases e2
   exact⟨o,e,ex.2.1⟩
  ·obtain⟨o,_,_,_,e,ex,_⟩:=I.hok p _ hk
   refine⟨⟨o,e,ex.1⟩,λa e2=>?_⟩
   cases e2
   exact⟨o,e,ex.2.1⟩
 | _=>exact False.elim ty
def Hv(K:aA)(T:String)(r:V→List V→Hp→VK→Prop)(to:TE):TE:=λσ H Q=>to σ H λx H1=>RB K T x H1∧r x [] H1 Q
def MN(K:aA)(T:String)(r:V→List V→Hp→VK→Prop)(to:TE)(t:TA):TE:=λσ H Q=>to σ H λx H1=>RB K T x H1∧t σ H1 λxs H2=>r x xs H2 Q
variable{o e:Expr}{es:List Expr}{to:TE}{t:TA}{name:Str}{apos cpos:Pos}{T id:String}{r:V→List V→Hp→VK→Prop}
theorem Xl(pa:PlainAttrs T)(slot:Slot T name id)(hty:typeOf (.builtin id)=pure (.type "method_descriptor")) (hm:WN X id r) (ho:PE X o to)
  (hbase:attributeBase o name X.env (eval o X.env)=eval o X.env:=by rfl) (hline:(apos.endLine==cpos.line)=true:=by rfl):PE X (.Call (.Attribute o name apos) [] [] cpos) (Hv X.K T r to):=by
 intro pins s σ H Q I h
 refine wpAny_Call_method0_late hbase hline (cD (ho pins s σ H _ I h) λv s1 ⟨x,H1,I1,r1,ty,q1⟩=>?_)
 obtain⟨h1,h2⟩:=Ku I1 r1 ty
 exact⟨T,id,pa,slot,hty,h1,h2,Calls.callWith_builtin rfl (PySem.evalArgs_none (hm pins s1 σ H1 x [] v [] Q I1 r1 .nil q1))⟩
theorem zB(pa:PlainAttrs T)(slot:Slot T name id)(hty:typeOf (.builtin id)=pure (.type "method_descriptor")) (hm:WN X id r) (ho:PE X o to) (ha:PA X (e::es) t)
  (hbase:attributeBase o name X.env (eval o X.env)=eval o X.env:=by rfl)
  (hfew:((backTo cpos (starEach (e::es) X.env)).all (λx=>!x.1)&&(backToKw cpos (keywordEach [] X.env)).all (λx=>x.1.isSome)
   && decide ((e::es).length+([]:List Keyword).length+(if([]:List Keyword).isEmpty then 0 else 1)<30))=true:=by rfl)
  (hline:(apos.endLine==cpos.line)=true:=by rfl) (hs:starEach (e::es) X.env=(false,eval e X.env)::starEach es X.env:=by rfl) (hplain:(backTo cpos (starEach es X.env)).any (·.1)=false:=by rfl) :
  PE X (.Call (.Attribute o name apos) (e::es) [] cpos) (MN X.K T r to t):=by
 intro pins s σ H Q I h
 refine wpAny_Call_method_late hbase hfew hline rfl (cD (ho pins s σ H _ I h) λv s1 ⟨x,H1,I1,r1,ty,q1⟩=>?_)
 obtain⟨h1,h2⟩:=Ku I1 r1 ty
 refine⟨T,id,pa,slot,hty,h1,h2,?_⟩
 have hA:=ha cpos pins s1 σ H1 _ I1 q1
 rw[hs]at hA ⊢
 refine Calls.callWith_builtin (by show (false||(backTo cpos (starEach es X.env)).any (·.1))=false;rw[hplain]<;>rfl) (Calls.evalArgs_plain ?_)
 exact cD hA λus s2 ⟨vs,H2,I2,r2,q2⟩=>hm pins s2 σ H2 x vs v us Q I2 r1 r2 q2
end
end L2
namespace L2
open PySem PySem.Spec PyProof.Rows
def WQ(X:Cx)(id:String)(r:V→List V→Hp→VK→Prop):Prop:=
 ∀(pins:List (Addr×Obj))(s:Shared)(σ:St)(H:Hp)(x:V)(xs:List V)(v:Value)(us:List Value)(Q:VK),Inv X pins σ H s→RelV x v→Vals xs us→r x xs H Q →
  wpAny (model X.prog X.w) X.A (call (.builtin id) (v::us)) (EP X pins σ Q) X.xe s
theorem Vals.one:∀{x:V} {us:List Value},Vals [x] us→∃u,us=[u]∧RelV x u
 | _,_,.cons r .nil=>⟨_,rfl,r⟩
theorem Vals.zero:∀{us:List Value},Vals [] us→us=[]
 | _,.nil=>rfl
theorem Vals.dropLast{xs:List V}{us:List Value}(h:Vals xs us):Vals xs.dropLast us.dropLast:=by
 induction h with
 | nil=>exact .nil
 | cons r t ih=>
  cases t with
  | nil=>exact .nil
  | cons q t'=>exact .cons r ih
theorem Ci{α:Type}(l:List α):l.eraseIdx (l.length-1)=l.dropLast:=by
 induction l with
 | nil=>rfl
 | cons a r ih=>
  cases r with
  | nil=>rfl
  | cons b r=>
   have e:(a::b::r).length-1=((b::r).length-1)+1:=by
    have h1:(a::b::r).length=r.length+2:=rfl
    have h2:(b::r).length=r.length+1:=rfl
    omega
   rw[e,Q6,ih]
   all_goals rfl
section
variable{X:Cx}{pins:List (Addr×Obj)}{σ:St}{H:Hp}{s:Shared}{l b:Addr}{xs ys zs:List V}
theorem Inv.HH{its its':List Value}{n:Nat}{f:Array Value→Array Value}{t':Nat}(I:Inv X pins σ H s)(hH:H l=some (.lst xs))
  (e:s.heap.get? l=some {cls:=.type "list", data:=.seq its.toArray n}) (hf:f its.toArray=its'.toArray) (hv:Vals ys its') (hz:ys.length≤sizeLine) :
  Inv X pins σ (upd H l (.lst ys)) {s with heap:=s.heap.update l (Obj.mapSeq f),toks:=t'}:=by
 have q:=PySem.IsL.update e f
 rw[hf]at q
 refine I.write (x:=l) (e:=l) (by rw[hH];exact trivial) (.inl rfl) (λb' u hb hu=>(Heap.get?_update_other s.heap (Obj.mapSeq f) (Ne.symm hb)).trans hu) ⟨_,q⟩ ?_
 exact⟨hz,its',_,hv,q⟩
theorem Inv.HJ{its:List Value}{t':Nat}(I:Inv X pins σ H s)(hv:Vals ys its)(hz:ys.length≤sizeLine) :
  Inv X pins σ (upd H s.heap.objs.size (.lst ys)) {s with heap:=s.heap.push {cls:=.type "list", data:=.seq its.toArray},toks:=t'}:=
 I.laid (λ_ _ q=>Heap.get?_push_of_some _ q) (A9 _) ⟨hz,its,0,hv,Heap.get?_push_size _ rfl⟩
theorem Inv.fresh(I:Inv X pins σ H s):H s.heap.objs.size=none:=I.hok.fresh (A9 _)
theorem Inv.HN(I:Inv X pins σ H s)(hH:H l=some (.lst xs)):xs.length≤sizeLine∧∃(its:List Value)(n:Nat),Vals xs its∧xs.length=its.length∧s.heap.get? l=some {cls:=.type "list", data:=.seq its.toArray n}:=by
 obtain⟨z,its,n,r,e⟩:=I.hok l _ hH
 exact⟨z,its,n,r,r.length,e⟩
end
section
variable{X:Cx}
def pR:V→List V→Hp→VK→Prop:=λx vs H Q=>∃l xs y,x=.ref l∧vs=[y]∧H l=some (.lst xs)∧xs.length<sizeLine∧Q .non (upd H l (.lst (xs++[y])))
theorem eO:WQ X "list.append" pR:=by
 intro pins s σ H x vs v us Q I rx rv h
 obtain⟨l,xs,y,rfl,rfl,hH,hz,q⟩:=h
 cases rx
 obtain⟨u,rfl,ru⟩:=rv.one
 obtain⟨z,its,n,r,hl,e⟩:=I.HN hH
 refine call_meets F.slot_list_append ⟨_,e,rfl⟩ F.entry_list_append (F.args_list_append_2 _ _) (PySem.list_append l its.toArray n u (by rw[B5];omega)) ⟨e,?_⟩
 refine⟨.non,_,I.HH (its':=its++[u]) hH e (by simp) (r.append (.cons ru .nil)) ?_,rfl,q⟩
 rw[D1,K3]
 omega
def Hw:V→List V→Hp→VK→Prop:=λx vs H Q=>∃l xs y,x=.ref l∧vs=[]∧H l=some (.lst xs)∧xs[xs.length-1]?=some y∧Q y (upd H l (.lst xs.dropLast))
theorem Xm:WQ X "list.pop" Hw:=by
 intro pins s σ H x vs v us Q I rx rv h
 obtain⟨l,xs,y,rfl,rfl,hH,hy,q⟩:=h
 cases rx
 have hus:=rv.zero
 subst hus
 obtain⟨z,its,n,r,hl,e⟩:=I.HN hH
 obtain⟨u,hu,ru⟩:=r.get hy
 have hy':its.toArray[its.toArray.size-1]?=some u:=by
  show its.toArray[its.length-1]?=some u
  rw[←F2,←hl]
  exact hu
 refine call_meets F.slot_list_pop ⟨_,e,rfl⟩ F.entry_list_pop (F.args_list_pop_1 _) (MeetsSeq.list_pop_last l its.toArray n u hy' (by rw[B5];omega)) ⟨e,?_⟩
 refine⟨y,_,I.HH (its':=its.dropLast) hH e ?_ r.dropLast ?_,ru,q⟩
 ·show its.toArray.eraseIdxIfInBounds (its.toArray.size-1)=its.dropLast.toArray
  rw[B5,List.eraseIdxIfInBounds_toArray,Ci]
 ·rw[List.length_dropLast]
  omega
end
section
variable{prog:Program}{w:World}{A:Around}{E:Value→Shared→Prop}{s:Shared}
end
section
variable{X:Cx}
end
end L2
namespace L2
open PySem PySem.Spec PyProof.Rows
section
variable{κ:Type} [DecidableEq κ]
def lD(kvs:List (κ×V))(k:κ):Option V:=(kvs.find? λkv=>decide (kv.1=k)).map (·.2)
def putK(kvs:List (κ×V))(k:κ)(v:V):List (κ×V):=
 if(kvs.any λkv=>decide (kv.1=k))=true then kvs.map (λkv=>if kv.1=k then(kv.1,v)else kv)else kvs++[(k,v)]
def WR(kvs:List (κ×V))(k:κ):List (κ×V):=kvs.filter λkv=>decide (kv.1≠k)
theorem qN{p:κ×V}{r:List (κ×V)}{k:κ}(e:p.1=k):lD (p::r) k=some p.2:=by simp[lD,K4,e]
theorem qO{p:κ×V}{r:List (κ×V)}{k:κ}(e:¬p.1=k):lD (p::r) k=lD r k:=by simp[lD,K4,e]
theorem qP(k:κ):∀kvs:List (κ×V),(kvs.any λkv=>decide (kv.1=k))=(lD kvs k).isSome
 | []=>rfl
 | p::r=>by
  rw[N5]
  by_cases e:p.1=k
  ·simp only[qN e,decide_eq_true e,Bool.true_or,Option.isSome_some]
  ·rw[qO e,decide_eq_false e,Bool.false_or];exact qP k r
theorem jB(kvs:List (κ×V))(k:κ)(v:V):(putK kvs k v).length≤kvs.length+1:=by
 unfold putK
 split
 ·rw[B0];omega
 ·rw[D1,D7,M6];omega
theorem Hh.fZ{o:Option V}{u:Option Value}(r:Hh o u):o.isSome=u.isSome:=by
 cases o with
 | none=>cases u with
  | none=>rfl
  | some _=>exact(show False from r).elim
 | some _=>cases u with
  | none=>exact(show False from r).elim
  | some _=>rfl
theorem KV.val{kvs:List (κ×V)}{vs:List (κ×Value)}(r:KV kvs vs)(k:κ):Hh (lD kvs k) (valueAt vs k):=by
 unfold KV at r
 induction r with
 | nil=>exact True.intro
 | @cons p q ps qs h t ih=>
  obtain⟨h1,h2⟩:=h
  by_cases e:p.1=k
  ·have e':q.1=k:=h1.symm.trans e
   have b:valueAt (q::qs) k=some q.2:=by simp[valueAt,K4,e']
   rw[qN e,b];exact h2
  ·have e':¬q.1=k:=λz=>e (h1.trans z)
   have b:valueAt (q::qs) k=valueAt qs k:=by simp[valueAt,K4,e']
   rw[qO e,b];exact ih
theorem KV.any{kvs:List (κ×V)}{vs:List (κ×Value)}(r:KV kvs vs)(k:κ):(kvs.any λkv=>decide (kv.1=k))=vs.any λkv=>decide (kv.1=k):=by
 unfold KV at r
 induction r with
 | nil=>rfl
 | cons h t ih=>rw[N5,N5,ih,h.1]
theorem KV.repl{kvs:List (κ×V)}{vs:List (κ×Value)}(r:KV kvs vs)(k:κ){y:V}{u:Value}(ry:RelV y u) :
  KV (kvs.map λkv=>if kv.1=k then(kv.1,y)else kv) (vs.map λkv=>if kv.1=k then(kv.1,u)else kv):=by
 unfold KV at r ⊢
 induction r with
 | nil=>exact .nil
 | @cons p q ps qs h t ih=>
  rw[B8,B8]
  refine .cons ?_ ih
  obtain⟨h1,h2⟩:=h
  by_cases e:p.1=k
  ·rw[if_pos e,if_pos (h1.symm.trans e)];exact⟨h1,ry⟩
  ·rw[if_neg e,if_neg (λz=>e (h1.trans z))];exact⟨h1,h2⟩
theorem KV.put{kvs:List (κ×V)}{vs:List (κ×Value)}(r:KV kvs vs)(k:κ){y:V}{u:Value}(ry:RelV y u):KV (putK kvs k y) (stored vs k u):=by
 unfold putK stored
 rw[r.any k]
 by_cases e:(vs.any λkv=>decide (kv.1=k))=true
 ·rw[if_pos e,if_pos e];exact r.repl k ry
 ·rw[if_neg e,if_neg e];exact Paired.snoc r ⟨rfl,ry⟩
theorem KV.keys{kvs:List (κ×V)}{vs:List (κ×Value)}(r:KV kvs vs):kvs.map (·.1)=vs.map (·.1):=by
 unfold KV at r
 induction r with
 | nil=>rfl
 | cons h t ih=>rw[B8,B8,ih,h.1]
theorem KV.length{kvs:List (κ×V)}{vs:List (κ×Value)}(r:KV kvs vs):kvs.length=vs.length:=Paired.length r
end
theorem zF{P:Program}{w:World}{k:Key}{u:Value}(r:RelV (kV k) u):(aX P w).is k u=true:=by
 cases k with
 | inl i=>obtain⟨t,e⟩:=(show ∃t,u=Value.int i t from r);subst e;exact yP P w i t
 | inr x=>obtain⟨t,e⟩:=(show ∃t,u=Value.str x t from r);subst e;exact yQ P w x t
theorem uN{P:Program}{w:World}:∀{ks:List Key} {us:List Value},Vals (ks.map kV) us→ItemsAre (aX P w) ks us
 | [],_,r=>by rw[E2]at r;cases r;exact .nil
 | k::ks,_,r=>by
  rw[B8]at r
  cases r with
  | cons h t=>exact .cons (zF h) (uN t)
abbrev KT(H:Hp):List (List Key×V)→List (List Key×Addr×Value)→Prop:=Paired λp q=>p.1=q.1∧H q.2.1=some (.tup (p.1.map kV))∧RelV p.2 q.2.2
theorem KT.val{H:Hp}{kvs:List (List Key×V)}{xs:List (List Key×Addr×Value)}(r:KT H kvs xs)(k:List Key):Hh (lD kvs k) ((atKey xs k).map (·.2)):=by
 induction r with
 | nil=>exact True.intro
 | @cons p q ps qs h t ih=>
  obtain⟨h1,_,h2⟩:=h
  by_cases e:p.1=k
  ·have e':q.1=k:=h1.symm.trans e
   have b:atKey (q::qs) k=some q.2:=by simp[atKey,K4,e']
   rw[qN e,b];exact h2
  ·have e':¬q.1=k:=λz=>e (h1.trans z)
   have b:atKey (q::qs) k=atKey qs k:=by simp[atKey,K4,e']
   rw[qO e,b];exact ih
theorem KT.repl{H:Hp}{kvs:List (List Key×V)}{xs:List (List Key×Addr×Value)}(r:KT H kvs xs)(k:List Key){y:V}{u:Value}(ry:RelV y u) :
  KT H (kvs.map λkv=>if kv.1=k then(kv.1,y)else kv) (xs.map (putAt k u)):=by
 induction r with
 | nil=>exact .nil
 | @cons p q ps qs h t ih=>
  rw[B8,B8]
  refine .cons ?_ ih
  obtain⟨h1,h2,h3⟩:=h
  unfold putAt
  by_cases e:p.1=k
  ·rw[if_pos e,if_pos (h1.symm.trans e)];exact⟨h1,h2,ry⟩
  ·rw[if_neg e,if_neg (λz=>e (h1.trans z))];exact⟨h1,h2,h3⟩
theorem KT.put{H:Hp}{kvs:List (List Key×V)}{xs:List (List Key×Addr×Value)}(r:KT H kvs xs)(k:List Key){b:Addr}{y:V}{u:Value}(hb:H b=some (.tup (k.map kV)))(ry:RelV y u) :
  KT H (putK kvs k y) (storedH xs k b u):=by
 have e:(kvs.any λkv=>decide (kv.1=k))=(atKey xs k).isSome:=by
  rw[qP,(r.val k).fZ,P1]
 unfold putK storedH
 rw[e]
 by_cases q:(atKey xs k).isSome=true
 ·rw[if_pos q,if_pos q];exact r.repl k ry
 ·rw[if_neg q,if_neg q];exact Paired.snoc r ⟨rfl,hb,ry⟩
theorem KT.keeps{H H':Hp}{kvs:List (List Key×V)}{xs:List (List Key×Addr×Value)}(r:KT H kvs xs)(ht:∀b ys,H b=some (.tup ys)→H' b=some (.tup ys)):KT H' kvs xs:=
 Paired.Wh r λ_ _ z=>⟨z.1,ht _ _ z.2.1,z.2.2⟩
section
variable{P:Program}{w:World}{H:Hp}{h:Heap}{a:Addr}
theorem Vd{u:HO}(ok:lV P w H h)(e:Rd H a u):cG P w H h a u:=e.ok ok
theorem zG{kvs:List (Key×V)}(ok:lV P w H h)(e:Rd H a (.dK kvs)):kvs.length≤sizeLine∧(a==sysModules)=false∧∃vs,KV kvs vs∧h.DictOf (aX P w) a vs:=
 show cG P w H h a (.dK kvs)from Vd ok e
theorem Ve{kvs:List (Key×V)}(ok:lV P w H h)(e:H a=some (.dK kvs)):kvs.length≤sizeLine∧(a==sysModules)=false∧∃vs,KV kvs vs∧h.DictOf (aX P w) a vs:=zG ok (.inl e)
theorem wH{ks:List Key}(ok:lV P w H h)(e:H a=some (.tup (ks.map kV))):(tupleKind (aX P w)).is h ks a:=by
 obtain⟨_,its,r,o,h1,h2,n,h3⟩:=(show cG P w H h a (.tup (ks.map kV))from ok a _ e)
 exact⟨o,its.toArray,n,h1,h2,h3,by simpa using uN r⟩
theorem Kv{kvs:List (List Key×V)}(ok:lV P w H h)(e:Rd H a (.dT kvs)):kvs.length≤sizeLine∧(a==sysModules)=false ∧
  ∃xs,KT H kvs xs∧h.DictOfH (tupleKind (aX P w)) a xs:=by
 obtain⟨z,y,xs,r,o,es,ep,h1,h2,h3,h4,h5⟩:=(show cG P w H h a (.dT kvs)from Vd ok e)
 refine⟨z,y,xs,r,o,es,ep,h1,h2,h3,h4,λx hx=>?_,h5⟩
 have all:∀{l:List (List Key×V)} {m:List (List Key×Addr×Value)},KT H l m→∀x∈m,(tupleKind (aX P w)).is h x.1 x.2.1:=by
  intro l m q
  induction q with
  | nil=>intro x hx;exact nomatch hx
  | @cons p q ps qs hq t ih=>
   intro x hx
   rcases B6.mp hx with e | hx
   ·subst e
    exact wH ok (by rw[←hq.1];exact hq.2.1)
   ·exact ih x hx
 exact all r x hx
theorem HQ{kvs:List (List Key×V)}(ok:lV P w H h)(e:H a=some (.dT kvs)):kvs.length≤sizeLine∧(a==sysModules)=false ∧
  ∃xs,KT H kvs xs∧h.DictOfH (tupleKind (aX P w)) a xs:=Kv ok (.inl e)
end
def Kw(H:Hp)(a:Addr)(y:V)(r:Option V):Prop:=
 (∃kvs k,Rd H a (.dK kvs)∧y=kV k∧r=lD kvs k)∨∃kvs k b,Rd H a (.dT kvs)∧y=.ref b∧H b=some (.tup (k.map kV))∧r=lD kvs k
def HR(H:Hp)(a:Addr)(y v:V)(H':Hp):Prop:=
 (∃kvs k,H a=some (.dK kvs)∧y=kV k∧kvs.length<sizeLine∧H'=upd H a (.dK (putK kvs k v))) ∨
 ∃kvs k b,H a=some (.dT kvs)∧y=.ref b∧H b=some (.tup (k.map kV))∧kvs.length<sizeLine∧H'=upd H a (.dT (putK kvs k v))
section
variable{X:Cx}{pins:List (Addr×Obj)}{σ:St}{H:Hp}{s:Shared}{a:Addr}{y v:V}{u r:Value}{o:Option V}{A:Around}{E:Value→Shared→Prop}
theorem Inv.big(I:Inv X pins σ H s):sysModules<s.heap.objs.size:=by
 have h:mainGlobals<s.heap.objs.size:=(I.mod.glob.keeps I.bk).lt
 exact Nat.lt_trans (by decide) h
theorem RC{Q:Value→Shared→Prop}(hu:A.units+1<cLine)(I:Inv X pins σ H s)(g:Kw H a y o)(ry:RelV y u)(h:∀s',Inv X pins σ H s'→Q (.bool o.isSome) s') :
  wpAny (model X.prog X.w) A (compareOp .In u (.ref a)) Q E s:=by
 rcases g with ⟨kvs,k,e,ey,l⟩ | ⟨kvs,k,b,e,ey,eb,l⟩
 ·subst ey
  obtain⟨z,hd,vs,rel,dd⟩:=zG I.hok e
  refine wpAny_in_of (zF ry) hd dd.mapOf ?_
  rw[←(rel.val k).fZ,←l]
  exact h _ (I.tok _)
 ·subst ey
  cases(show u=Value.ref b from ry)
  obtain⟨z,hd,xs,rel,dd⟩:=Kv I.hok e
  refine wpAny_in_heap (tupleKind_room_in1 hu) (wH I.hok eb) hd dd ?_
  have q:=(rel.val k).fZ
  rw[P1]at q
  rw[←q,←l]
  exact h _ (I.tok _)
theorem Ri{Q:Value→Shared→Prop}(hu:A.units+1<cLine)(I:Inv X pins σ H s)(g:Kw H a y o)(ry:RelV y u)(h:∀s',Inv X pins σ H s'→Q (.bool (!o.isSome)) s') :
  wpAny (model X.prog X.w) A (compareOp .NotIn u (.ref a)) Q E s:=by
 rcases g with ⟨kvs,k,e,ey,l⟩ | ⟨kvs,k,b,e,ey,eb,l⟩
 ·subst ey
  obtain⟨z,hd,vs,rel,dd⟩:=zG I.hok e
  refine wpAny_notIn_of (zF ry) hd dd.mapOf ?_
  rw[←(rel.val k).fZ,←l]
  exact h _ (I.tok _)
 ·subst ey
  cases(show u=Value.ref b from ry)
  obtain⟨z,hd,xs,rel,dd⟩:=Kv I.hok e
  refine wpAny_notIn_heap (tupleKind_room_in1 hu) (wH I.hok eb) hd dd ?_
  have q:=(rel.val k).fZ
  rw[P1]at q
  rw[←q,←l]
  exact h _ (I.tok _)
theorem wI{h':Heap}{t':Nat}{ob:HO}(I:Inv X pins σ H s)(mu:CG (H a))(hs:Heap.SameBut a s.heap h')(he:∃q,h'.get? a=some q)(new:cG X.prog X.w (upd H a ob) h' a ob) :
  Inv X pins σ (upd H a ob) {s with heap:=h',toks:=t'}:=
 I.write (x:=a) (e:=a) mu (.inl rfl) (λb q hb z=>(hs.2 b hb).trans z) he new
theorem Ky{P:Program}{w:World}{H':Hp}{h':Heap}{kvs:List (Key×V)}{vs:List (Key×Value)}(z:kvs.length≤sizeLine)(hd:(a==sysModules)=false)(rel:KV kvs vs)(dd:h'.DictOf (aX P w) a vs) :
  cG P w H' h' a (.dK kvs):=⟨z,hd,vs,rel,dd⟩
theorem Hx{H':Hp}{Q:Unit→Shared→Prop}(hu:A.units+1<cLine)(I:Inv X pins σ H s)(g:HR H a y v H')(ry:RelV y u)(rv:RelV v r)(h:∀s',Inv X pins σ H' s'→Q () s') :
  wpAny (model X.prog X.w) A (setItem (.ref a) u r) Q E s:=by
 rcases g with ⟨kvs,k,e,ey,l,eH⟩ | ⟨kvs,k,b,e,ey,eb,l,eH⟩
 ·subst ey eH
  obtain⟨z,hd,vs,rel,dd⟩:=Ve I.hok e
  have hz:vs.length≤sizeLine:=by rw[←rel.length];exact z
  have hl:(putK kvs k v).length≤sizeLine:=by have:=jB kvs k v;omega
  refine wpAny_setItem_pairs (hsz:=hz) (zF ry) dd λh' Xn hs=>h _ ?_
  have he:∃q,h'.get? a=some q:=let ⟨q,_,_,hq,_⟩:=Xn;⟨q,hq⟩
  exact wI I (by rw[e];exact True.intro) hs he (Ky hl hd (rel.put k rv) Xn)
 ·subst ey eH
  cases(show u=Value.ref b from ry)
  obtain⟨z,hd,xs,rel,dd⟩:=HQ I.hok e
  have hz:xs.length≤sizeLine:=by rw[←Paired.length rel];exact z
  have hl:(putK kvs k v).length≤sizeLine:=by have:=jB kvs k v;omega
  refine wpAny_setItem_heap (hsz:=hz) (tupleKind_room_in1 hu) (wH I.hok eb) dd λh' Xn hs=>h _ ?_
  obtain⟨q,es,ep,hq,h2,h3,h4,_,h5⟩:=Xn
  refine wI I (by rw[e];exact True.intro) hs ⟨q,hq⟩ ⟨hl,hd,_,(rel.put k eb rv).keeps λc ys ec=>?_,q,es,ep,hq,h2,h3,h4,h5⟩
  rw[aM (DP ec e (λz=>nomatch z))]
  exact ec
end
section
variable{X:Cx}{pins:List (Addr×Obj)}{σ:St}{H:Hp}{s:Shared}{a:Addr}{kvs:List (Key×V)}{k:Key}{u:Value}{A:Around}{E:Value→Shared→Prop}
end
def Xo(ty td:TE):TE:=λσ H Q=>ty σ H λy H1=>td σ H1 λx H2=>∃a o,x=.ref a∧Kw H2 a y o∧Q (.bl o.isSome) H2
def wJ(ty td:TE):TE:=λσ H Q=>ty σ H λy H1=>td σ H1 λx H2=>∃a o,x=.ref a∧Kw H2 a y o∧Q (.bl (!o.isSome)) H2
def Et(td ty tv:TE):TS:=λD σ H=>tv σ H λv H1=>td σ H1 λx H2=>ty σ H2 λy H3=>∃a H4,x=.ref a∧HR H3 a y v H4∧D.nx σ H4
section
variable{X:Cx}{o i e value:Expr}{pos pos' tpos:Pos}{td ty tv:TE}
theorem Kz(hu:X.A.units+1<cLine)(hi:PE X i ty)(ho:PE X o td):PC X .In i o (Xo ty td):=by
 intro pins s σ H Q I h
 refine cD (hi pins s σ H _ I h) λiv s1 ⟨y,H1,I1,ry,q1⟩=>cD (ho pins s1 σ H1 _ I1 q1) λu s2 ⟨x,H2,I2,rx,a,ov,ex,g,q2⟩=>?_
 subst ex
 obtain rfl:u=Value.ref a:=rx
 exact RC hu I2 g ry λs3 I3=>⟨.bl ov.isSome,H2,I3,rfl,q2⟩
theorem uO(hu:X.A.units+1<cLine)(hi:PE X i ty)(ho:PE X o td):PC X .NotIn i o (wJ ty td):=by
 intro pins s σ H Q I h
 refine cD (hi pins s σ H _ I h) λiv s1 ⟨y,H1,I1,ry,q1⟩=>cD (ho pins s1 σ H1 _ I1 q1) λu s2 ⟨x,H2,I2,rx,a,ov,ex,g,q2⟩=>?_
 subst ex
 obtain rfl:u=Value.ref a:=rx
 exact Ri hu I2 g ry λs3 I3=>⟨.bl (!ov.isSome),H2,I3,rfl,q2⟩
theorem wK(hu:X.A.units+1<cLine)(ho:PE X o td)(hi:PE X i ty)(hv:PE X value tv)(hs:swapsWith value (some (.Subscript o i pos')) pos.line X.env=pure false) :
  PS X (.Assign [.Subscript o i pos'] value pos) (Et td ty tv):=by
 intro pins s σ H D I h
 refine wpAny_Assign_Subscript (cD (hv pins s σ H _ I h) λr s1 ⟨v,H1,I1,rv,q1⟩=>cD (ho pins s1 σ H1 _ I1 q1) λu s2 ⟨x,H2,I2,rx,q2⟩=>cD (hi pins s2 σ H2 _ I2 q2) λiv s3 ⟨y,H3,I3,ry,a,H4,ex,g,q3⟩=>?_) hs
 subst ex
 obtain rfl:u=Value.ref a:=rx
 exact Hx hu I3 g ry rv λs4 I4=>⟨σ,H4,I4,q3⟩
end
theorem zH{P:Program}{w:World}{H:Hp}(h:Heap)(hb:sysModules<h.objs.size):cG P w H (h.push {cls:=.type "dict", data:=.dict #[]}) h.objs.size (.dK []):=
 ⟨K0 _,beq_eq_false_iff_ne.mpr (Ne.symm (C6 hb)),[],.nil,Heap.DictOf.new h⟩
def Cj:TE:=λ_ H Q=>∀p,H p=none→Q (.ref p) (upd H p (.dK []))
section
variable{X:Cx}{pos:Pos}
theorem La:PE X (.Dict [] [] pos) Cj:=λpins s σ H Q I h=>
 wpAny_Dict_empty ⟨.ref s.heap.objs.size,_,I.laid (a:=s.heap.objs.size) (o:=.dK []) (t':=s.toks) (λ_ _ q=>Heap.get?_push_of_some _ q) (A9 _) (zH s.heap I.big),rfl,h _ (I.hok.fresh (A9 _))⟩
end
def wL:List (TE×TE)→St→Hp→(List (V×V)→Hp→Prop)→Prop
 | [],_,H,Q=>Q [] H
 | (tk,tv)::r,σ,H,Q=>tk σ H λx H1=>tv σ H1 λy H2=>wL r σ H2 λps H3=>Q ((x,y)::ps) H3
abbrev VV:List (V×V)→List (Value×Value)→Prop:=Paired λp q=>RelV p.1 q.1∧RelV p.2 q.2
def HS(X:Cx)(pos:Pos)(keys:List (Option Expr))(values:List Expr)(Rj:List (TE×TE)):Prop:=
 ∀(pins:List (Addr×Obj))(s:Shared)(σ:St)(H:Hp)(Q:List (V×V)→Hp→Prop),Inv X pins σ H s→wL Rj σ H Q →
  wpAny (model X.prog X.w) X.A (evalPairs (pairTrees keys values X.env pos)) (λvs s'=>∃ps H',Inv X pins σ H' s'∧VV ps vs∧Q ps H') X.xe s
theorem Rk{X:Cx}{pos:Pos}:HS X pos [] [] []:=λpins s σ H Q I h=>pairTrees_nil_walk ⟨[],H,I,.nil,h⟩
theorem Lb{X:Cx}{pos:Pos}{k v:Expr}{ks:List (Option Expr)}{vs:List Expr}{tk tv:TE}{Rj:List (TE×TE)}(hk:PE X k tk)(hv:PE X v tv)(hr:HS X pos ks vs Rj) :
  HS X pos (some k::ks) (v::vs) ((tk,tv)::Rj):=λpins s σ H Q I h=>
 pairTrees_cons_walk (cD (hk pins s σ H _ I h) λu s1 ⟨x,H1,I1,rx,q1⟩=>cD (hv pins s1 σ H1 _ I1 q1) λw2 s2 ⟨y,H2,I2,ry,q2⟩=>
  cD (hr pins s2 σ H2 _ I2 q2) λws s3 ⟨ps,H3,I3,rel,q3⟩=>⟨(x,y)::ps,H3,I3,.cons ⟨rx,ry⟩ rel,q3⟩)
def qQ(kvs more:List (Key×V)):List (Key×V):=more.foldl (λacc kv=>putK acc kv.1 kv.2) kvs
theorem KV.merge:∀{more:List (Key×V)} {rs:List (Key×Value)} {kvs:List (Key×V)} {vs:List (Key×Value)},KV more rs→KV kvs vs→KV (qQ kvs more) (merged vs rs):=by
 intro more rs kvs vs r
 unfold KV at r
 induction r generalizing kvs vs with
 | nil=>intro q;exact q
 | @cons p q ps qs h t ih=>
  intro r0
  have e:KV (putK kvs p.1 p.2) (stored vs q.1 q.2):=by
   have:=r0.put p.1 h.2
   rw[←h.1];exact this
  exact ih e
theorem lK:∀(more kvs:List (Key×V)),(qQ kvs more).length≤kvs.length+more.length
 | [],kvs=>by show kvs.length≤kvs.length+0;omega
 | p::r,kvs=>by
  have h1:=lK r (putK kvs p.1 p.2)
  have h2:=jB kvs p.1 p.2
  show (qQ (putK kvs p.1 p.2) r).length≤_
  rw[D7];omega
theorem qR{P:Program}{w:World}:∀{kvs:List (Key×V)} {ws:List (Value×Value)},VV (kvs.map λkv=>(kV kv.1,kv.2)) ws→∃rs,Carries (aX P w) ws rs∧KV kvs rs
 | [],_,r=>by rw[E2]at r;cases r;exact⟨[],True.intro,.nil⟩
 | p::kvs,_,r=>by
  rw[B8]at r
  cases r with
  | @cons a b as bs h t=>
   obtain⟨rs,c,q⟩:=qR (P:=P) (w:=w) t
   obtain⟨b1,b2⟩:=b
   exact⟨(p.1,b2)::rs,⟨zF h.1,rfl,c⟩,.cons ⟨rfl,h.2⟩ q⟩
def Vf(Rj:List (TE×TE)):TE:=λσ H Q=>∀p,H p=none→wL Rj σ (upd H p (.dK [])) λps H2=>H2 p=some (.dK [])∧∃kvs:List (Key×V),ps=kvs.map (λkv=>(kV kv.1,kv.2))∧kvs.length≤15∧Q (.ref p) (upd H2 p (.dK (qQ [] kvs)))
theorem Rm{X:Cx}{pos:Pos}{keys:List (Option Expr)}{values:List Expr}{Rj:List (TE×TE)}(h:HS X pos keys values Rj)(hall:keys.all (·.isSome)=true)(hl:keys.length=values.length)(h0:keys≠[])
  (h15:keys.length≤15):PE X (.Dict keys values pos) (Vf Rj):=by
 intro pins s σ H Q I q
 have hn:=I.hok.fresh (A9 s.heap.objs.size)
 have I1:=I.laid (a:=s.heap.objs.size) (o:=.dK []) (h':=s.heap.push {cls:=.type "dict", data:=.dict #[]}) (t':=s.toks) (λ_ _ q=>Heap.get?_push_of_some _ q) (A9 _) (zH s.heap I.big)
 refine wpAny_Dict_walk (knd:=aX X.prog X.w) hall hl h0 h15 (cD (h pins _ σ _ _ I1 (q _ hn)) λws s2 ⟨ps,H2,I2,rel,e,kvs,ep,lk,q2⟩=>?_)
 subst ep
 obtain⟨rs,c,rk⟩:=qR (P:=X.prog) (w:=X.w) rel
 obtain⟨z,hd,ZM,r0,dd⟩:=Ve I2.hok e
 cases r0
 refine⟨rs,c,dd,λh' Xn hs=>⟨.ref s.heap.objs.size,_,?_,rfl,q2⟩⟩
 have hz:(qQ [] kvs).length≤sizeLine:=by
  have h1:=lK kvs []
  rw[M6]at h1
  rw[sizeLine_eq];omega
 have he:∃q,h'.get? s.heap.objs.size=some q:=let ⟨q,_,_,hq,_⟩:=Xn;⟨q,hq⟩
 exact wI I2 (by rw[e];exact True.intro) hs he (Ky hz hd (rk.merge .nil) Xn)
structure M1(X:Cx)(o:Expr)(m:Str)(apos:Pos)(e:Expr)(cpos:Pos):Prop where
 base:attributeBase o m X.env (eval o X.env)=eval o X.env
 few:((backTo cpos (starEach [e] X.env)).all (λx=>!x.1)&&(backToKw cpos (keywordEach [] X.env)).all (λx=>x.1.isSome)
  && decide (([e]:List Expr).length+([]:List Keyword).length+(if([]:List Keyword).isEmpty then 0 else 1)<30))=true
 line:(apos.endLine==cpos.line)=true
 trees:backTo cpos (starEach [e] X.env)=[(false,eval e X.env)]
structure M2(X:Cx)(o:Expr)(m:Str)(apos:Pos)(e f:Expr)(cpos:Pos):Prop where
 base:attributeBase o m X.env (eval o X.env)=eval o X.env
 few:((backTo cpos (starEach [e,f] X.env)).all (λx=>!x.1)&&(backToKw cpos (keywordEach [] X.env)).all (λx=>x.1.isSome)
  && decide (([e,f]:List Expr).length+([]:List Keyword).length+(if([]:List Keyword).isEmpty then 0 else 1)<30))=true
 line:(apos.endLine==cpos.line)=true
 trees:backTo cpos (starEach [e,f] X.env)=[(false,eval e X.env),(false,eval f X.env)]
section
variable{X:Cx}{pins:List (Addr×Obj)}{σ:St}{H:Hp}{s:Shared}{a:Addr}{y d:V}{u r:Value}{o:Option V}{A:Around}{E:Value→Shared→Prop}
end
section
variable{X:Cx}{o e f:Expr}{apos cpos:Pos}{td ty tx:TE}
end
section
variable{X:Cx}{pins:List (Addr×Obj)}{σ:St}{H:Hp}{s:Shared}{a:Addr}{kvs:List (Key×V)}{A:Around}{E:Value→Shared→Prop}
end
section
variable{X:Cx}{pins:List (Addr×Obj)}{σ:St}{H:Hp}{s:Shared}{a:Addr}{y:V}{u:Value}{A:Around}{E:Value→Shared→Prop}
end
end L2
namespace Att
open PySem PySem.W PySem.Calls PyProof.Rows
theorem pP{P:Params}{h:Heap}:∀(ns:List Int)(vs:List Value),WellAll P h vs (ns.map WData.int)→IntsAre vs ns:=by
 intro ns
 induction ns with
 | nil=>
  intro vs w
  rw[E2]at w
  cases w
  exact .nil
 | cons n ns ih=>
  intro vs w
  rw[B8]at w
  cases w with
  | cons a b=>
   cases a
   exact .cons _ _ (ih _ b)
theorem Hy{l:OpenLaw}{n:Nat}(hn:l.most=some n){P:Params}{h:Heap}{args:List WData}{vals:List Value}
  (hpre:l.row.toRowW.claim.pre args=true) (hwl:WellAll P h vals args) :
  ∃a vs ns,vals=[Value.ref a]∧args=[WData.list (ns.map WData.int)]∧h.get? a=some {cls:=.type "list", data:=.seq vs.toArray}∧IntsAre vs ns∧ns.length≤n:=by
 have hsh:WShape.hasAll [] args [.list .int]=true:=(pre_splitW hpre).1
 have hc:l.pre.holds [] {args:=args}=true:=(pre_splitW hpre).2
 obtain⟨d,r,rfl,h1,h2⟩:=hasAllW_cons hsh
 obtain rfl:=hasAllW_nil h2
 obtain⟨xs,rfl,h3⟩:=hasW_list h1
 obtain⟨ns,rfl⟩:=items_int h3
 have hlen:ns.length≤n:=by
  unfold OpenLaw.pre at hc
  have h4:(WTm.not (.lt (.lit (.int (n:Int))) (.len (.arg 0)))).holds [] {args:=[.list (ns.map .int)]}=true:=by
   have h4:=(holds_andW hc).1
   rw[hn]at h4
   exact h4
  have h5:=condW_of h4 (w_not (w_lt w_lit (w_len_list (w_arg rfl))))
  rw[B0]at h5
  refine Nat.le_of_not_lt λq=>?_
  have q':(n:Int)<((ns.length:Nat):Int):=by omega
  first
   | (rw[decide_eq_true q']at h5;exact absurd h5 (by decide))
   | (simp at h5;omega)
 cases hwl with
 | cons w1 w2=>
  cases w2
  cases w1 with
  | list ho hall=>exact⟨_,_,ns,rfl,rfl,ho,pP ns _ hall,hlen⟩
theorem Hz(l:OpenLaw)(args:List WData):l.row.toRowW.claim.post args (.bool true) args=true:=
 postW_of (r:=l.row.toRowW) (X:=(true==true))
  (show WShape.has [] (.bool true) .bool=true by first | rfl | decide | simp[WShape.has,WShape.arms,WShape.armsAll])
  (show (WTm.eq .res (.lit (.bool true))).value [] {args:=args,res:=some (.bool true),after:=args}=some (.bool (true==true))from w_eq_bool (w_res rfl) w_lit) rfl
section
variable{prog:Program}{w:World}{A:Around}{E:Value→Shared→Prop}{s:Shared}{K:Frag}
end
end Att
namespace L2
open PySem PySem.Spec PyProof.Rows
theorem jV:∀{vs:List Value} {ns:List Int},IntsAre vs ns→Vals (ns.map V.int) vs
 | _,_,.nil=>.nil
 | _,_,.cons n t h=>.cons ⟨t,rfl⟩ (jV h)
def Only(H:Hp):Prop:=∀b,H b=none∨∃o xs,H b=some (.fX o (.lst xs))
theorem Ld{P:Program}{w:World}{K:aA}{mg mb:Str→Option Value}{CX:Hs}{k:Nat}{fa a:Addr}{fd:FuncData}{x:Str}{sp:Sp}{s₁:Shared}{vs:List Value}{ns:List Int}
  (KX:K.In s₁.heap) (hns:s₁.heap.Ns mainGlobals mg) (hb:s₁.heap.Ns builtinsNs mb) (hbb:∀x:Str,x ≠ "__name__" → mb x=bootBuiltins x) (hlim:s₁.heap.NoLimit) (hg:s₁.gens=#[])
  (ha:s₁.heap.get? a=some {cls:=.type "list", data:=.seq vs.toArray}) (hi:IntsAre vs ns) (hl:ns.length≤sizeLine) (hr:eV k callerA)
  (F:∀base:Heap,K.In base→base.Ns mainGlobals mg→oE P w K mg base CX k fa fd [x] sp) (hbind:∀(s:Shared)(u:Value),BindsTo s fd ⟨[u],[]⟩ [(x,u)])
  (hsp:∀H:Hp,Only H→eN K H a (ns.map V.int)→sp [.ref a] H (λv _=>v=.bl true) λ_ _ _=>False)
  (RD:∀H e s',CX [] H s₁ (λ_ _ _=>False) e s'→False) :
  codeAny (model P w) callerA (.call (.ref fa) ⟨[.ref a],[]⟩) (λr s'=>r=.ok (.ret (.bool true))∧OldK s₁.heap s'.heap∧s'.os=s₁.os∧AllBare s'.gens) s₁:=by
 have rv:=jV hi
 have lenV:=hi.length
 have core:∀H:Hp,Only H→eN K H a (ns.map V.int)→lV P w H s₁.heap→(∀b,H b≠none→b=a)→(H a≠none→K.lookup a=none) →
   codeAny (model P w) callerA (.call (.ref fa) ⟨[.ref a],[]⟩) (λr s'=>r=.ok (.ret (.bool true))∧OldK s₁.heap s'.heap∧s'.os=s₁.os∧AllBare s'.gens) s₁:=by
  intro H hO hS hok hA hK
  have Eu:∀{b:Addr} {o:Obj},s₁.heap.get? b=some o→H b=none→(vU s₁.heap H).get? b=some o:=λe n=>Jt e n
  have GJ:∀{b:Addr} {o:Obj} {es:Array DictEntry} {ep:Nat},s₁.heap.get? b=some o→o.data=.dict es ep→H b=none:=λ{b o es ep} e d=>by
   cases q:H b with
   | none=>rfl
   | some u=>
    have e':b=a:=hA b (by rw[q];simp)
    subst e'
    rw[ha]at e;cases e
    have d':Data.seq vs.toArray _=Data.dict es ep:=d
    cases d'
  have MP:∀{b:Addr} {m:Str→Option Value},s₁.heap.Ns b m→(vU s₁.heap H).Ns b m:=λ{b m} ⟨o,es,ep,e,d,r⟩=>⟨o,es,ep,Eu e (GJ e d),d,r⟩
  have WT:K.In (vU s₁.heap H):=λb o e=>Eu (KX b o e) (by
   cases q:H b with
   | none=>rfl
   | some u=>
    have e':b=a:=hA b (by rw[q];simp)
    subst e'
    rw[hK (by rw[q];simp)]at e;cases e)
  have hM:Mod K mg (vU s₁.heap H):=⟨WT,MP hns,⟨mb,MP hb,hbb⟩,let ⟨mc,h1,h2⟩:=hlim;⟨mc,MP h1,h2⟩⟩
  have e0:Qx P w K mg (vU s₁.heap H) callerA [] s₁ H:=⟨rfl,hM,λb o e=>Qk e,Nat.le_of_eq (Hi _ _),trivial,λb hb=>absurd (show b∈([]:List Addr)from hb) (by simp),hok,.of_eq hg⟩
  refine codeAny_mono ((F _ WT (MP hns)).run callerA [] s₁ H ⟨[.ref a],[]⟩ [.ref a] [.ref a] _ _ hr e0 (hbind s₁ (.ref a)) (.cons rfl .nil) (hsp H hO hS)) λr s' h=>?_
  cases r with
  | error e=>exact(RD H e s' h).elim
  | ok fl=>
   cases fl with
   | next=>exact False.elim h
   | brk=>exact False.elim h
   | cont=>exact False.elim h
   | ret u=>
    obtain⟨v,H',os,bare,un,hok',r',q⟩:=h
    have q':v=.bl true:=q
    subst q'
    obtain rfl:u=Value.bool true:=r'
    refine⟨rfl,OldK.of_keep λb o e=>?_,os,bare⟩
    cases q:H b with
    | none=>exact un.keep b o e q (by intro z;exact absurd (show b∈([]:List Addr)from z) (by simp)) (by simp)
    | some u=>
     rcases hO b with z | ⟨ob,xs,z⟩
     ·rw[q]at z;cases z
     ·have z2:=un.tY b ob _ z
      obtain⟨e1,_⟩:=hok b _ z
      obtain⟨e2,_⟩:=hok' b _ z2
      rw[e]at e1;cases e1
      exact e2
 cases hk:K.lookup a with
 | some o=>
  have e:=KX a o hk
  rw[ha]at e
  cases e
  refine core (λ_=>none) (λ_=>.inl rfl) (.inr ⟨_,vs.toArray,_,hk,rfl,rfl,rfl,by rw[B5,lenV];exact hl,by simpa using rv⟩) (λb u z=>by have z':(none:Option HO)=some u:=z;cases z') (λb z=>absurd rfl z) λz=>absurd rfl z
 | none=>
  refine core (λb=>if b=a then some (.fX {cls:=.type "list", data:=.seq vs.toArray} (.lst (ns.map V.int)))else none) (λb=>?_) (.inl (.inr ⟨{cls:=.type "list", data:=.seq vs.toArray},if_pos rfl⟩)) (λb u z=>?_) (λb z=>?_) λ_=>hk
  ·by_cases hb:b=a
   ·exact .inr ⟨_,_,if_pos hb⟩
   ·exact .inl (if_neg hb)
  ·by_cases hb:b=a
   ·have z':=(if_pos hb).symm.trans z
    cases z'
    subst hb
    exact⟨ha,by rw[B0];exact hl,vs,_,rv,ha⟩
   ·have z':=(if_neg hb).symm.trans z
    cases z'
  ·by_cases hb:b=a
   ·exact hb
   ·exact absurd (if_neg hb) z
end L2
namespace L2
open PySem PySem.Spec PyProof.Rows
end L2
namespace L2
open PySem PySem.Spec PyProof.Rows
def cB(s:Stmt):Arguments:=match s with
 | .FunctionDef _ a _ _ _ _ _ _ _ _=>a
 | _=>{posonlyargs:=[],args:=[],vararg:=none,kwonlyargs:=[],kw_defaults:=[],kwarg:=none,defaults:=[]}
def bG(s:Stmt):List Stmt:=match s with
 | .FunctionDef _ _ b _ _ _ _ _ _ _=>b
 | _=>[]
def aJ(s:Stmt):Scope:=match s with
 | .FunctionDef _ _ _ _ _ _ sc _ _ _=>sc
 | _=>{kind:=.function,names:=[],isGenerator:=false,isCoroutine:=false}
abbrev Jp:Hs:=λ_ _ _ _ _ _=>False
abbrev E0:XK:=λ_ _ _=>False
theorem HW{X:Cx}:Passes Jp X E0:=λ_ _ _ _ _ _ _ h=>h.elim
structure Qg(K:aA)(x qual:Str)(st:Stmt)(f:Addr)(fd:FuncData):Prop where
 ex:∃(oc:Value)(od:Option Addr)(kV doc pm:Value)(an:Option Addr)(cdv ct:Value)(osl:Array (Option Value)),
  fd=F0 x qual (cB st) (bG st) (aJ st) .none kV doc pm an cdv ct∧K.lookup f=some ⟨oc,od,.func fd,osl⟩∧L7 K cdv qual=true
 kp:G2 K (.ref f)=true
section
variable{P:Program}{w:World}{K:aA}{mg:Str→Option Value}{base:Heap}
theorem Qg.ok{x qual:Str}{st:Stmt}{f:Addr}{fd:FuncData}{N ps:List Str}{k:Nat}{sp:Sp}(F:Qg K x qual st f fd)(S:bJ N ps (aJ st))(len:∀vs H Q E,sp vs H Q E→vs.length=ps.length)
  (hbody:∀(cdv:Value)(A:Around)(outer:List Env)(s:Shared)(H:Hp)(vs:List V)(Q:VK)(E:XK),eV k (A.deeper (envOfC qual (aJ st) s.heap.objs.size f cdv))→sp vs H Q E →
   ∃t,yU (wA Jp P w K mg base N qual (aJ st) f cdv A outer s H E).Wt (bG st) t∧t {nx:=λ_ H'=>Q .non H',rt:=Q} (start N vs) H):oE P w K mg base Jp (k+1) f fd ps sp:=by
 obtain⟨oc,od,kV,doc,pm,an,cdv,ct,osl,rfl,lk,hcd⟩:=F.ex
 refine GK lk hcd S len λA outer s H vs Q E hr hsp=>?_
 obtain⟨t,h,q⟩:=hbody cdv A outer s H vs Q E hr hsp
 exact⟨t,h.Wt,q⟩
theorem Qg.binds{x qual:Str}{st:Stmt}{f:Addr}{fd:FuncData}{ps:List Str}(F:Qg K x qual st f fd)
  (h:∀(kV doc pm:Value)(an:Option Addr)(cdv ct:Value)(us:List Value),us.length=ps.length→bindArgs (F0 x qual (cB st) (bG st) (aJ st) .none kV doc pm an cdv ct) ⟨us,[]⟩=pure (ps.zip us)):Binds K fd ps []:=by
 obtain⟨oc,od,kV,doc,pm,an,cdv,ct,osl,rfl,lk,hcd⟩:=F.ex
 exact .all (h kV doc pm an cdv ct)
theorem Xp{x qual:Str}{st:Stmt}{f:Addr}{oc:Value}{od an:Option Addr}{osl:Array (Option Value)}{kV doc pm cdv ct:Value}(l:K.lookup f=some ⟨oc,od,.func (F0 x qual (cB st) (bG st) (aJ st) .none kV doc pm an cdv ct),osl⟩)
  (c:L7 K cdv qual=true) (k:G2 K (.ref f)=true):Qg K x qual st f (F0 x qual (cB st) (bG st) (aJ st) .none kV doc pm an cdv ct):=⟨⟨oc,od,kV,doc,pm,an,cdv,ct,osl,rfl,l,c⟩,k⟩
end
theorem lM{A:Around}{k:Nat}(hr:eV k A):A.units+1<cLine:=T8 (Nat.add_le_add_left (by decide:1≤64) _) hr.units
theorem gA{n:Nat}(h:n≤1000):n<sizeLine:=T8 h (by decide)
section
variable{X:Cx}
theorem pv(i:Nat){x:Str}{pos:Pos}(hN:X.N[i]?=some x:=by rfl)(hv:MF X.env.scope x:=by first | exact E7 rfl | exact E6 (E7 rfl) | exact E6 (E6 rfl))(hd:(x==("__debug__" : Str))=false:=by decide)
  (hcd:(x==("__classdict__" : Str))=false:=by decide):PE X (.Name x pos) (gU i):=Wi hN hv hd hcd
end
def aD(H H':Hp):Prop:=∀b o,H b=some o→H' b=some o
theorem aD.refl(H:Hp):aD H H:=λ_ _ h=>h
theorem aD.trans{H H1 H2:Hp}(a:aD H H1)(b:aD H1 H2):aD H H2:=λc o h=>b c o (a c o h)
theorem aD.free{H H':Hp}(e:aD H H'){l:Addr}(h:H' l=X8):H l=X8:=by
 cases q:H l with
 | none=>rfl
 | some o=>
  rw[e l o q]at h
  cases h
theorem aD.seq{K:aA}{H H':Hp}{a:Addr}{xs:List V}(e:aD H H')(h:eN K H a xs):eN K H' a xs:=by
 rcases h with (h | ⟨o,h⟩) | h
 ·exact .inl (.inl (e _ _ h))
 ·exact .inl (.inr ⟨o,e _ _ h⟩)
 ·exact .inr h
section
variable{κ:Type} [DecidableEq κ]
theorem Ew:∀{l:List κ} {k:κ},l.Nodup→¬k∈l→(l++[k]).Nodup
 | [],k,_,_=>by simp
 | a::r,k,h,hk=>by
  obtain⟨h1,h2⟩:=E5.mp h
  show (a::(r++[k])).Nodup
  refine E5.mpr ⟨λm=>?_,Ew h2 λm=>hk (B6.mpr (E6 m))⟩
  rcases D4.mp m with q | q
  ·exact h1 q
  ·exact hk (B6.mpr (E7 (B9.mp q).symm))
end
end L2


namespace L2
open PySem PySem.Spec PyProof.Rows
theorem lY(env:Env):∀(names:List (Str×NameKind))(acc:List (Str×Addr)),(∀x∈names,x.2=.free→∃c,env.cells.lookup x.1=some c) →
    ∃cl:List (Str×Addr),(forIn names acc (λ(x:Str×NameKind) (r:List (Str×Addr))=>(match x with
      | (name,kind)=>if(kind==.free)=true then do let c ←cellOf env name;pure (ForInStep.yield ((name,c)::r))else pure (ForInStep.yield r):Sem (ForInStep (List (Str×Addr))))))=pure cl ∧
      (∀x c,cl.lookup x=some c→(∃k,(x,k)∈names∧k=.free∧env.cells.lookup x=some c)∨acc.lookup x=some c) ∧
      (∀x,(x,NameKind.free)∈names→∃c,cl.lookup x=some c)∧(∀x c,acc.lookup x=some c→∃c',cl.lookup x=some c')
  | [],acc,_=>⟨acc,rfl,λx c h=>.inr h,λx h=>by simp at h,λx c h=>⟨c,h⟩⟩
  | (n,k)::r,acc,h=>by
    rw[N8]
    by_cases hk:k=.free
    · subst hk
      obtain⟨c,hc⟩:=h (n,.free) B7 rfl
      obtain⟨cl,e,h1,h2,h3⟩:=lY env r ((n,c)::acc) λx hx=>h x (B4 _ hx)
      refine⟨cl,?_,λx d hd=>?_,λx hx=>?_,λx d hd=>?_⟩
      · have e0:cellOf env n=pure c:=by unfold cellOf;rw[hc]
        simp only[beq_self_eq_true,if_true,e0,pure_bind]
        exact e
      · rcases h1 x d hd with ⟨k',m,q⟩ | q
        · exact .inl ⟨k',B4 _ m,q⟩
        · rw[N6]at q
          by_cases e:x==n
          · rw[e]at q
            have e':=eq_of_beq e
            subst e'
            cases q
            exact .inl ⟨.free,B7,rfl,hc⟩
          · have e':(x==n)=false:=by simpa using e
            rw[e']at q
            exact .inr q
      · rcases B6.mp hx with q | q
        · cases q
          exact h3 n c (by simp)
        · exact h2 x q
      · by_cases e:x==n
        · exact h3 x c (by rw[N6,e])
        · have e':(x==n)=false:=by simpa using e
          exact h3 x d (by rw[N6,e'];exact hd)
    · obtain⟨cl,e,h1,h2,h3⟩:=lY env r acc λx hx=>h x (B4 _ hx)
      have hb:(k==NameKind.free)=false:=by simpa using hk
      refine⟨cl,?_,λx d hd=>?_,λx hx=>?_,h3⟩
      · simp only[hb,T9,if_false,pure_bind]
        exact e
      · rcases h1 x d hd with ⟨k',m,q⟩ | q
        · exact .inl ⟨k',B4 _ m,q⟩
        · exact .inr q
      · rcases B6.mp hx with q | q
        · cases q
          exact absurd rfl hk
        · exact h2 x q
theorem lN(scope:Scope)(env:Env)(h:∀x∈scope.names,x.2=.free→∃c,env.cells.lookup x.1=some c) :
    ∃cl,closureFor scope env=pure cl∧(∀x c,cl.lookup x=some c→(x,NameKind.free)∈scope.names∧env.cells.lookup x=some c)∧∀x,(x,NameKind.free)∈scope.names→∃c,cl.lookup x=some c:=by
  obtain⟨cl,e,h1,h2,_⟩:=lY env scope.names [] h
  refine⟨cl,?_,λx c hx=>?_,h2⟩
  · unfold closureFor
    exact(congrArg (λt=>t >>= pure) e).trans (pure_bind _ _)
  · rcases h1 x c hx with ⟨k,m,rfl,q⟩ | q
    · exact⟨m,q⟩
    · simp at q
theorem wM{scope:Scope}{env:Env}(hcell:∀y∈scope.names,y.2≠.cell){x:Str}(h:(relabel scope env).names.lookup x=some .cell∨(relabel scope env).names.lookup x=some .free):(x,NameKind.free)∈scope.names:=by
 have m:(x,NameKind.cell)∈(relabel scope env).names∨(x,NameKind.free)∈(relabel scope env).names:=by
  rcases h with h | h
  ·exact .inl (G6 h)
  ·exact .inr (G6 h)
 unfold relabel at m
 rcases m with m | m
 all_goals
  obtain⟨⟨n,k⟩,hm,e⟩:=G0.mp m
  dsimp only at e
  split at e
  ·rename_i hc
   simp only[D6,beq_iff_eq]at hc
   cases e
   first
    | (rw[hc.1.1]at hm;exact hm)
    | skip
  ·cases e
   first
    | exact hm
    | exact absurd rfl (hcell _ hm)
def bT(X:Cx)(scope:Scope)(N:List Str)(cl:List (Str×Addr))(fp:List Addr)(s:Shared)(H:Hp)(C:Addr):Cx where
 prog:=X.prog
 w:=X.w
 K:=X.K
 mg:=X.mg
 base:=X.base
 A:=X.A
 N:=N
 s₀:=s
 H₀:=H
 env:=compEnvC scope cl C X.env
 outer:=X.stack
 stack:=X.stack
 ex:=fp
 calm:=X.calm
 fn:=λ_=>false
 pn:=[]
 xe:=λ_ _=>False
def Ck(σ:St)(fr:List Nat):St:=fr.map λi=>σ.getD i none
def blk(k:Nat)(σ:St)(fr:List Nat):St:=E8 k none++Ck σ fr
def Kp(k:Nat)(σ:St)(fr:List Nat)(σ2:St):Prop:=σ2.length=(blk k σ fr).length∧∀(j:Nat) v,(blk k σ fr)[j]?=some (some v)→σ2[j]?=some (some v)
def Xq(X:Cx)(ifs:List Expr)(t:TT):Prop:=
 ∀(pins:List (Addr×Obj))(s:Shared)(σ:St)(H:Hp)(Q:Bool→Hp→Prop),Inv X pins σ H s→t σ H Q →
  wpAny (model X.prog X.w) X.A (forIn ifs true λc r=>if r=true then do let ok ←isTrue c X.env (eval c X.env);pure (ForInStep.yield ok)else pure (ForInStep.yield r)) (TP X pins σ Q) X.xe s
def HX:TT:=λ_ H Q=>Q true H
theorem Rn{X:Cx}:Xq X [] HX:=λ_ _ _ H _ I h=>wpAny_tests_nil ⟨H,I,h⟩
theorem Ro{X:Cx}{c:Expr}{t:TT}(h:PT X c t):Xq X [c] t:=λpins s σ H Q I q=>wpAny_tests_one (h pins s σ H Q I q)
theorem lE{prog:Program}{w:World}{A:Around}{R:Result→Shared→Prop}{s:Shared}{elt target iter:Expr}{ifs:List Expr}{scope:Scope}{pos:Pos}{it acc:Value}{env:Env}(I:Nat→Shared→Prop)
  (turn:∀n s,I n s→wpAny (model prog w) A (pyNext it) (λr s₁=>match r with
   | none=>R (.ok .next) s₁
   | some v=>wpAny (model prog w) A (letOwnedTupleGo target it v) (λ_ s₀=>wpAny (model prog w) A (assign target env v) (λ_ s₂=>
     wpAny (model prog w) A (forIn ifs true λc r=>if r=true then do let ok ←isTrue c env (eval c env);pure (ForInStep.yield ok)else pure (ForInStep.yield r)) (λok s₃=>
      if ok=true then wpAny (model prog w) A (eval elt env) (λx s₄=>
       wpAny (model prog w) A (call (.builtin "list.append") [acc,x]) (λ_ s₅=>∃m,m<n∧I m s₅) (λ_ _=>False) s₄) (λ_ _=>False) s₃
      else ∃m,m<n∧I m s₃) (λ_ _=>False) s₂) (λ_ _=>False) s₀) (λ_ _=>False) s₁) (λ_ _=>False) s)
  (n:Nat) (h:I n s) :
  codeAny (model prog w) A (.compLoop (.ListComp elt [⟨target,iter,ifs,0⟩] scope pos) 0 it acc env) R s:=by
 refine codeAny_loop rfl I (λn s hI=>?_) n h
 show wpAny _ A ((compTurn (.ListComp elt [⟨target,iter,ifs,0⟩] scope pos) 0 it acc env).onRaise (λx=>do noteFrame x env;theTreesLotGoes x)) _ _ s
 refine wpAny_noted ?_
 rw[compTurn_list]
 refine wpAny_mono (E:=λ_ _=>False) ?_ (λ_ _ q=>q) λ_ _ x=>x.elim
 refine wpAny_bind (wpAny_standAt (wpAny_bind (wpAny_mono (turn n s hI) (λr s₁ h₁=>?_) λ_ _ h'=>h')))
 cases r with
 | none=>exact wpAny_pure h₁
 | some v=>
  refine wpAny_bind (wpAny_mono h₁ (λ_ s₀ h₀=>?_) λ_ _ h'=>h')
  refine wpAny_bind (wpAny_mono h₀ (λ_ s₂ h₂=>wpAny_bind (wpAny_mono h₂ (λok s₃ h₃=>?_) λ_ _ h'=>h')) λ_ _ h'=>h')
  cases ok with
  | false=>exact wpAny_pure ⟨rfl,h₃⟩
  | true=>
   exact wpAny_bind (wpAny_bind (wpAny_mono h₃ (λx s₄ h₄=>wpAny_bind (wpAny_mono h₄ (λ_ s₅ h₅=>wpAny_pure (wpAny_pure ⟨rfl,h₅⟩)) λ_ _ h'=>h')) λ_ _ h'=>h'))
def Vg(J:It)(k:Nat)(fr:List Nat)(g:TG)(tc:TT)(te:TE)(σ:St)(H1:Hp)(Q:VK)(D:Addr):Prop:=∃W:Nat→Nat→List V→Hp→Prop,(∃m,W 0 m [] (upd H1 D (.lst []))) ∧
 ∀i m ys H,W i m ys H→H D=some (.lst ys)∧((J.stop i H∧Q (.ref D) H)∨(J.go i H∧∀x H',J.DY i H x H'→g x (blk k σ fr) H' λσ2 H2=>Kp k σ fr σ2∧tc σ2 H2 λok H3=>if ok=true then
  te σ2 H3 λy H4=>H4 D=some (.lst ys)∧ys.length<sizeLine∧∃m',m'<m∧W (i+1) m' (ys++[y]) (upd H4 D (.lst (ys++[y])))else ∃m',m'<m∧W (i+1) m' ys H3))
def zJ(wi:TI)(k:Nat)(fr:List Nat)(g:TG)(tc:TT)(te:TE):TE:=λσ H Q=>wi σ H λJ H1=>∀D,H1 D=none→Vg J k fr g tc te σ H1 Q D
def cR(scope nY:Scope):Scope:=
 {scope with names:=scope.names.map λ(n,k)=>if(k==.free&&nY.kind==.function&&nY.names.lookup n==some .cell)then(n,.cell)else(n,k)}
structure bV(nY scope:Scope)(oN N:List Str)(k:Nat)(fr:List Nat):Prop where
 kind:scope.kind=.function
 cell:∀y∈scope.names,y.2≠.cell
 loc:∀y∈scope.names,y.2=.local→scope.names.lookup y.1=some .local
 free:∀y∈scope.names,y.2=.free→nY.names.lookup y.1=some .cell∨nY.names.lookup y.1=some .free
 len:N.length=k+fr.length
 slots:∀j∈D3 fr.length,oN[fr.getD j 0]?=N[k+j]?
 from_:∀x∈N.drop k,(x,NameKind.free)∈scope.names∧((cR scope nY).names.lookup x=some .cell∨(cR scope nY).names.lookup x=some .free)
def Le(nY scope:Scope)(oN N:List Str)(k:Nat)(fr:List Nat):Bool:=
 decide (scope.kind=.function)&&decide (∀y∈scope.names,y.2≠.cell)&&decide (∀y∈scope.names,y.2=.local→scope.names.lookup y.1=some .local) &&
 decide (∀y∈scope.names,y.2=.free→nY.names.lookup y.1=some .cell∨nY.names.lookup y.1=some .free)&&decide (N.length=k+fr.length) &&
 decide (∀j∈D3 fr.length,oN[fr.getD j 0]?=N[k+j]?) &&
 decide (∀x∈N.drop k,(x,NameKind.free)∈scope.names∧((cR scope nY).names.lookup x=some .cell∨(cR scope nY).names.lookup x=some .free))
theorem bV.of{nY scope:Scope}{oN N:List Str}{k:Nat}{fr:List Nat}(h:Le nY scope oN N k fr=true):bV nY scope oN N k fr:=by
 unfold Le at h
 simp only[D6,decide_eq_true_eq]at h
 obtain⟨⟨⟨⟨⟨⟨h1,h2⟩,h3⟩,h4⟩,h5⟩,h6⟩,h7⟩:=h
 exact⟨h1,h2,h3,h4,h5,h6,h7⟩
section
variable{X:Cx}
theorem Rp{k:Nat}{σ:St}{fr:List Nat}{i:Nat}{v:V}(h:(blk k σ fr)[i]?=some (some v)):∃j o,i=k+j∧fr[j]?=some o∧σ[o]?=some (some v):=by
 unfold blk at h
 by_cases hi:i<k
 ·rw[P4 (by simpa using hi),Q5]at h
  rw[if_pos hi]at h
  cases h
 ·rw[O7 (by simpa using hi),S6]at h
  unfold Ck at h
  rw[C8]at h
  cases e:fr[i-k]? with
  | none=>rw[e]at h;cases h
  | some o=>
   rw[e]at h
   refine⟨i-k,o,by omega,e,?_⟩
   have h:some (σ.getD o none)=some (some v):=h
   have h:=E4 h
   rw[D5]at h
   cases e2:σ[o]? with
   | none=>rw[e2]at h;cases h
   | some z=>rw[e2]at h;exact congrArg some h
theorem Cm{pins:List (Addr×Obj)}{σ:St}{H:Hp}{s:Shared}{scope:Scope}{N:List Str}{k:Nat}{fr:List Nat}{cl:List (Str×Addr)}{fp:List Addr}{h₁:Heap}{tk:Nat}{m:Str→Option Value}
    (I:Inv X pins σ H s) (B:bV X.env.scope scope X.N N k fr) (hf:∀b∈fp,vY X pins H b) (hfo:∀b∈fp,b<s.heap.objs.size)
    (hcl:∀x c,cl.lookup x=some c→(x,NameKind.free)∈scope.names∧X.env.cells.lookup x=some c) (Rq:∀x,(x,NameKind.free)∈scope.names→∃c,cl.lookup x=some c)
    (hn:h₁.Ns (s.heap.objs.size+1) m) (hs:Heap.SameBut (s.heap.objs.size+1) ((s.heap.push {cls:=.type "list", data:=.seq ([]:List Value).toArray}).push {cls:=.type "dict", data:=.dict #[]}) h₁) :
    Inv (bT X scope N cl fp s H (s.heap.objs.size+1)) [] (blk k σ fr) (upd H s.heap.objs.size (.lst [])) {s with heap:=h₁,toks:=tk}:=by
  have I3:=I.HJ (ys:=[]) (its:=[]) (t':=tk) .nil (K0 _)
  have hD:H s.heap.objs.size=none:=I.fresh
  have hC:H (s.heap.objs.size+1)=none:=I.hok.fresh (M5 _)
  have CN:∀b o,(s.heap.push {cls:=.type "list", data:=.seq ([]:List Value).toArray}).get? b=some o→b≠s.heap.objs.size+1:=λb o e=>by
    have:=Heap.lt_size e
    rw[Heap.size_push]at this
    exact C6 this
  have Vh:∀b o,(s.heap.push {cls:=.type "list", data:=.seq ([]:List Value).toArray}).get? b=some o→h₁.get? b=some o:=λb o e=>
    hs.extBut b o (CN b o e) (Heap.get?_push_of_some _ e)
  have kept:∀b o,s.heap.get? b=some o→h₁.get? b=some o:=λb o e=>Vh b o (Heap.get?_push_of_some _ e)
  refine⟨⟨I.ok.mod,B.kind,I.ok.glob,I.ok.blt,M5 _,λx y c h1 h2=>I.ok.inj x y c (hcl x c h1).2 (hcl y c h2).2,λx hx=>Rq x (wM B.cell hx),λx c h _=>(nomatch h),
      I.ok.hd,I.ok.frames,.inl rfl,λb hb=>⟨?_,λx c e=>(hf b hb).2.2.2.2.1 x c (hcl x c e).2⟩,λb o e=>I.bs b o e,F1 I.ok.Uv I.sz,λb o e hb=>?_,λb hb hb2=>?_,I.stack,I.Ek⟩,
    rfl,I.bare,Un.laid kept (A9 _) hD,⟨m,hn,λi x v h1 h2 h3=>?_⟩,λx c e=>?_,?_,λx c e=>?_,λp hp=>absurd (show p∈([]:List (Addr×Obj))from hp) (by simp),?_,?_⟩
  · exact C6 (F6 (hfo b hb))
  · rcases(hf b hb).2.2.2.1 with z | z
    · exact I.ok.Ju b o e z
    · exact absurd (C4 (Heap.lt_size e) (F1 I.ok.Uv z)) (F5 _)
  · rcases B6.mp (I.vV b hb2)with z | z
    · exact(hf b hb).2.1 z
    · exact(hf b hb).2.2.1 z
  · obtain⟨j,o,rfl,h4,h5⟩:=Rp h2
    have h1:N[k+j]?=some x:=h1
    have hj:j<fr.length:=(C3.mp h4).1
    have hx:X.N[o]?=some x:=by
      have q:=B.slots j (D9.mpr hj)
      rw[D5,h4]at q
      exact q.trans h1
    obtain⟨hfr,RG⟩:=B.from_ x (E9 (i:=j) (by rw[O4];exact h1))
    have hk:=B.free _ hfr rfl
    obtain⟨m0,hn0,hl0⟩:=I.loc
    have hv:MF X.env.scope x:=by
      rcases hk with q | q
      · exact .inr (.inl q)
      · exact .inr (.inr q)
    obtain⟨u,r,l⟩:=hl0 o x v hx h5 hv
    refine⟨u,r,.inr ?_⟩
    rcases l with ⟨q,_⟩ | ⟨_,c,e,z⟩
    · rcases hk with q' | q'
      · exact absurd (q.symm.trans q') (by intro z;cases z)
      · exact absurd (q.symm.trans q') (by intro z;cases z)
    · obtain⟨c',e'⟩:=Rq x hfr
      have e2:=(hcl x c' e').2
      rw[e]at e2
      cases e2
      refine⟨RG,c,e',?_⟩
      obtain⟨oc,hoc,hd⟩:=z
      exact⟨oc,kept c oc hoc,hd⟩
  · obtain⟨v,oc,hoc,hd⟩:=I.cell x c (hcl x c e).2
    exact⟨v,oc,kept c oc hoc,hd⟩
  · show upd H s.heap.objs.size (.lst []) (s.heap.objs.size+1)=none
    rw[aM (J2 (K9 _))]
    exact hC
  · have hc:=(hcl x c e).2
    obtain⟨v,oc,hoc,hd⟩:=I.cell x c hc
    show upd H s.heap.objs.size (.lst []) c=none
    rw[aM (C6 (Heap.lt_size hoc))]
    exact I.fY x c hc
  · exact lV.kept I3.hok Vh
  · show (blk k σ fr).length=N.length
    rw[B.len]
    unfold blk Ck
    simp
theorem zK{tg elt iter:Expr}{ifs:List Expr}{scope:Scope}{pos:Pos}{N:List Str}{k:Nat}{fr:List Nat}{g:TG}{tc:TT}{te:TE}{cl:List (Str×Addr)}{pins:List (Addr×Obj)}{σ:St}{H:Hp}{s:Shared}{it:Addr}{fp:List Addr}{tn:Nat→Heap→Prop}{J:It}{Q:VK}
    {RR:Value→Addr→Result→Shared→Prop} {E:Value→Shared→Prop} (hcalm:X.calm=true) (I:Inv X pins σ H s) (T:Turn X.prog X.w X.K tg J fp it tn) (st:tn 0 s.heap) (hf:∀b∈fp,vY X pins H b) (B:bV X.env.scope scope X.N N k fr)
    (hcl:∀x c,cl.lookup x=some c→(x,NameKind.free)∈scope.names∧X.env.cells.lookup x=some c) (Rq:∀x,(x,NameKind.free)∈scope.names→∃c,cl.lookup x=some c)
    (hg:∀cl fp s H C,PG (bT X scope N cl fp s H C) tg g) (hc:∀cl fp s H C,Xq (bT X scope N cl fp s H C) ifs tc) (he:∀cl fp s H C,PE (bT X scope N cl fp s H C) elt te)
    (hw:∀D,H D=none→Vg J k fr g tc te σ H Q D)
    (hRR:∀D C m s' H',s'.heap.Ns C m→s.heap.objs.size≤C→H' C=none→C≠D→Inv X pins σ H' s'→Q (.ref D) H'→RR (.ref D) C (.ok .next) s') :
    wpAny (model X.prog X.w) X.A (newList []) (λacc s₃=>wpAny (model X.prog X.w) X.A (newFunctionEnv scope X.env.globals cl [] X.env.qual none .none (some X.env)) (λcenv s₄=>
      codeAny (model X.prog X.w) X.A (.compStart (.ListComp elt [⟨tg,iter,ifs,0⟩] scope pos) 0 (.ref it) acc {cenv with scope:=relabel scope X.env}) (RR acc cenv.locals) s₄) E s₃) E s:=by
  refine wpAny_newObj_type (wpAny_newFunctionEnv B.cell (by intro y hy;simp at hy) (λh₁ hns₁ hsb₁=>?_) B.kind)
  dsimp only at hns₁ hsb₁ ⊢
  rw[Heap.size_push]at hns₁ hsb₁ ⊢
  have hfo:∀b∈fp,b<s.heap.objs.size:=λb hb=>by
    obtain⟨o,e,_⟩:=T.obj 0 _ st b hb
    exact Heap.lt_size e
  have I4:=Cm (tk:=s.toks+([]:List (Str×Value)).length) I B hf hfo hcl Rq hns₁ hsb₁
  generalize hD:s.heap.objs.size=D at *
  have ZP:H D=none:=by rw[←hD];exact I.fresh
  obtain⟨W,⟨m0,w0⟩,turn⟩:=hw D ZP
  have st1:tn 0 h₁:=T.keep 0 _ _ st λb hb o e=>hsb₁.extBut b o (C6 (F6 (by have:=hfo b hb;exact this))) (Heap.get?_push_of_some _ (Heap.get?_push_of_some _ e))
  have ZQ:∀b∈fp,(upd H D (.lst [])) b=none:=λb hb=>by
    rw[aM (C6 (hfo b hb))]
    exact(hf b hb).1
  generalize hX':bT X scope N cl fp s H (D+1)=X' at I4
  have stat:∀{H':Hp},(∀b∈fp,H' b=none)→∀b∈fp,vY X' [] H' b:=λ{H'} hn b hb=>by
    subst hX'
    refine⟨hn b hb,?_,λz=>?_,.inl hb,λx c e=>(hf b hb).2.2.2.2.1 x c (hcl x c e).2,λp hp=>absurd (show p∈([]:List (Addr×Obj))from hp) (by simp)⟩
    · exact C6 (F6 (hfo b hb))
    · rcases B6.mp (I.vV b z)with z | z
      · exact(hf b hb).2.1 z
      · exact(hf b hb).2.2.1 z
  have loop:∀s₃:Shared,s₃={s with heap:=h₁,toks:=s.toks+([]:List (Str×Value)).length} →
      codeAny (model X.prog X.w) X.A (.compLoop (.ListComp elt [⟨tg,iter,ifs,0⟩] scope pos) 0 (.ref it) (.ref D) (compEnvC scope cl (D+1) X.env)) (RR (.ref D) (D+1)) s₃:=by
    rintro s₃ rfl
    refine lE (λn s'=>∃i ys H',Inv X' [] (blk k σ fr) H' s'∧tn i s'.heap∧(∀b∈fp,H' b=none)∧W i n ys H') ?_ m0 ⟨0,[],_,I4,st1,ZQ,w0⟩
    rintro n s5 ⟨i,ys,H5,I5,st5,fr5,w5⟩
    obtain⟨hys,way⟩:=turn i n ys H5 w5
    have e1:X'.prog=X.prog:=by rw[←hX'];rfl
    have e2:X'.w=X.w:=by rw[←hX'];rfl
    have e3:X'.K=X.K:=by rw[←hX'];rfl
    have e4:X'.A=X.A:=by rw[←hX'];rfl
    have e5:X'.calm=true:=by rw[←hX'];exact hcalm
    have e6:X'.env=compEnvC scope cl (D+1) X.env:=by rw[←hX'];rfl
    have e7:X'.xe=λ_ _=>False:=by rw[←hX'];rfl
    rcases way with ⟨stop,q⟩ | ⟨go,step⟩
    · have d:=T.done X' e1 e2 e3 e5 i [] s5 _ H5 (λ_ _=>False) I5 (stat fr5) st5 stop
      rw[e4]at d
      refine cD d λr s6 ⟨hr,I6⟩=>?_
      subst hr
      subst hX'
      obtain⟨m6,ZR,_⟩:=I6.loc
      refine hRR D (D+1) m6 s6 H5 ZR (M5 _) I6.free (J2 (K9 _)) ?_ q
      exact I.call' I6.os I6.base I6.hok I6.bare λb hb=>⟨(hf b hb).2.2.2.1,(hf b hb).2.1,(hf b hb).2.2.2.2.1,(hf b hb).2.2.2.2.2⟩
    · have d:=T.item X' e1 e2 e3 e5 i [] s5 _ H5 (λ_ _=>False) I5 (stat fr5) st5 go
      rw[e4]at d
      refine cD d λr s6 ⟨u,hr,h6⟩=>?_
      subst hr
      refine cD h6 λ_ s7 ⟨x,H7,I7,r7,y7,st7,fr7⟩=>?_
      have ZV:=I7.pinned (stat fr7) (T.obj _ _ st7)
      have hg':PG X' tg g:=by rw[←hX'];exact hg _ _ _ _ _
      have hc':Xq X' ifs tc:=by rw[←hX'];exact hc _ _ _ _ _
      have he':PE X' elt te:=by rw[←hX'];exact he _ _ _ _ _
      have a1:=hg' _ s7 _ H7 x u _ ZV r7 (step x H7 y7)
      rw[e1,e2,e4,e6,e7]at a1
      refine cD a1 λ_ s8 ⟨σ8,H8,I8,⟨kl,kk⟩,q8⟩=>?_
      have a2:=hc' _ s8 σ8 H8 _ I8 q8
      rw[e1,e2,e4,e6,e7]at a2
      refine cD a2 λok s9 ⟨H9,I9,q9⟩=>?_
      have again:∀{Ha:Hp} {ya:List V} {sa:Shared},Inv X' ([]++qJ fp s7.heap) σ8 Ha sa→(∃m',m'<n∧W (i+1) m' ya Ha) →
          ∃m,m<n∧∃i ys H',Inv X' [] (blk k σ fr) H' sa∧tn i sa.heap∧(∀b∈fp,H' b=none)∧W i m ys H':=λ{Ha ya sa} Ia ⟨m',hm,w'⟩=>by
        refine⟨m',hm,i+1,ya,Ha,(Ia.weak kl.symm kk).iZ,T.keep _ _ _ st7 λb hb o e=>(Ia.pin (b,o) (C5 _ (C5 _ (gW hb e)))).1,λb hb=>?_,w'⟩
        obtain⟨o,e,d⟩:=T.obj _ _ st7 b hb
        exact(Ia.pin (b,o) (C5 _ (C5 _ (gW hb e)))).2.1
      cases ok with
      | false=>exact again I9 q9
      | true=>
        have a3:=he' _ s9 σ8 H9 _ I9 q9
        rw[e1,e2,e4,e6,e7]at a3
        show wpAny _ _ _ _ _ s9
        refine cD a3 λv ZW ⟨y,H10,I10,r10,hD10,hz,q10⟩=>?_
        have a4:=eO (X:=X') _ ZW σ8 H10 (.ref D) [y] (.ref D) [v] (λ_ WW=>WW=upd H10 D (.lst (ys++[y]))) I10 rfl (.cons r10 .nil) ⟨D,ys,y,rfl,rfl,hD10,hz,rfl⟩
        rw[e1,e2,e4,e7]at a4
        refine cD a4 λ_ lg ⟨_,WW,I11,_,e11⟩=>?_
        subst e11
        exact again I11 q10
  exact codeAny_compStart_list (loop _ rfl) (T.self _ 0 _ _ _ st1 (loop _ rfl))
theorem Rr{tg elt iter:Expr}{ifs:List Expr}{scope:Scope}{pos:Pos}{wi:TI}{g:TG}{tc:TT}{te:TE}(N:List Str)(k:Nat)(fr:List Nat)(hcalm:X.calm=true)(B:bV X.env.scope scope X.N N k fr)(hi:PI X tg iter wi)
  (hg:∀cl fp s H C,PG (bT X scope N cl fp s H C) tg g) (hc:∀cl fp s H C,Xq (bT X scope N cl fp s H C) ifs tc) (he:∀cl fp s H C,PE (bT X scope N cl fp s H C) elt te)
  (hs:∀x,foldedSetIterable iter X.env x=pure x:=by intro _;rfl):PE X (.ListComp elt [⟨tg,iter,ifs,0⟩] scope pos) (zJ wi k fr g tc te):=by
 intro pins s σ H Q I h
 obtain⟨cl,e,h1,h2⟩:=lN scope X.env λy hy hk=>I.ok.has y.1 (B.free y hy hk)
 rw[eval_ListComp]
 refine wpAny_comprehension_free (use:=none) rfl hs e B.kind B.loc (wpAny_mono (hi pins s σ H _ I h) (λxv s₁ q₁=>wpAny_mono q₁ (λitv s₂ q₂=>?_) λ_ _ x=>x) λ_ _ x=>x)
 obtain⟨it,fp,tn,J,H2,rfl,I2,T,st2,f2,hw⟩:=q₂
 refine zK (Q:=Q) (RR:=λacc C=>compPost (model X.prog X.w) X.A X.xe none (EP X pins σ Q) acc C) hcalm I2 T st2 f2 B h1 h2 hg hc he hw ?_
 intro D C m s' H' hn hC hf hne I' q
 refine⟨m,hn,λh' hs'=>⟨.ref D,H',?_,rfl,q⟩⟩
 exact I'.turned (t':=s'.toks) (λb o hb eb=>(hs'.2 b hb).trans eb) hf (J2 (C4 I2.lt hC)) (.inr (F1 I2.sz hC)) (λx c ec z=>by
  obtain⟨v,q⟩:=I2.cell x c ec
  exact absurd (C4 q.lt (by rw[z];exact hC)) (F5 _)) λp hp z=>absurd (C4 (Heap.lt_size (I2.pin p hp).1) (by rw[z];exact hC)) (F5 _)
theorem Ru{tg elt iter:Expr}{ifs:List Expr}{scope:Scope}{pos spos py:Pos}{y:Str}{i:Nat}{wi:TI}{g:TG}{tc:TT}{te:TE}(N:List Str)(k:Nat)(fr:List Nat)(hcalm:X.calm=true)(B:bV X.env.scope scope X.N N k fr)(hN:X.N.Nodup)(hy:X.N[i]?=some y)(hx:Loc X.env.scope y)(hi:PI X tg iter wi)
  (hg:∀cl fp s H C,PG (bT X scope N cl fp s H C) tg g) (hc:∀cl fp s H C,Xq (bT X scope N cl fp s H C) ifs tc) (he:∀cl fp s H C,PE (bT X scope N cl fp s H C) elt te)
  (hsw:swapsWith (.ListComp elt [⟨tg,iter,ifs,0⟩] scope pos) (some (.Name y py)) spos.line X.env=pure true:=by rfl)
  (hs:∀x,foldedSetIterable iter X.env x=pure x:=by intro _;rfl) (hf:X.fn y=true∨X.env.scope.names.lookup y=some .local:=by first | exact .inl rfl | exact .inr rfl | assumption) :
  PS X (.Assign [.Name y py] (.ListComp elt [⟨tg,iter,ifs,0⟩] scope pos) spos) (vX (zJ wi k fr g tc te) (bL i)):=by
 intro pins s σ H D I h
 obtain⟨cl,e,h1,h2⟩:=lN scope X.env λy hy hk=>I.ok.has y.1 (B.free y hy hk)
 rw[exec_Assign_Name_used _ _ _ _ hsw]
 refine wpAny_bind (wpAny_standAt (wpAny_bind ?_))
 show wpAny _ X.A (do let _ ←comprehension (.ListComp elt [⟨tg,iter,ifs,0⟩] scope pos) scope X.env _ (newList []) false (eval iter X.env) (some (assign (.Name y py) X.env))) _ _ s
 refine wpAny_bind (wpAny_mono (wpAny_comprehension_free (use:=some (assign (.Name y py) X.env)) (Q:=λ_ s'=>SP X pins D .next s') rfl hs e B.kind B.loc
  (wpAny_mono (hi pins s σ H _ I h) (λxv s₁ q₁=>wpAny_mono q₁ (λitv s₂ q₂=>?_) λ_ _ x=>x) λ_ _ x=>x)) (λ_ s' hq=>wpAny_pure (wpAny_pure hq)) λ_ _ x=>x)
 obtain⟨it,fp,tn,J,H2,rfl,I2,T,st2,f2,hw⟩:=q₂
 refine zK (Q:=λx H1=>bL i x σ H1 D.nx) (RR:=λacc C=>compPost (model X.prog X.w) X.A X.xe (some (assign (.Name y py) X.env)) (λ_ s'=>SP X pins D .next s') acc C) hcalm I2 T st2 f2 B h1 h2 hg hc he hw ?_
 intro E C m s' H' hn hC hfr hne I' q
 show wpAny _ X.A (assign (.Name y py) X.env (.ref E)) _ _ _
 have Qd:∀x c,X.env.cells.lookup x=some c→c≠C:=λx c ec z=>by
  obtain⟨v,q⟩:=I2.cell x c ec
  exact absurd (C4 q.lt (by rw[z];exact hC)) (F5 _)
 refine wpAny_assign_Name (uG I' hN hy hx (show RelV (.ref E) (.ref E)from rfl) (λs6 I6 ⟨a,hsb,ha⟩=>?_) hf)
 have ZX:C≠a:=by
  rcases ha with z | z
  ·rw[z];exact J2 (C4 I2.lt hC)
  ·exact λq=>Qd _ _ z q.symm
 refine⟨m,hn.sameBut hsb ZX,λh'' hs''=>⟨_,H',?_,q⟩⟩
 exact I6.turned (t':=s6.toks) (λb o hb eb=>(hs''.2 b hb).trans eb) hfr (J2 (C4 I2.lt hC)) (.inr (F1 I2.sz hC)) Qd
  λp hp z=>absurd (C4 (Heap.lt_size (I2.pin p hp).1) (by rw[z];exact hC)) (F5 _)
end
end L2


set_option maxHeartbeats 4000000
namespace L2
open PySem PySem.Spec PyProof.Rows
def Xr(J:It)(P:Hp→Prop)(xs:List V):Prop:=
 ∀i H,P H→(i<xs.length→J.go i H)∧(∀x H',J.DY i H x H'→H'=H∧(i<xs.length→xs[i]?=some x))∧(xs.length≤i→J.stop i H)
theorem Lf{K:aA}{a:Addr}{xs:List V}:Xr (QM K a) (λH=>eN K H a xs) xs:=λi H hq=>
 ⟨λh=>⟨xs,xs[i],hq,by simp[h]⟩,λx H' ⟨e,y⟩=>⟨e,λ_=>y xs hq⟩,λh=>⟨xs,hq,h⟩⟩
theorem Rw{K:aA}{a:Addr}{xs:List V}:Xr (QQ K a) (λH=>lC K H a xs) xs:=λi H hq=>
 ⟨λh=>⟨xs,xs[i],hq,by simp[h]⟩,λx H' ⟨e,y⟩=>⟨e,λ_=>y xs hq⟩,λh=>⟨xs,hq,h⟩⟩
theorem oF{lo:Int}{n:Nat}:Xr (EY lo n) (λ_=>True) ((D3 n).map λi:Nat=>V.int (lo+(i:Int))):=λi H _=>
 ⟨λh=>show i<n by simpa using h,λx H' ⟨e,y⟩=>⟨e,λh=>by
  have h:i<n:=by simpa using h
  subst y
  simp[h]⟩,λh=>show n≤i by simpa using h⟩
section
variable{X:Cx}
theorem mR{scope:Scope}{N:List Str}{x:Str}{pos:Pos}(hN:N.Nodup)(hi:N[0]?=some x)(hx:(cR scope X.env.scope).names.lookup x=some .local) :
  ∀cl fp s H C,PG (bT X scope N cl fp s H C) (.Name x pos) (bL 0):=λ_ _ _ _ _=>dZ hN hi (E7 hx) (E6 hx)
theorem Inv.freeze{pins:List (Addr×Obj)}{σ:St}{H:Hp}{s:Shared}{a:Addr}{u:HO}{o:Obj}(I:Inv X pins σ H s)(e:H a=some u)(mu:CG (H a))(ho:s.heap.get? a=some o):Inv X pins σ (upd H a (.fX o u)) s:=by
 have n0:∀b,H b=none→upd H a (.fX o u) b=none:=λb hb=>by rw[aM (Ne.symm (bM e hb))];exact hb
 refine⟨I.ok,I.os,I.bare,⟨I.base.keep,I.base.slot,λb ob h n hx=>n0 b (I.base.free b ob h n hx),I.base.there,λb xs h=>?_,λb ob w h=>?_,λb ps h=>?_⟩,I.loc,I.cell,n0 _ I.free,λx c h=>n0 _ (I.fY x c h),λp hp=>?_,?_,I.len⟩
 ·have q:=I.base.tups b xs h
  rw[aM (λz=>by rw[z,e]at q;rw[e]at mu;cases q;exact mu)]
  exact q
 ·have q:=I.base.tY b ob w h
  rw[aM (λz=>by rw[z,e]at q;rw[e]at mu;cases q;exact mu)]
  exact q
 ·obtain⟨more,q⟩:=I.base.vR b ps h
  exact⟨more,by rw[aM (λz=>by rw[z,e]at q;rw[e]at mu;cases q;exact mu)];exact q⟩
 ·obtain⟨h1,h2,h3⟩:=I.pin p hp
  exact⟨h1,n0 _ h2,h3⟩
 ·have Js:∀c y,H c=some (.own y)→c≠a:=λc y r z=>by rw[z,e]at r;rw[e]at mu;cases r;exact mu
  have Qj:∀c xs,H c=some (.tup xs)→c≠a:=λc xs r z=>by rw[z,e]at r;rw[e]at mu;cases r;exact mu
  intro b v q
  by_cases hb:b=a
  ·subst hb
   rw[aV]at q
   cases q
   exact⟨ho,(I.hok b u e).stay (λc v _ q=>q) (λc r=>by rw[aM (Js c b r)];exact r) λc xs r=>by rw[aM (Qj c xs r)];exact r⟩
  ·rw[aM hb]at q
   exact(I.hok b v q).stay (λc v _ q=>q) (λc r=>by rw[aM (Js c b r)];exact r) λc xs r=>by rw[aM (Qj c xs r)];exact r
def RJ(a:Addr)(o:Obj)(kvs:List (Key×V)):It:=
 ⟨λi H=>H a=some (.fX o (.dK kvs))∧i<kvs.length,λi H x H'=>H'=H∧(kvs[i]?).map (λkv=>kV kv.1)=some x,λi H=>H a=some (.fX o (.dK kvs))∧kvs.length≤i⟩
theorem Lg{a:Addr}{o:Obj}{kvs:List (Key×V)}:Xr (RJ a o kvs) (λH=>H a=some (.fX o (.dK kvs))) (kvs.map λkv=>kV kv.1):=λi H hq=>
 ⟨λh=>⟨hq,by simpa using h⟩,λx H' ⟨e,y⟩=>⟨e,λ_=>by rw[C8];exact y⟩,λh=>⟨hq,by simpa using h⟩⟩
theorem Ey{P:Program}{w:World}{k:Key}{v:Value}(h:(aX P w).is k v=true):RelV (kV k) v:=by
 rcases bD (k:=k) (v:=v) h with ⟨i,t,rfl,rfl⟩ | ⟨x,t,rfl,rfl⟩
 ·exact⟨t,rfl⟩
 ·exact⟨t,rfl⟩
theorem Ez{P:Program}{w:World}{o:Obj}{kvs:List (Key×Value)}{a:Addr}{h:Heap}(d:h.DictOf (aX P w) a kvs)(ho:h.get? a=some o):∃es ep,o.ExactDict∧o.data=.dict es ep∧KeysOf (aX P w) es∧Pairs (aX P w) es.toList kvs∧(kvs.map (·.1)).Nodup:=by
 obtain⟨o',es,ep,ho',r⟩:=d
 rw[ho]at ho'
 cases ho'
 exact⟨es,ep,r⟩
theorem Ib{P:Program}{w:World}{K:aA}{tg:Expr}(a it:Addr)(o:Obj)(kvs:List (Key×V))(ep:Nat)(WX:∃es,o.data=.dict es ep)(hne:a≠it) :
  Turn P w K tg (RJ a o kvs) [it] it (λi h=>h.IsKeyIter it a i kvs.length ep) where
 mem:=by simp
 obj:=λi h st b hb=>by
  have e:b=it:=by simpa using hb
  subst e
  obtain⟨ob,ho,hc,hd⟩:=st
  exact⟨ob,ho,λv z=>by rw[hd]at z;cases z⟩
 keep:=λi h h' st k=>by
  obtain⟨ob,ho,r⟩:=st
  exact⟨ob,k it (by simp) _ ho,r⟩
 item:=by
  intro X hP hw hK hc i pins s σ H E I hf st hg
  subst hP hw hK
  obtain⟨f0,f1,f2,f3,f4,f5⟩:=hf it (by simp)
  obtain⟨hq,hlt⟩:=hg
  obtain⟨ho,hz,hsm,vs,rel,dd⟩:=I.hok a _ hq
  obtain⟨es,ep',r1,r2,r3,r4,r5⟩:=Ez dd ho
  obtain⟨ZZ,e0⟩:=WX
  rw[e0]at r2
  cases r2
  have hl:=KV.length rel
  have dat:s.heap.DictAt (aX X.prog X.w) a vs ep:=⟨o,_,ho,r1,e0,r3,r4,r5⟩
  obtain⟨⟨k,x⟩,hx⟩:∃p,vs[i]?=some p:=⟨vs[i]'(by omega),by simp⟩
  refine wpAny_pyNext_dict_item (by rw[←hl];exact st) dat hx λkey h' hkey hit' hs'=>?_
  have I1:Inv X pins σ H {s with heap:=h',toks:=s.toks}:=I.turned (λb o hb e=>(hs'.2 b hb).trans e) f0 f1 f3 f4 f5
  have hit2:=hit'
  obtain⟨ob,hob,hcl,hdt⟩:=hit2
  refine⟨_,rfl,Em (s:={s with heap:=h',toks:=s.toks}) (n := "dict_keyiterator") hob hcl hdt (by decide) ⟨kV k,H,I1,Ey hkey,⟨rfl,?_⟩,by rw[hl];exact hit',λb hb=>(hf b hb).1⟩⟩
  have ek:=KV.keys rel
  have e1:(kvs.map (·.1))[i]?=(vs.map (·.1))[i]?:=by rw[ek]
  rw[C8,C8,hx]at e1
  cases e2:kvs[i]? with
  | none=>rw[e2]at e1;cases e1
  | some p=>
   rw[e2]at e1
   have e3:p.1=k:=E4 e1
   show some (kV p.1)=some (kV k)
   rw[e3]
 done:=by
  intro X hP hw hK hc i pins s σ H E I hf st hg
  subst hP hw hK
  obtain⟨f0,f1,f2,f3,f4,f5⟩:=hf it (by simp)
  obtain⟨hq,hle⟩:=hg
  obtain⟨ho,hz,hsm,vs,rel,dd⟩:=I.hok a _ hq
  obtain⟨es,ep',r1,r2,r3,r4,r5⟩:=Ez dd ho
  obtain⟨ZZ,e0⟩:=WX
  rw[e0]at r2
  cases r2
  have hl:=KV.length rel
  have dat:s.heap.DictAt (aX X.prog X.w) a vs ep:=⟨o,_,ho,r1,e0,r3,r4,r5⟩
  refine wpAny_pyNext_dict_end (I.ok.hd hc) (by rw[←hl];exact st) dat (by simp;omega) λh' he'=>⟨rfl,I.turned (t':=s.toks) (λb o hb e=>he' b o hb e) f0 f1 f3 f4 f5⟩
 self:=λ_ _ _ _ _ st h=>wpAny_pyIter_keyiter st h
def Lh(tl:TE):TI:=λσ H R=>tl σ H λx H1=>∃a kvs,x=.ref a∧H1 a=some (.dK kvs)∧∀o,R (RJ a o kvs) (upd H1 a (.fX o (.dK kvs)))
theorem Rx{tg l:Expr}{tl:TE}(hl:PE X l tl):PI X tg l (Lh tl):=by
 intro pins s σ H R I h
 refine cD (hl pins s σ H _ I h) λv s1 ⟨x,H1,I1,r1,q1⟩=>?_
 obtain⟨a,kvs,rfl,hq,q⟩:=q1
 cases r1
 obtain⟨hz,hsm,vs,rel,dd⟩:=I1.hok a _ hq
 obtain⟨ep,hat⟩:=dd.dictAt
 obtain⟨o,es,ho,r1,r2,r3⟩:=id hat
 have I2:=I1.freeze hq (by rw[hq];exact trivial) ho
 refine wpAny_pyIter_dict hsm hat ?_
 have hne:a≠s1.heap.objs.size:=C6 (Heap.lt_size ho)
 refine⟨s1.heap.objs.size,[s1.heap.objs.size],_,_,_,rfl,I2.kept (t':=s1.toks) λb o e=>Heap.get?_push_of_some _ e,Ib a _ o kvs ep ⟨es,r2⟩ hne,⟨_,Heap.get?_push_size _ rfl,rfl,by rw[KV.length rel];rfl⟩,λb hb=>?_,q o⟩
 have e:b=s1.heap.objs.size:=by simpa using hb
 subst e
 exact I2.Ka (A9 _) (I2.hok.fresh (A9 _))
theorem wN{J:It}{P:Hp→Prop}{xs:List V}(hJ:Xr J P xs){g:TG}{tb:TS}{D:Ends}{σ:St}{H:Hp}(Pv:Nat→St→Hp→Prop)(h0:Pv 0 σ H)(hl:∀i σ H,i≤xs.length→Pv i σ H→P H)
  (hs:∀i x σ H,xs[i]?=some x→Pv i σ H→g x σ H λσ2 H2=>tb {D with nx:=Pv (i+1),ct:=Pv (i+1),bk:=D.nx} σ2 H2) (hd:∀σ H,Pv xs.length σ H→D.nx σ H) :
  ∃W:Nat→Nat→St→Hp→Prop,(∃m,W 0 m σ H)∧∀i m σ H,W i m σ H →
   (J.stop i H∧D.nx σ H)∨(J.go i H∧∃N:St→Hp→Prop,(∀σ' H',N σ' H'→∃m',m'<m∧W (i+1) m' σ' H')∧∀x H',J.DY i H x H'→g x σ H' λσ2 H2=>tb {D with nx:=N,ct:=N,bk:=D.nx} σ2 H2):=by
 refine⟨λi m σ H=>m=xs.length-i∧i≤xs.length∧Pv i σ H,⟨xs.length,by simp,K0 _,h0⟩,?_⟩
 rintro i m σ H ⟨rfl,hi,p⟩
 obtain⟨j1,j2,j3⟩:=hJ i H (hl i σ H hi p)
 by_cases hlt:i<xs.length
 ·refine .inr ⟨j1 hlt,Pv (i+1),λσ' H' p'=>⟨xs.length-(i+1),by omega,rfl,hlt,p'⟩,λx H' y=>?_⟩
  obtain⟨e,ex⟩:=j2 x H' y
  subst e
  exact hs i x σ _ (ex hlt) p
 ·have e:i=xs.length:=by omega
  subst e
  exact .inl ⟨j3 (A9 _),hd σ H p⟩
end
end L2


namespace L2
open PySem PySem.Spec PyProof.Rows
section
variable{X:Cx}
theorem jC:∀{bs:List Bool} {us:List Value},Vals (bs.map V.bl) us→us=bs.map Value.bool
 | [],us,r=>by rw[E2]at r;cases r;rfl
 | b::bs,us,r=>by
  rw[B8]at r
  cases r with
  | cons r1 r2=>
   cases(show _=Value.bool b from r1)
   rw[jC r2]
   rfl
theorem Cp(bs:List Bool):((D3 bs.length).all λi=>(bs[i]?).getD true)=bs.all id:=by
 rw[F7,G9,G9]
 constructor
 ·intro h b hb
  obtain⟨i,hi,rfl⟩:=J6 hb
  have:=h i (D9.mpr hi)
  simpa[hi]using this
 ·intro h i hi
  have hi':=D9.mp hi
  simp only[B3 hi',M4]
  exact h _ (L0 hi')
theorem Cq(bs:List Bool):((D3 bs.length).any λi=>(bs[i]?).getD false)=bs.any id:=by
 rw[F7,J7,J7]
 constructor
 ·rintro⟨i,hi,e⟩
  have hi':=D9.mp hi
  simp only[B3 hi',M4]at e
  exact⟨_,L0 hi',e⟩
 ·rintro⟨b,hb,e⟩
  obtain⟨i,hi,rfl⟩:=J6 hb
  exact⟨i,D9.mpr hi,by simp only[B3 hi,M4];exact e⟩
theorem wO{s:Shared}{h':Heap}{o:Obj}(hk:∀b x,b∉[s.heap.objs.size]→(s.heap.push o).get? b=some x→h'.get? b=some x):∀b x,s.heap.get? b=some x→h'.get? b=some x:=
 λb x e=>hk b x (λhm=>by rw[B9.mp hm]at e;exact F5 _ (Heap.lt_size e)) (Heap.get?_push_of_some _ e)
theorem Li(hc:X.calm=true):dY X (.builtin "all") (λxs H Q=>∃(p:Addr)(bs:List Bool),xs=[.ref p]∧eN X.K H p (bs.map V.bl)∧Q (.bl (bs.all id)) H):=by
 intro pins s σ H xs us Q I r h
 obtain⟨p,bs,rfl,hq,q⟩:=h
 obtain⟨u,rfl,rx⟩:=vals1 r
 cases rx
 obtain⟨its,rv,pl,hz⟩:=I.list hq
 have hb:=jC rv
 subst hb
 have hl:=pl.isList
 have hlt:p<s.heap.objs.size:=by obtain⟨_,e,_⟩:=hl;exact Heap.lt_size e
 refine call_all_walk (wpAny_pyIter_list hl ?_)
 refine⟨s.heap.objs.size,[s.heap.objs.size,p],[s.heap.objs.size],_,_,_,λi=>(bs[i]?).getD true,rfl,Walks.list (A:=X.A.in1) (I.ok.hd hc) _ p (C6 hlt) _,
  ⟨⟨_,Heap.get?_push_size _ rfl,rfl,rfl⟩,hl.push _⟩,λi v s' Q' E' hP hQ=>?_,λh' tk hk=>?_⟩
 ·have e:(bs.map Value.bool)[i]?=some v:=by simpa using hP
  rw[C8]at e
  cases e2:bs[i]? with
  | none=>rw[e2]at e;cases e
  | some b=>
   rw[e2]at e
   cases e
   simp only[e2,M4]at hQ
   exact wpAny_truthy_bool hQ
 ·have e:((D3 (bs.map Value.bool).toArray.size).all λi=>(bs[i]?).getD true)=bs.all id:=by
   rw[B5,B0];exact Cp bs
  rw[e]
  exact⟨.bl _,H,I.kept (wO hk),rfl,q⟩
theorem Lj(hc:X.calm=true):dY X (.builtin "any") (λxs H Q=>∃(p:Addr)(bs:List Bool),xs=[.ref p]∧eN X.K H p (bs.map V.bl)∧Q (.bl (bs.any id)) H):=by
 intro pins s σ H xs us Q I r h
 obtain⟨p,bs,rfl,hq,q⟩:=h
 obtain⟨u,rfl,rx⟩:=vals1 r
 cases rx
 obtain⟨its,rv,pl,hz⟩:=I.list hq
 have hb:=jC rv
 subst hb
 have hl:=pl.isList
 have hlt:p<s.heap.objs.size:=by obtain⟨_,e,_⟩:=hl;exact Heap.lt_size e
 refine call_any_walk (wpAny_pyIter_list hl ?_)
 refine⟨s.heap.objs.size,[s.heap.objs.size,p],[s.heap.objs.size],_,_,_,λi=>(bs[i]?).getD false,rfl,Walks.list (A:=X.A.in1) (I.ok.hd hc) _ p (C6 hlt) _,
  ⟨⟨_,Heap.get?_push_size _ rfl,rfl,rfl⟩,hl.push _⟩,λi v s' Q' E' hP hQ=>?_,λh' tk hk=>?_⟩
 ·have e:(bs.map Value.bool)[i]?=some v:=by simpa using hP
  rw[C8]at e
  cases e2:bs[i]? with
  | none=>rw[e2]at e;cases e
  | some b=>
   rw[e2]at e
   cases e
   simp only[e2,M4]at hQ
   exact wpAny_truthy_bool hQ
 ·have e:((D3 (bs.map Value.bool).toArray.size).any λi=>(bs[i]?).getD false)=bs.any id:=by
   rw[B5,B0];exact Cq bs
  rw[e]
  exact⟨.bl _,H,I.kept (wO hk),rfl,q⟩
theorem uP{P:Program}{w:World}{kvs:List (Key×V)}{vs:List (Key×Value)}(rel:KV kvs vs){us:List Value}(hl:us.length=vs.length)(hv:∀(j:Nat)(v:Value),us[j]?=some v→∃k x,vs[j]?=some (k,x)∧(aX P w).is k v=true) :
  Vals (kvs.map λkv=>kV kv.1) us:=by
 have ek:=KV.keys rel
 have e0:(kvs.map λkv=>kV kv.1)=(vs.map (·.1)).map kV:=by rw[←ek,K1];rfl
 rw[e0]
 clear e0 ek rel
 induction vs generalizing us with
 | nil=>
  cases us with
  | nil=>exact .nil
  | cons _ _=>simp at hl
 | cons p r ih=>
  cases us with
  | nil=>simp at hl
  | cons u us=>
   refine .cons ?_ (ih (by simpa using hl) λj v e=>by simpa using hv (j+1) v (by simpa using e))
   obtain⟨k,x,e,h⟩:=hv 0 u rfl
   simp at e
   subst e
   exact Ey h
theorem qT(hc:X.calm=true):dY X (.type "list") (λxs H Q=>∃p kvs,xs=[.ref p]∧Rd H p (.dK kvs)∧∀l,H l=none→Q (.ref l) (upd H l (.lst (kvs.map λkv=>kV kv.1)))):=by
 intro pins s σ H xs us Q I r h
 obtain⟨p,kvs,rfl,hq,q⟩:=h
 obtain⟨u,rfl,rx⟩:=vals1 r
 cases rx
 obtain⟨hz,hsm,vs,rel,dd⟩:=zG I.hok hq
 obtain⟨ep,hat⟩:=dd.dictAt
 have hl:=KV.length rel
 refine PySem.W.kdl_call (V0 (knd:=aX X.prog X.w) (kvs:=vs) (ep:=ep) hsm) (I.ok.hd hc) hat (by omega) ?_
 intro h' tk acc c kp e hacc
 have hk:=uP (P:=X.prog) (w:=X.w) rel (us:=acc.toList) (by rw[C9];exact hacc.1) λj v ej=>hacc.2 j v (by rw[←F2];exact ej)
 exact⟨.ref s.heap.objs.size,_,I.laid (t':=tk) kp (A9 _) (show cG X.prog X.w _ h' _ (.lst (kvs.map λkv=>kV kv.1))from⟨by rw[B0];exact hz,acc.toList,c,hk,by simpa using e⟩),rfl,q _ (I.hok.fresh (A9 _))⟩
def rising(ns ms:List Int):Prop:=ms.Perm ns∧ms.Pairwise (·≤·)
end
inductive DV where
  | int (i:Int) | non | lst (ds:List DV) | tup (ds:List DV)
mutual
def Reads(K:aA)(H:Hp):DV→V→Prop
 | .int i,x=>x=.int i
 | .non,x=>x=.non
 | .lst ds,x=>∃a xs,x=.ref a∧eN K H a xs∧aZ K H ds xs
 | .tup ds,x=>∃a xs,x=.ref a∧lC K H a xs∧aZ K H ds xs
def aZ(K:aA)(H:Hp):List DV→List V→Prop
 | [],xs=>xs=[]
 | d::ds,xs=>∃y ys,xs=y::ys∧Reads K H d y∧aZ K H ds ys
end
mutual
def DV.depth:DV→Nat
 | .int _=>0
 | .non=>0
 | .lst ds=>bF ds+1
 | .tup ds=>bF ds+1
def bF:List DV→Nat
 | []=>0
 | d::ds=>max d.depth (bF ds)
end
theorem aZ.length{K:aA}{H:Hp}:∀{ds:List DV} {xs:List V},aZ K H ds xs→xs.length=ds.length
 | [],xs,h=>by
  unfold aZ at h
  rw[h]
  rfl
 | d::ds,xs,h=>by
  unfold aZ at h
  obtain⟨y,ys,rfl,_,h2⟩:=h
  simp[aZ.length h2]
theorem aZ.get{K:aA}{H:Hp}:∀{ds:List DV} {xs:List V} {i:Nat} {d:DV},aZ K H ds xs→ds[i]?=some d→∃x,xs[i]?=some x∧Reads K H d x
 | [],xs,i,d,h,e=>by simp at e
 | d'::ds,xs,0,d,h,e=>by
  unfold aZ at h
  obtain⟨y,ys,rfl,h1,_⟩:=h
  simp at e
  subst e
  exact⟨y,rfl,h1⟩
 | d'::ds,xs,i+1,d,h,e=>by
  unfold aZ at h
  obtain⟨y,ys,rfl,_,h2⟩:=h
  obtain⟨x,e1,e2⟩:=aZ.get h2 (by simpa using e)
  exact⟨x,by simpa using e1,e2⟩
theorem qU:∀{ds:List DV} {i:Nat} {d:DV},ds[i]?=some d→d.depth≤bF ds
 | [],i,d,e=>by simp at e
 | d'::ds,0,d,e=>by
  simp at e
  subst e
  unfold bF
  exact Nat.le_max_left _ _
 | d'::ds,i+1,d,e=>by
  have:=qU (ds:=ds) (i:=i) (d:=d) (by simpa using e)
  unfold bF
  exact F1 this (Nat.le_max_right _ _)
theorem Cr(A:Around):A.in1.units=A.units+1:=rfl
section
open SeqAt
open Classical in
noncomputable def jD(d e:DV):Bool:=decide (d=e)
theorem gB{d e:DV}:jD d e=true↔d=e:=by unfold jD;simp
theorem jE(d:DV):jD d d=true:=gB.mpr rfl
theorem bN{d e:DV}(h:d≠e):jD d e=false:=by unfold jD;simp[h]
theorem Ry(a b:Int):jD (.int a) (.int b)=(a==b):=by
 by_cases h:a=b
 ·subst h;simp[jE]
 ·rw[bN (by simpa using h)];simp[h]
open Classical in
theorem dI{ds es:List DV}(hl:ds.length=es.length):((D3 ds.length).all λi=>match ds[i]?,es[i]? with | some d,some e=>jD d e | _,_=>true)=decide (ds=es):=by
 rw[F7,G9,decide_eq_true_iff]
 constructor
 ·intro h
  apply P8 hl
  intro i h1 h2
  have:=h i (D9.mpr h1)
  simp only[B3 h1,B3 h2]at this
  exact gB.mp this
 ·rintro rfl i hi
  have hi':=D9.mp hi
  simp only[B3 hi']
  exact jE _
variable{X:Cx}{pins:List (Addr×Obj)}{σ:St}{H:Hp}{s:Shared}
open Classical in
theorem Fb(ds es:List DV):jD (.lst ds) (.lst es)=decide (ds=es):=by
 by_cases h:ds=es
 ·subst h;simp[jE]
 ·rw[bN (by intro z;cases z;exact h rfl)];simp[h]
open Classical in
theorem Fd(ds es:List DV):jD (.tup ds) (.tup es)=decide (ds=es):=by
 by_cases h:ds=es
 ·subst h;simp[jE]
 ·rw[bN (by intro z;cases z;exact h rfl)];simp[h]
theorem uQ(I:Inv X pins σ H s):∀(n:Nat)(d e:DV)(x:V),d.depth≤n→Reads X.K H d x→Reads X.K H e x→d=e:=by
 have lists:∀(n:Nat),(∀(d e:DV)(x:V),d.depth≤n→Reads X.K H d x→Reads X.K H e x→d=e)→∀(ds es:List DV)(xs:List V),bF ds≤n→aZ X.K H ds xs→aZ X.K H es xs→ds=es:=by
  intro n ih ds
  induction ds with
  | nil=>
   intro es xs _ h1 h2
   have l1:=h1.length
   have l2:=h2.length
   cases es with
   | nil=>rfl
   | cons _ _=>rw[l1]at l2;simp at l2
  | cons d ds ihl=>
   intro es xs hd h1 h2
   have hd1:d.depth≤n:=by unfold bF at hd;omega
   have hd2:bF ds≤n:=by unfold bF at hd;omega
   unfold aZ at h1
   obtain⟨y,ys,rfl,a1,a2⟩:=h1
   cases es with
   | nil=>have:=h2.length;simp at this
   | cons e es=>
    unfold aZ at h2
    obtain⟨y',ys',q,b1,b2⟩:=h2
    cases q
    rw[ih d e y hd1 a1 b1,ihl es ys hd2 a2 b2]
 have kinds:∀{a:Addr} {xs ys:List V},eN X.K H a xs→lC X.K H a ys→False:=λ{a xs ys} h1 h2=>by
  obtain⟨_,_,p1,_⟩:=I.list h1
  obtain⟨_,_,p2,_⟩:=I.tuple h2
  exact ne_of_list_tuple p1.isList (show s.heap.IsTuple a _ from p2) rfl
 intro n
 induction n with
 | zero=>
  intro d e x hd h1 h2
  cases d with
  | int i=>
   unfold Reads at h1
   subst h1
   cases e with
   | int j=>unfold Reads at h2;cases h2;rfl
   | non=>unfold Reads at h2;cases h2
   | lst es=>unfold Reads at h2;obtain⟨_,_,q,_⟩:=h2;cases q
   | tup es=>unfold Reads at h2;obtain⟨_,_,q,_⟩:=h2;cases q
  | non=>
   unfold Reads at h1
   subst h1
   cases e with
   | non=>rfl
   | int j=>unfold Reads at h2;cases h2
   | lst es=>unfold Reads at h2;obtain⟨_,_,q,_⟩:=h2;cases q
   | tup es=>unfold Reads at h2;obtain⟨_,_,q,_⟩:=h2;cases q
  | lst ds=>unfold DV.depth at hd;omega
  | tup ds=>unfold DV.depth at hd;omega
 | succ n ih=>
  intro d e x hd h1 h2
  cases d with
  | int i=>
   unfold Reads at h1
   subst h1
   cases e with
   | int j=>unfold Reads at h2;cases h2;rfl
   | non=>unfold Reads at h2;cases h2
   | lst es=>unfold Reads at h2;obtain⟨_,_,q,_⟩:=h2;cases q
   | tup es=>unfold Reads at h2;obtain⟨_,_,q,_⟩:=h2;cases q
  | non=>
   unfold Reads at h1
   subst h1
   cases e with
   | non=>rfl
   | int j=>unfold Reads at h2;cases h2
   | lst es=>unfold Reads at h2;obtain⟨_,_,q,_⟩:=h2;cases q
   | tup es=>unfold Reads at h2;obtain⟨_,_,q,_⟩:=h2;cases q
  | lst ds=>
   unfold Reads at h1
   obtain⟨a,xs,rfl,hq,r⟩:=h1
   cases e with
   | int j=>unfold Reads at h2;cases h2
   | non=>unfold Reads at h2;cases h2
   | lst es=>
    unfold Reads at h2
    obtain⟨b,ys,q,hq2,r2⟩:=h2
    cases q
    have:=I.qI hq hq2
    subst this
    rw[lists n ih ds es xs (by unfold DV.depth at hd;omega) r r2]
   | tup es=>
    unfold Reads at h2
    obtain⟨b,ys,q,hq2,r2⟩:=h2
    cases q
    exact(kinds hq hq2).elim
  | tup ds=>
   unfold Reads at h1
   obtain⟨a,xs,rfl,hq,r⟩:=h1
   cases e with
   | int j=>unfold Reads at h2;cases h2
   | non=>unfold Reads at h2;cases h2
   | lst es=>
    unfold Reads at h2
    obtain⟨b,ys,q,hq2,r2⟩:=h2
    cases q
    exact(kinds hq2 hq).elim
   | tup es=>
    unfold Reads at h2
    obtain⟨b,ys,q,hq2,r2⟩:=h2
    cases q
    have:=I.uH hq hq2
    subst this
    rw[lists n ih ds es xs (by unfold DV.depth at hd;omega) r r2]
theorem Lk(I:Inv X pins σ H s)(i:Int)(e:DV)(y:V)(u v:Value)(A:Around)(hu:A.units<cLine)(r2:Reads X.K H e y)(rx:RelV (.int i) u)(ry:RelV y v):RcAt A s u v (jD (.int i) e)∧EqAt A s u v (jD (.int i) e):=by
 obtain⟨t,rfl⟩:=rx
 cases e with
 | int j=>
  unfold Reads at r2
  subst r2
  obtain⟨t',rfl⟩:=ry
  rw[Ry]
  exact⟨RcAt.int_int _ _ _ _,EqAt.int_int _ _ _ _⟩
 | non=>
  unfold Reads at r2
  subst r2
  cases ry
  rw[bN (by intro z;cases z)]
  exact⟨RcAt.int_none _ _,EqAt.int_none _ _⟩
 | lst es=>
  unfold Reads at r2
  obtain⟨b,ys,rfl,hq,_⟩:=r2
  cases ry
  obtain⟨its,_,pl,_⟩:=I.list hq
  rw[bN (by intro z;cases z)]
  exact⟨RcAt.int_list _ _ pl.isList (hu),EqAt.int_list _ _ pl.isList (hu)⟩
 | tup es=>
  unfold Reads at r2
  obtain⟨b,ys,rfl,hq,_⟩:=r2
  cases ry
  obtain⟨its,_,pl,_⟩:=I.tuple hq
  rw[bN (by intro z;cases z)]
  exact⟨RcAt.int_tuple _ _ pl (hu),EqAt.int_tuple _ _ pl (hu)⟩
theorem Ln(I:Inv X pins σ H s)(e:DV)(y:V)(u v:Value)(A:Around)(hu:A.units<cLine)(r2:Reads X.K H e y)(rx:RelV .non u)(ry:RelV y v):RcAt A s u v (jD .non e)∧EqAt A s u v (jD .non e):=by
 cases rx
 cases e with
 | non=>
  unfold Reads at r2
  subst r2
  cases ry
  rw[jE]
  exact⟨RcAt.none_none,EqAt.same _⟩
 | int j=>
  unfold Reads at r2
  subst r2
  obtain⟨t',rfl⟩:=ry
  rw[bN (by intro z;cases z)]
  exact⟨RcAt.none_int _ _,EqAt.none_int _ _⟩
 | lst es=>
  unfold Reads at r2
  obtain⟨b,ys,rfl,hq,_⟩:=r2
  cases ry
  obtain⟨its,_,pl,_⟩:=I.list hq
  rw[bN (by intro z;cases z)]
  exact⟨RcAt.none_list pl.isList hu,EqAt.none_list pl.isList hu⟩
 | tup es=>
  unfold Reads at r2
  obtain⟨b,ys,rfl,hq,_⟩:=r2
  cases ry
  obtain⟨its,_,pl,_⟩:=I.tuple hq
  rw[bN (by intro z;cases z)]
  exact⟨RcAt.none_tuple pl hu,EqAt.none_tuple pl hu⟩
theorem qW(I:Inv X pins σ H s):∀(n:Nat)(A:Around),(∀(d e:DV)(x y:V)(u v:Value)(A:Around),d.depth≤n→A.units+n<cLine→Reads X.K H d x→Reads X.K H e y→RelV x u→RelV y v→RcAt A s u v (jD d e)∧EqAt A s u v (jD d e)) →
  ∀(ds es:List DV)(xs ys:List V)(us vs:List Value),bF ds≤n→A.units+(n+1)<cLine→aZ X.K H ds xs→aZ X.K H es ys→Vals xs us→Vals ys vs →
  ∀j (h1:j<us.toArray.size) (h2:j<vs.toArray.size),EqAt A.in1 s us.toArray[j] vs.toArray[j] (match ds[j]?,es[j]? with | some d,some e=>jD d e | _,_=>true):=by
 intro n A ih ds es xs ys us vs hd hu r1 r2 v1 v2 j h1 h2
 have l1:j<ds.length:=by rw[←r1.length,v1.length];simpa using h1
 have l2:j<es.length:=by rw[←r2.length,v2.length];simpa using h2
 obtain⟨x,ex,rx⟩:=r1.get (i:=j) (d:=ds[j]) (by simp)
 obtain⟨y,ey,ry⟩:=r2.get (i:=j) (d:=es[j]) (by simp)
 obtain⟨u,eu,ru⟩:=v1.get ex
 obtain⟨v,ev,rv⟩:=v2.get ey
 have e1:us.toArray[j]=u:=by
  rw[C3]at eu
  obtain⟨_,eu⟩:=eu
  simpa using eu
 have e2:vs.toArray[j]=v:=by
  rw[C3]at ev
  obtain⟨_,ev⟩:=ev
  simpa using ev
 rw[e1,e2]
 simp only[B3 l1,B3 l2]
 exact(ih _ _ x y u v A.in1 (F1 (qU (i:=j) (by simp)) hd) (by rw[Cr];omega) rx ry ru rv).2
theorem wQ(I:Inv X pins σ H s):∀(n:Nat)(d e:DV)(x y:V)(u v:Value)(A:Around),d.depth≤n→A.units+n<cLine→Reads X.K H d x→Reads X.K H e y→RelV x u→RelV y v→RcAt A s u v (jD d e)∧EqAt A s u v (jD d e):=by
 have items:=qW I
 have seqs:∀(n:Nat)(A:Around),(∀(d e:DV)(x y:V)(u v:Value)(A:Around),d.depth≤n→A.units+n<cLine→Reads X.K H d x→Reads X.K H e y→RelV x u→RelV y v→RcAt A s u v (jD d e)∧EqAt A s u v (jD d e)) →
   ∀(d e:DV)(x y:V)(u v:Value),d.depth≤n+1→A.units+(n+1)<cLine→Reads X.K H d x→Reads X.K H e y→RelV x u→RelV y v→RcAt A s u v (jD d e)∧EqAt A s u v (jD d e):=by
  intro n A ih d e x y u v hd hu r1 r2 rx ry
  have of_same:∀{a b:Addr} {k:Bool},(a=b→k=true)→RcAt A s (.ref a) (.ref b) k→EqAt A s (.ref a) (.ref b) k:=λ{a b k} hk h=>by
   by_cases hab:a=b
   ·subst hab
    rw[hk rfl]
    exact EqAt.same _
   ·exact EqAt.of_refs hab h
  cases d with
  | int i=>
   unfold Reads at r1
   subst r1
   exact Lk I i e y u v A (by omega) r2 rx ry
  | non=>
   unfold Reads at r1
   subst r1
   exact Ln I e y u v A (by omega) r2 rx ry
  | lst ds=>
   unfold Reads at r1
   obtain⟨a,xs,rfl,hq1,Ie⟩:=r1
   cases rx
   obtain⟨qX,v1,uB,_⟩:=I.list hq1
   have hd':bF ds≤n:=by unfold DV.depth at hd;omega
   cases e with
   | int j=>
    unfold Reads at r2
    subst r2
    obtain⟨t',rfl⟩:=ry
    rw[bN (by intro z;cases z)]
    exact⟨RcAt.list_int _ _ uB.isList (by omega),EqAt.list_int _ _ uB.isList (by omega)⟩
   | non=>
    unfold Reads at r2
    subst r2
    cases ry
    rw[bN (by intro z;cases z)]
    exact⟨RcAt.list_none uB.isList (by omega),EqAt.list_none uB.isList (by omega)⟩
   | lst es=>
    unfold Reads at r2
    obtain⟨b,ys,rfl,hq2,Cu⟩:=r2
    cases ry
    obtain⟨its2,v2,wR,_⟩:=I.list hq2
    have e1:qX.toArray.size=ds.length:=by rw[B5,←v1.length,Ie.length]
    have e2:its2.toArray.size=es.length:=by rw[B5,←v2.length,Cu.length]
    have rc:RcAt A s (.ref a) (.ref b) (jD (.lst ds) (.lst es)):=by
     by_cases hl:ds.length=es.length
     ·have q:=RcAt.lists (A:=A) (s:=s) uB.isList wR.isList (by rw[e1,e2];exact hl) (by omega) (items n A ih ds es xs ys qX its2 hd' hu Ie Cu v1 v2)
      rw[e1,dI hl]at q
      rw[Fb]
      exact q
     ·rw[bN (by intro z;cases z;exact hl rfl)]
      exact RcAt.lists_lengths uB.isList wR.isList (by rw[e1,e2];simpa using hl) (by omega)
    exact⟨rc,of_same (λhab=>by
     subst hab
     refine gB.mpr (uQ I (n+1) _ _ (.ref a) hd ?_ ?_)
     ·unfold Reads
      exact⟨a,xs,rfl,hq1,Ie⟩
     ·unfold Reads
      exact⟨a,ys,rfl,hq2,Cu⟩) rc⟩
   | tup es=>
    unfold Reads at r2
    obtain⟨b,ys,rfl,hq2,Cu⟩:=r2
    cases ry
    obtain⟨its2,v2,wR,_⟩:=I.tuple hq2
    rw[bN (by intro z;cases z)]
    exact⟨RcAt.list_tuple uB.isList wR (by omega),EqAt.list_tuple uB.isList wR (by omega)⟩
  | tup ds=>
   unfold Reads at r1
   obtain⟨a,xs,rfl,hq1,Ie⟩:=r1
   cases rx
   obtain⟨qX,v1,uB,_⟩:=I.tuple hq1
   have hd':bF ds≤n:=by unfold DV.depth at hd;omega
   cases e with
   | int j=>
    unfold Reads at r2
    subst r2
    obtain⟨t',rfl⟩:=ry
    rw[bN (by intro z;cases z)]
    exact⟨RcAt.tuple_int _ _ uB (by omega),EqAt.tuple_int _ _ uB (by omega)⟩
   | non=>
    unfold Reads at r2
    subst r2
    cases ry
    rw[bN (by intro z;cases z)]
    exact⟨RcAt.tuple_none uB (by omega),EqAt.tuple_none uB (by omega)⟩
   | lst es=>
    unfold Reads at r2
    obtain⟨b,ys,rfl,hq2,Cu⟩:=r2
    cases ry
    obtain⟨its2,v2,wR,_⟩:=I.list hq2
    rw[bN (by intro z;cases z)]
    exact⟨RcAt.tuple_list uB wR.isList (by omega),EqAt.tuple_list uB wR.isList (by omega)⟩
   | tup es=>
    unfold Reads at r2
    obtain⟨b,ys,rfl,hq2,Cu⟩:=r2
    cases ry
    obtain⟨its2,v2,wR,_⟩:=I.tuple hq2
    have e1:qX.toArray.size=ds.length:=by rw[B5,←v1.length,Ie.length]
    have e2:its2.toArray.size=es.length:=by rw[B5,←v2.length,Cu.length]
    have rc:RcAt A s (.ref a) (.ref b) (jD (.tup ds) (.tup es)):=by
     have q:=RcAt.tuples (A:=A) (s:=s) (l:=a) (b:=b) uB wR (by omega) (items n A ih ds es xs ys qX its2 hd' hu Ie Cu v1 v2)
     rw[e1,e2]at q
     by_cases hl:ds.length=es.length
     ·rw[←hl,U0,dI hl]at q
      rw[Fd]
      simpa using q
     ·rw[bN (by intro z;cases z;exact hl rfl)]
      have z:(ds.length==es.length)=false:=by simpa using hl
      rw[z,W8]at q
      exact q
    exact⟨rc,of_same (λhab=>by
     subst hab
     refine gB.mpr (uQ I (n+1) _ _ (.ref a) hd ?_ ?_)
     ·unfold Reads
      exact⟨a,xs,rfl,hq1,Ie⟩
     ·unfold Reads
      exact⟨a,ys,rfl,hq2,Cu⟩) rc⟩
 intro n
 induction n with
 | zero=>
  intro d e x y u v A hd hu r1 r2 rx ry
  cases d with
  | int i=>
   unfold Reads at r1
   subst r1
   exact Lk I i e y u v A (by omega) r2 rx ry
  | non=>
   unfold Reads at r1
   subst r1
   exact Ln I e y u v A (by omega) r2 rx ry
  | lst ds=>unfold DV.depth at hd;omega
  | tup ds=>unfold DV.depth at hd;omega
 | succ n ih=>
  intro d e x y u v A hd hu r1 r2 rx ry
  exact seqs n A ih d e x y u v hd hu r1 r2 rx ry
end
section
variable{X:Cx}
def Xu(K:aA)(neg:Bool):R2:=λx y H Q=>∃d e,Reads K H d x∧Reads K H e y∧d.depth≤32∧Q (.bl (if neg then !jD d e else jD d e)) H
theorem Xv(hu:X.A.units+64<cLine):nZ X (compareOp .Eq) (Xu X.K false):=by
 intro pins s σ H x y v u Q I rx ry h
 obtain⟨d,e,r1,r2,hd,q⟩:=h
 exact(wQ I 32 d e x y v u X.A hd (by omega) r1 r2 rx ry).1 X.prog X.w X.xe _ ⟨.bl _,H,I,rfl,q⟩
open SeqAt in
theorem Xw(hu:X.A.units+64<cLine):nZ X (compareOp .NotEq) (λx y H Q=>∃ds es,Reads X.K H (.lst ds) x∧Reads X.K H (.lst es) y∧bF ds≤32∧Q (.bl (!jD (.lst ds) (.lst es))) H):=by
 intro pins s σ H x y v u Q I rx ry h
 obtain⟨ds,es,r1,r2,hd,q⟩:=h
 unfold Reads at r1 r2
 obtain⟨a,xs,rfl,hq1,Ie⟩:=r1
 obtain⟨b,ys,rfl,hq2,Cu⟩:=r2
 cases rx
 cases ry
 obtain⟨qX,v1,uB,_⟩:=I.list hq1
 obtain⟨its2,v2,wR,_⟩:=I.list hq2
 have e1:qX.toArray.size=ds.length:=by rw[B5,←v1.length,Ie.length]
 have e2:its2.toArray.size=es.length:=by rw[B5,←v2.length,Cu.length]
 have rc:RcNeAt X.A s (.ref a) (.ref b) (!jD (.lst ds) (.lst es)):=by
  by_cases hl:ds.length=es.length
  ·have z:=RcNeAt.lists (A:=X.A) (s:=s) uB.isList wR.isList (by rw[e1,e2];exact hl) (by omega) (qW I 32 X.A (λd e x y u v A a1 a2 a3 a4 a5 a6=>wQ I 32 d e x y u v A a1 a2 a3 a4 a5 a6) ds es xs ys qX its2 hd (by omega) Ie Cu v1 v2)
   rw[e1,dI hl]at z
   rw[Fb]
   exact z
  ·rw[bN (by intro z;cases z;exact hl rfl)]
   exact RcNeAt.lists_lengths uB.isList wR.isList (by rw[e1,e2];simpa using hl) (by omega)
 exact rc X.prog X.w X.xe _ ⟨.bl _,H,I,rfl,q⟩
end
end L2


namespace L2
open PySem PySem.Spec PyProof.Rows
structure Raw(K:aA)(mg:Str→Option Value)(x:Str)(st:Stmt):Prop where
 ex:∃f fd,Qg K x x st f fd∧mg x=some (.ref f)
theorem Xx{K:aA}{h:Heap}{mg:Str→Option Value}{x:Str}{st:Stmt}{f:Addr}{oc:Value}{od an:Option Addr}{osl:Array (Option Value)}{kV doc pm cdv ct:Value}(X:K.In h)(G:h.Ns mainGlobals mg)
  (a:X7 K mainGlobals x=some (some (.ref f))) (l:K.lookup f=some ⟨oc,od,.func (F0 x x (cB st) (bG st) (aJ st) .none kV doc pm an cdv ct),osl⟩)
  (c:L7 K cdv x=true) (k:G2 K (.ref f)=true):Raw K mg x st:=⟨⟨f,_,Xp l c k,PySem.W.mg_of X G a⟩⟩
structure qY(P:Program)(w:World)(K:aA)(mg:Str→Option Value)(base:Heap)(x:Str)(k:Nat)(n:Nat)(sp:Sp):Prop where
 ex:∃f fd ps,ps.length=n∧oE P w K mg base Jp k f fd ps sp∧Binds K fd ps []∧G2 K (.ref f)=true∧mg x=some (.ref f)
theorem Raw.cal{P:Program}{w:World}{K:aA}{mg:Str→Option Value}{base:Heap}{x:Str}{st:Stmt}{N ps:List Str}{k:Nat}{sp:Sp}(R:Raw K mg x st)(S:bJ N ps (aJ st))(len:∀vs H Q E,sp vs H Q E→vs.length=ps.length)
  (hb:∀(kV doc pm:Value)(an:Option Addr)(cdv ct:Value)(us:List Value),us.length=ps.length→bindArgs (F0 x x (cB st) (bG st) (aJ st) .none kV doc pm an cdv ct) ⟨us,[]⟩=pure (ps.zip us))
  (hbody:∀(f:Addr)(cdv:Value)(A:Around)(outer:List Env)(s:Shared)(H:Hp)(vs:List V)(Q:VK)(E:XK),eV k (A.deeper (envOfC x (aJ st) s.heap.objs.size f cdv))→sp vs H Q E →
   ∃t,yU (wA Jp P w K mg base N x (aJ st) f cdv A outer s H E).Wt (bG st) t∧t {nx:=λ_ H'=>Q .non H',rt:=Q} (start N vs) H):qY P w K mg base x (k+1) ps.length sp:=by
 obtain⟨f,fd,F,m⟩:=R.ex
 exact⟨f,fd,ps,rfl,F.ok S len λcdv A outer s H vs Q E hr h=>hbody f cdv A outer s H vs Q E hr h,F.binds hb,F.kp,m⟩
theorem Xy{X:Cx}{x:Str}{k n:Nat}{sp:Sp}{e:Expr}{es:List Expr}{p pos:Pos}{t:TA}(C:qY X.prog X.w X.K X.mg X.base x k n sp)(hr:eV k X.A)(hg:Gl X x)
  (ha:PA X (e::es) t) (hdb:(x==("__debug__" : Str))=false:=by decide) (he:starEach (e::es) X.env=(false,eval e X.env)::starEach es X.env:=by rfl) (hpl:(backTo pos (starEach es X.env)).any (·.1)=false:=by rfl) :
  PE X (.Call (.Name x p) (e::es) [] pos) (yX sp [] E0 t):=by
 obtain⟨f,fd,ps,_,F,hb,hk,hm⟩:=C.ex
 exact Qy F hr hg hm hk hb .nil HW ha hdb he hpl
theorem call_of{sp:Sp}{E:XK}{t:TA}{σ:St}{H:Hp}{Q:VK}(h:t σ H λvs H1=>sp vs H1 Q E):yX sp [] E t σ H Q:=by
 unfold yX
 have e:(λ(vs:List V) (H1:Hp)=>sp (vs++[]) H1 Q E)=λvs H1=>sp vs H1 Q E:=by funext vs H1;rw[Q8]
 rw[e]
 exact h
theorem bC{H:Hp}{p:Addr}(h:H p=none)(o:HO):aD H (upd H p o):=λb u q=>by rw[aM (bM q h)];exact q
theorem aD.tup{K:aA}{H H':Hp}{a:Addr}{xs:List V}(e:aD H H')(h:lC K H a xs):lC K H' a xs:=by
 rcases h with (h | ⟨o,h⟩) | h
 ·exact .inl (.inl (e _ _ h))
 ·exact .inl (.inr ⟨o,e _ _ h⟩)
 ·exact .inr h
mutual
theorem aD.reads{K:aA}{H H':Hp}(e:aD H H'):∀(d:DV)(x:V),Reads K H d x→Reads K H' d x
 | .int i,x,h=>by unfold Reads at h ⊢;exact h
 | .non,x,h=>by unfold Reads at h ⊢;exact h
 | .lst ds,x,h=>by
  unfold Reads at h ⊢
  obtain⟨a,xs,r,hq,l⟩:=h
  exact⟨a,xs,r,e.seq hq,aD.Cv e ds xs l⟩
 | .tup ds,x,h=>by
  unfold Reads at h ⊢
  obtain⟨a,xs,r,hq,l⟩:=h
  exact⟨a,xs,r,e.tup hq,aD.Cv e ds xs l⟩
theorem aD.Cv{K:aA}{H H':Hp}(e:aD H H'):∀(ds:List DV)(xs:List V),aZ K H ds xs→aZ K H' ds xs
 | [],xs,h=>by unfold aZ at h ⊢;exact h
 | d::ds,xs,h=>by
  unfold aZ at h ⊢
  obtain⟨y,ys,r,h1,h2⟩:=h
  exact⟨y,ys,r,aD.reads e d y h1,aD.Cv e ds ys h2⟩
end
theorem lZ:∀ns:List Int,bF (ns.map DV.int)=0
 | []=>by rw[E2];unfold bF;rfl
 | n::ns=>by rw[B8];unfold bF DV.depth;rw[lZ ns];rfl
theorem zL{ns ms:List Int}:ns.map DV.int=ms.map DV.int↔ns=ms:=by
 constructor
 ·intro h
  have:∀(a b:Int),DV.int a=DV.int b→a=b:=λa b e=>by cases e;rfl
  exact(List.map_inj_right this).mp h
 ·rintro rfl;rfl
theorem Rz(z:Int)(ns:List Int):inV (.int z) (ns.map V.int)=decide (z∈ns):=by
 unfold inV
 rw[F7,J7,decide_eq_true_iff]
 constructor
 ·rintro⟨v,hv,e⟩
  obtain⟨m,hm,rfl⟩:=G0.mp hv
  have:m=z:=by simpa[Qf]using e
  subst this
  exact hm
 ·intro h
  exact⟨.int z,G0.mpr ⟨z,h,rfl⟩,by simp[Qf]⟩
theorem Ig(ns:List Int):(ns.map V.int).all jA=true:=by
 rw[G9]
 intro v hv
 obtain⟨m,_,rfl⟩:=G0.mp hv
 rfl
def mk(ns:List Int):List (Key×V):=ns.foldl (λkvs n=>putK kvs (D8 n) (V.bl true)) []
theorem take_snoc{α:Type}{l:List α}{i:Nat}{x:α}(h:l[i]?=some x):l.take (i+1)=l.take i++[x]:=by
 rw[P2,h]
 rfl
theorem Xz{kvs:List (Key×V)}{ks:List Int}(e:kvs.map (·.1)=ks.map D8):(kvs.map λkv=>kV kv.1)=ks.map V.int:=by
 have:(kvs.map λkv=>kV kv.1)=(kvs.map (·.1)).map kV:=by rw[K1];rfl
 rw[this,e,K1]
 rfl
end L2
namespace L2
theorem bV.at{scope:PySem.Scope}{N:List PySem.Str}{k:Nat}{fr:List Nat}(nY:PySem.Scope)(oN:List PySem.Str)(h:Le nY scope oN N k fr=true):bV nY scope oN N k fr:=bV.of h
end L2
namespace L2
open PySem PySem.Spec PyProof.Rows
def mU(H:Hp)(p:Addr):Prop:=(∀xs,H p≠some (.tup xs))∧∀o xs,H p≠some (.fX o (.tup xs))
theorem jW{H:Hp}{p:Addr}{xs:List V}(h:H p=some (.lst xs)):mU H p:=⟨λys e=>(by rw[h]at e;cases e),λo ys e=>(by rw[h]at e;cases e)⟩
theorem mV{H:Hp}{p:Addr}{kvs:List (Key×V)}(h:H p=some (.dK kvs)):mU H p:=⟨λys e=>(by rw[h]at e;cases e),λo ys e=>(by rw[h]at e;cases e)⟩
theorem lC.upd{K:aA}{H:Hp}{a p:Addr}{xs:List V}{o:HO}(h:lC K H a xs)(n:mU H p):lC K (upd H p o) a xs:=by
 rcases h with (h | ⟨u,h⟩) | h
 ·exact .inl (.inl (by rw[aM (λz=>n.1 xs (by rw[←z];exact h))];exact h))
 ·exact .inl (.inr ⟨u,by rw[aM (λz=>n.2 u xs (by rw[←z];exact h))];exact h⟩)
 ·exact .inr h
mutual
def cY:DV→Bool
 | .int _=>true
 | .non=>true
 | .lst _=>false
 | .tup ds=>bU ds
def bU:List DV→Bool
 | []=>true
 | d::ds=>cY d&&bU ds
end
mutual
theorem Ih{K:aA}{H:Hp}{p:Addr}{o:HO}(n:mU H p):∀(d:DV)(x:V),cY d=true→Reads K H d x→Reads K (upd H p o) d x
 | .int i,x,_,h=>by unfold Reads at h ⊢;exact h
 | .non,x,_,h=>by unfold Reads at h ⊢;exact h
 | .lst ds,x,hi,h=>by unfold cY at hi;cases hi
 | .tup ds,x,hi,h=>by
  unfold cY at hi
  unfold Reads at h ⊢
  obtain⟨a,xs,r,hq,l⟩:=h
  exact⟨a,xs,r,hq.upd n,qZ n ds xs hi l⟩
theorem qZ{K:aA}{H:Hp}{p:Addr}{o:HO}(n:mU H p):∀(ds:List DV)(xs:List V),bU ds=true→aZ K H ds xs→aZ K (upd H p o) ds xs
 | [],xs,_,h=>by unfold aZ at h ⊢;exact h
 | d::ds,xs,hi,h=>by
  unfold bU at hi
  rw[D6]at hi
  unfold aZ at h ⊢
  obtain⟨y,ys,r,h1,h2⟩:=h
  exact⟨y,ys,r,Ih n d y hi.1 h1,qZ n ds ys hi.2 h2⟩
end
theorem rA{n d:Nat}{k:Nat}:HT.qL n d (some (k:Int))=min k n:=HT.Qz n d k
end L2
namespace L2
open PySem PySem.Spec PyProof.Rows
section
variable{X:Cx}
end
end L2
namespace L2
open PySem PySem.Spec PyProof.Rows
end L2
namespace L2
open PySem PySem.Spec PyProof.Rows
section
variable{X:Cx}
theorem oG(hc:X.calm=true):dY X (.builtin "sorted") (λxs H Q=>∃(p:Addr)(kvs:List (Key×V))(ks:List Int),xs=[.ref p]∧Rd H p (.dK kvs)∧kvs.map (·.1)=ks.map D8∧ks.length<64∧∀l ms,H l=none→rising ks ms→Q (.ref l) (upd H l (.lst (ms.map V.int)))):=by
 intro pins s σ H xs us Q I r h
 obtain⟨p,kvs,ks,rfl,hq,hk,h64,q⟩:=h
 obtain⟨u,rfl,rx⟩:=vals1 r
 cases rx
 obtain⟨hz,hsm,vs,rel,dd⟩:=zG I.hok hq
 obtain⟨ep,hat⟩:=dd.dictAt
 have hl:=KV.length rel
 refine Calls.call_function_entry kind_sorted plain_sorted entry_sorted (args_sorted1 _) ?_
 unfold Builtin.«sorted»
 refine wpAny_bind (m:=checkCount "sorted" 1 1 _) (wpAny_pure ?_)
 refine wpAny_bind (PySem.W.kdu_collect (A:=X.A.in1) (V0 (knd:=aX X.prog X.w) (kvs:=vs) (ep:=ep) hsm) (I.ok.hd hc) hat (by omega) λh' tk acc kp hacc=>?_)
 have hkv:=uP (P:=X.prog) (w:=X.w) rel (us:=acc.toList) (by rw[C9];exact hacc.1) λj v ej=>hacc.2 j v (by rw[←F2];exact ej)
 rw[Xz hk]at hkv
 have hI:=intsAre_of hkv
 have hla:acc.toList.length=ks.length:=by rw[←hkv.length,B0]
 refine wpAny_bind (wpAny_newList ?_ (by rw[hla];exact K7 (gA (by omega))))
 have hoL:(h'.push (seqObj "list" acc.toList.toArray 0)).get? h'.objs.size=some (seqObj "list" acc.toList.toArray 0):=Heap.get?_push_size _ rfl
 refine wpAny_bind (wpAny_holding (wpAny_call_entry slot_list_sort ⟨_,hoL,rfl⟩ entry_list_sort (list_sort_tree hoL hI (by omega) λout ns' a1 a2 a3=>⟨_,rfl,?_⟩) (args_list_sort _)))
 refine wpAny_pure ⟨_,rfl,?_⟩
 obtain⟨e,he⟩:=sortedHeap_at (out:=out) hoL
 have hl2:ns'.length=ks.length:=a2.length_eq
 have I1:Inv X pins σ H {s with heap:=h',toks:=tk}:=I.kept (t':=tk) kp
 have hs:H h'.objs.size=none:=I1.hok.fresh (A9 _)
 have I2:=I1.laid (t':=tk) (a:=h'.objs.size) (o:=.lst (ns'.map V.int)) (h':=sortedHeap (h'.push (seqObj "list" acc.toList.toArray 0)) h'.objs.size acc.toList out)
  (λb o eb=>by
   have hlt:=Heap.lt_size eb
   rw[sortedHeap_old (C6 hlt) (by rw[Heap.size_push];exact F6 hlt)]
   exact Heap.get?_push_of_some _ eb) (A9 _)
  ⟨by rw[B0];exact K7 (gA (by omega)),out.toList,e,jV a1,by simpa[seqObj]using he⟩
 exact⟨.ref _,_,I2,rfl,q _ _ hs ⟨a2,a3⟩⟩
end
theorem fQ:∀{l m:List Int},l.Pairwise (·<·)→m.Pairwise (·<·)→(∀j,j∈l↔j∈m)→l=m
  | [],[],_,_,_=>rfl
  | [],b::m,_,_,h=>absurd ((h b).mpr B7) (by simp)
  | a::l,[],_,_,h=>absurd ((h a).mp B7) (by simp)
  | a::l,b::m,h1,h2,h=>by
    obtain⟨MT,RK⟩:=E3.mp h1
    obtain⟨NB,RL⟩:=E3.mp h2
    have e:a=b:=by
      rcases B6.mp ((h a).mp B7)with q | q
      · exact q
      · rcases B6.mp ((h b).mpr B7)with q' | q'
        · exact q'.symm
        · have:=NB a q
          have:=MT b q'
          omega
    subst e
    rw[fQ RK RL λj=>?_]
    constructor
    · intro hj
      rcases B6.mp ((h j).mp (B4 _ hj))with q | q
      · have:=MT j hj
        omega
      · exact q
    · intro hj
      rcases B6.mp ((h j).mpr (B4 _ hj))with q | q
      · have:=NB j hj
        omega
      · exact q
theorem lO:∀{l:List Int},l.Pairwise (·≤·)→l.Nodup→l.Pairwise (·<·)
 | [],_,_=>.nil
 | a::l,h,n=>by
  obtain⟨h1,h2⟩:=E3.mp h
  obtain⟨n1,n2⟩:=E5.mp n
  refine E3.mpr ⟨λb hb=>?_,lO h2 n2⟩
  have:=h1 b hb
  have:a≠b:=λe=>n1 (e▸hb)
  omega
theorem rising.strict{ks ms:List Int}(h:rising ks ms)(n:ks.Nodup):ms.Pairwise (·<·)∧∀j,j∈ms↔j∈ks:=
 ⟨lO h.2 (h.1.nodup_iff.mpr n),λj=>h.1.mem_iff⟩
theorem uR:∀(n:Nat)(l:List Int),l.Nodup→(∀j∈l,0≤j∧j<(n:Int))→l.length≤n
 | 0,[],_,_=>A9 _
 | 0,a::l,_,h=>by
  have:=h a B7
  omega
 | n+1,l,nd,h=>by
  have h1:(l.filter λj=>decide (j≠(n:Int))).length≤n:=uR n _ (nd.filter _) λj hj=>by
   obtain⟨hj1,hj2⟩:=L4.mp hj
   have:=h j hj1
   have:j≠(n:Int):=of_decide_eq_true hj2
   omega
  have h2:∀(l:List Int),l.Nodup→l.length≤(l.filter λj=>decide (j≠(n:Int))).length+1:=by
   intro l
   induction l with
   | nil=>intro _;exact K0 _
   | cons a l ih=>
    intro nd
    obtain⟨n1,n2⟩:=E5.mp nd
    by_cases e:a=(n:Int)
    ·have:(l.filter λj=>decide (j≠(n:Int)))=l:=List.filter_eq_self.mpr λj hj=>decide_eq_true λz=>n1 (by rw[e,←z];exact hj)
     rw[P9,if_neg (by simp[e]),this,D7]
     exact A9 _
    ·rw[P9,if_pos (by simp[e]),D7,D7]
     have:=ih n2
     omega
  have:=h2 l nd
  omega
end L2


namespace L2
open PySem PySem.Spec PyProof.Rows
section
variable{X:Cx}
def pU(ns:List Int)(m:Int):Prop:=m∈ns∧∀a∈ns,m≤a
theorem lQ(ns:List Int):∀k,k<ns.length→argBest (λi j=>decide (ns.getD i 0<ns.getD j 0)) k≤k∧∀i,i≤k→ns.getD (argBest (λi j=>decide (ns.getD i 0<ns.getD j 0)) k) 0≤ns.getD i 0
 | 0,_=>⟨A9 _,λi hi=>by
  have:i=0:=by omega
  subst this
  exact R8 _⟩
 | k+1,h=>by
  obtain⟨h1,h2⟩:=lQ ns k (by omega)
  unfold argBest
  split
  ·rename_i c
   have c':=of_decide_eq_true c
   refine⟨A9 _,λi hi=>?_⟩
   rcases G7 i (k+1)with q | q
   ·have:=h2 i (by omega)
    omega
   ·have:i=k+1:=by omega
    subst this
    exact R8 _
  ·rename_i c
   have c':=of_decide_eq_false (Bool.eq_false_iff.mpr c)
   refine⟨by omega,λi hi=>?_⟩
   rcases G7 i (k+1)with q | q
   ·exact h2 i (by omega)
   ·have:i=k+1:=by omega
    subst this
    omega
theorem Ii(hc:X.calm=true):dY X (.builtin "min") (λxs H Q=>∃(p:Addr)(ns:List Int),xs=[.ref p]∧eN X.K H p (ns.map V.int)∧0<ns.length∧∀m,pU ns m→Q (.int m) H):=by
 intro pins s σ H xs us Q I r h
 obtain⟨p,ns,rfl,hq,hpos,q⟩:=h
 obtain⟨u,rfl,rx⟩:=vals1 r
 cases rx
 obtain⟨its,rv,pl,hz⟩:=I.list hq
 have hl:=pl.isList
 have hlen:=rv.length
 rw[B0]at hlen
 have hlt:p<s.heap.objs.size:=by obtain⟨_,e,_⟩:=hl;exact Heap.lt_size e
 have item:∀(i:Nat)(v:Value),its.toArray[i]?=some v→∃t,v=.int (ns.getD i 0) t∧i<ns.length:=λi v e=>by
  have e':its[i]?=some v:=by simpa using e
  have hi:=(C3.mp e').1
  obtain⟨u,eu,ru⟩:=rv.get (i:=i) (x:=.int (ns.getD i 0)) (by rw[C8,D5,B3 (by omega)];rfl)
  rw[e']at eu
  cases eu
  obtain⟨t,rfl⟩:=ru
  exact⟨t,rfl,by omega⟩
 refine call_min_walk (wpAny_pyIter_list hl ?_)
 refine⟨s.heap.objs.size,[s.heap.objs.size,p],[s.heap.objs.size],its.toArray.size,_,_,λi j=>decide (ns.getD i 0<ns.getD j 0),rfl,Walks.list (A:=X.A.in1) (I.ok.hd hc) _ p (C6 hlt) _,
  ⟨⟨_,Heap.get?_push_size _ rfl,rfl,rfl⟩,hl.push _⟩,λb hb=>?_,by rw[B5];omega,λi j vi vj s' Q' E' hi hj hQ=>?_,λv h' tk hP hk=>?_⟩
 ·show b<(s.heap.push _).objs.size
  rw[Heap.size_push]
  rcases B6.mp hb with e | hb
  ·rw[e];exact K9 _
  ·rw[B9.mp hb];exact F6 hlt
 ·obtain⟨t1,rfl,_⟩:=item i vi hi
  obtain⟨t2,rfl,_⟩:=item j vj hj
  exact HT.Ko _ _ _ _ _ _ _ _ _ _ hQ
 ·obtain⟨t,rfl,hi⟩:=item _ v hP
  rw[B5,←hlen]at hi ⊢
  obtain⟨h1,h2⟩:=lQ ns (ns.length-1) (by omega)
  refine⟨.int _,H,I.kept (wO hk),⟨t,rfl⟩,q _ ⟨?_,λa ha=>?_⟩⟩
  ·rw[D5,B3 hi]
   exact L0 _
  ·obtain⟨i,hi',rfl⟩:=J6 ha
   have:=h2 i (by omega)
   rw[show ns.getD i 0=ns[i]from by rw[D5,B3 hi'];rfl]at this
   exact this
open SeqAt in
theorem Yb(hu:X.A.units+64<cLine):nZ X (compareOp .NotEq) (λx y H Q=>∃ds es,Reads X.K H (.tup ds) x∧Reads X.K H (.tup es) y∧bF ds≤32∧Q (.bl (!jD (.tup ds) (.tup es))) H):=by
 intro pins s σ H x y v u Q I rx ry h
 obtain⟨ds,es,r1,r2,hd,q⟩:=h
 unfold Reads at r1 r2
 obtain⟨a,xs,rfl,hq1,Ie⟩:=r1
 obtain⟨b,ys,rfl,hq2,Cu⟩:=r2
 cases rx
 cases ry
 obtain⟨qX,v1,uB,_⟩:=I.tuple hq1
 obtain⟨its2,v2,wR,_⟩:=I.tuple hq2
 have e1:qX.toArray.size=ds.length:=by rw[B5,←v1.length,Ie.length]
 have e2:its2.toArray.size=es.length:=by rw[B5,←v2.length,Cu.length]
 have rc:RcNeAt X.A s (.ref a) (.ref b) (!jD (.tup ds) (.tup es)):=by
  have z:=RcNeAt.tuples (A:=X.A) (s:=s) (l:=a) (b:=b) uB wR (by omega) (qW I 32 X.A (λd e x y u v A a1 a2 a3 a4 a5 a6=>wQ I 32 d e x y u v A a1 a2 a3 a4 a5 a6) ds es xs ys qX its2 hd (by omega) Ie Cu v1 v2)
  rw[e1,e2]at z
  by_cases hl:ds.length=es.length
  ·rw[←hl,U0,dI hl]at z
   rw[Fd]
   simpa using z
  ·rw[bN (by intro z;cases z;exact hl rfl)]
   have zz:(ds.length==es.length)=false:=by simpa using hl
   rw[zz,W8]at z
   exact z
 exact rc X.prog X.w X.xe _ ⟨.bl _,H,I,rfl,q⟩
end
end L2


namespace L2
open PySem PySem.Spec PyProof.Rows
inductive D where
  | non | bl (b:Bool) | int (i:Int) | str (x:Str)
  | lst (ds:List D) | tup (ds:List D)
  | dk (ks:List Key) (ds:List D)
  | dt (ks:List (List Key)) (ds:List D)
  | ins (C:Addr) (nm:List Str) (ds:List D)
abbrev Fp:=Addr→Prop
def Apart(A B:Fp):Prop:=∀x,A x→¬B x
def Is(A B:Fp):Prop:=∀x,A x↔B x
def None(A:Fp):Prop:=∀x,¬A x
abbrev cT(A B:Fp):Fp:=λx=>A x∨B x
mutual
def Rv(K:aA)(H:Hp):D→V→Prop
 | .non,v=>v=.non
 | .bl b,v=>v=.bl b
 | .int i,v=>v=.int i
 | .str x,v=>v=.str x
 | .lst ds,v=>∃a xs,v=.ref a∧eN K H a xs∧bA K H ds xs
 | .tup ds,v=>∃a xs,v=.ref a∧lC K H a xs∧bA K H ds xs
 | .dk ks ds,v=>∃a xs,v=.ref a∧Rd H a (.dK (ks.zip xs))∧ks.length=xs.length∧bA K H ds xs
 | .dt ks ds,v=>∃a xs,v=.ref a∧Rd H a (.dT (ks.zip xs))∧ks.length=xs.length∧bA K H ds xs
 | .ins C nm ds,v=>∃a dx xs,v=.ref a∧H a=some (.ins C dx (nm.zip xs))∧nm.length=xs.length∧bA K H ds xs
def bA(K:aA)(H:Hp):List D→List V→Prop
 | [],xs=>xs=[]
 | d::ds,xs=>∃y ys,xs=y::ys∧Rv K H d y∧bA K H ds ys
end
theorem aD.rd{H H':Hp}(e:aD H H'){a:Addr}{u:HO}(h:Rd H a u):Rd H' a u:=by
 rcases h with h | ⟨o,h⟩
 ·exact .inl (e _ _ h)
 ·exact .inr ⟨o,e _ _ h⟩
mutual
theorem aD.rv{K:aA}{H H':Hp}(e:aD H H'):∀(d:D)(v:V),Rv K H d v→Rv K H' d v
 | .non,v,h=>by unfold Rv at h ⊢;exact h
 | .bl _,v,h=>by unfold Rv at h ⊢;exact h
 | .int _,v,h=>by unfold Rv at h ⊢;exact h
 | .str _,v,h=>by unfold Rv at h ⊢;exact h
 | .lst ds,v,h=>by unfold Rv at h ⊢;obtain⟨a,xs,r,hq,l⟩:=h;exact⟨a,xs,r,e.seq hq,aD.Jq e ds xs l⟩
 | .tup ds,v,h=>by unfold Rv at h ⊢;obtain⟨a,xs,r,hq,l⟩:=h;exact⟨a,xs,r,e.tup hq,aD.Jq e ds xs l⟩
 | .dk ks ds,v,h=>by unfold Rv at h ⊢;obtain⟨a,xs,r,hq,hl,l⟩:=h;exact⟨a,xs,r,e.rd hq,hl,aD.Jq e ds xs l⟩
 | .dt ks ds,v,h=>by unfold Rv at h ⊢;obtain⟨a,xs,r,hq,hl,l⟩:=h;exact⟨a,xs,r,e.rd hq,hl,aD.Jq e ds xs l⟩
 | .ins C nm ds,v,h=>by unfold Rv at h ⊢;obtain⟨a,dx,xs,r,hq,hl,l⟩:=h;exact⟨a,dx,xs,r,e _ _ hq,hl,aD.Jq e ds xs l⟩
theorem aD.Jq{K:aA}{H H':Hp}(e:aD H H'):∀(ds:List D)(xs:List V),bA K H ds xs→bA K H' ds xs
 | [],xs,h=>by unfold bA at h ⊢;exact h
 | d::ds,xs,h=>by unfold bA at h ⊢;obtain⟨y,ys,r,h1,h2⟩:=h;exact⟨y,ys,r,aD.rv e d y h1,aD.Jq e ds ys h2⟩
end
theorem bA.length{K:aA}{H:Hp}:∀{ds:List D} {xs:List V},bA K H ds xs→xs.length=ds.length
 | [],xs,h=>by unfold bA at h;subst h;rfl
 | d::ds,xs,h=>by unfold bA at h;obtain⟨y,ys,rfl,_,h2⟩:=h;rw[D7,D7,bA.length h2]
theorem bA.get{K:aA}{H:Hp}:∀{ds:List D} {xs:List V} {i:Nat} {d:D},bA K H ds xs→ds[i]?=some d→∃x,xs[i]?=some x∧Rv K H d x
 | [],xs,i,d,h,e=>by simp at e
 | d'::ds,xs,0,d,h,e=>by unfold bA at h;obtain⟨y,ys,rfl,h1,_⟩:=h;simp at e;subst e;exact⟨y,rfl,h1⟩
 | d'::ds,xs,i+1,d,h,e=>by
  unfold bA at h
  obtain⟨y,ys,rfl,_,h2⟩:=h
  obtain⟨x,e1,e2⟩:=bA.get (i:=i) (d:=d) h2 (by simpa using e)
  exact⟨x,by simpa using e1,e2⟩
theorem bA.of{K:aA}{H:Hp}:∀{ds:List D} {xs:List V},xs.length=ds.length→(∀(i:Nat)(d:D)(x:V),ds[i]?=some d→xs[i]?=some x→Rv K H d x)→bA K H ds xs
 | [],xs,hl,_=>by unfold bA;exact F9 hl
 | d::ds,[],hl,_=>by simp at hl
 | d::ds,x::xs,hl,h=>by
  unfold bA
  exact⟨x,xs,rfl,h 0 d x rfl rfl,bA.of (by simpa using hl) λi e y h1 h2=>h (i+1) e y (by simpa using h1) (by simpa using h2)⟩
def cU{α β:Type}(R:α→Fp→β→Prop):List α→Fp→List β→Prop
 | [],A,ys=>None A∧ys=[]
 | d::ds,A,ys=>∃y yt A1 A2,ys=y::yt∧Apart A1 A2∧Is A (cT A1 A2)∧R d A1 y∧cU R ds A2 yt
section
variable{α β:Type}{R R':α→Fp→β→Prop}
theorem cU.congr:∀{ds:List α} {A A':Fp} {ys:List β},cU R ds A ys→Is A A'→cU R ds A' ys
 | [],A,A',ys,h,e=>⟨λx q=>h.1 x ((e x).mpr q),h.2⟩
 | d::ds,A,A',ys,⟨y,yt,A1,A2,h1,h2,h3,h4⟩,e=>⟨y,yt,A1,A2,h1,h2,λx=>((e x).symm).trans (h3 x),h4⟩
theorem cU.mono:∀{ds:List α} {A:Fp} {ys:List β},cU R ds A ys→(∀e B z,(∀x,B x→A x)→R e B z→R' e B z)→cU R' ds A ys
 | [],A,ys,h,_=>h
 | d::ds,A,ys,⟨y,yt,A1,A2,h1,h2,h3,h4,h5⟩,m=>
  ⟨y,yt,A1,A2,h1,h2,h3,m _ _ _ (λx q=>(h3 x).mpr (.inl q)) h4,h5.mono λe B z hb=>m e B z λx q=>(h3 x).mpr (.inr (hb x q))⟩
theorem cU.focus:∀{ds:List α} {A:Fp} {ys:List β} {i:Nat} {d:α},cU R ds A ys→ds[i]?=some d→∃y A1 C,ys[i]?=some y∧Apart A1 C∧Is A (cT A1 C)∧R d A1 y ∧
    ∀(R':α→Fp→β→Prop),(∀e B z,(∀x,B x→C x)→R e B z→R' e B z)→∀d' y' Qh,Apart Qh C→R' d' Qh y'→cU R' (ds.set i d') (cT Qh C) (ys.set i y')
  | [],A,ys,i,d,h,e=>by simp at e
  | d0::ds,A,ys,0,d,⟨y,yt,A1,A2,h1,h2,h3,h4,h5⟩,e=>by
    simp at e
    subst e h1
    exact⟨y,A1,A2,rfl,h2,h3,h4,λR' m d' y' Qh ap r=>⟨y',yt,Qh,A2,rfl,ap,λx=>Iff.rfl,r,h5.mono m⟩⟩
  | d0::ds,A,ys,i+1,d,⟨y,yt,A1,A2,h1,h2,h3,h4,h5⟩,e=>by
    subst h1
    obtain⟨z,B1,C,e1,ap,hA,r,k⟩:=cU.focus (i:=i) (d:=d) h5 (by simpa using e)
    refine⟨z,B1,cT A1 C,by simpa using e1,?_,?_,r,λR' m d' y' Qh ap' r'=>?_⟩
    · intro x hx hc
      rcases hc with hc | hc
      · exact h2 x hc ((hA x).mpr (.inl hx))
      · exact ap x hx hc
    · intro x
      rw[h3 x]
      constructor
      · rintro(q | q)
        · exact .inr (.inl q)
        · rcases(hA x).mp q with q | q
          · exact .inl q
          · exact .inr (.inr q)
      · rintro(q | q | q)
        · exact .inr ((hA x).mpr (.inl q))
        · exact .inl q
        · exact .inr ((hA x).mpr (.inr q))
    · refine⟨y,_,A1,cT Qh C,rfl,?_,?_,m _ _ _ (λx q=>.inl q) h4,k R' (λe B z hb=>m e B z λx q=>.inr (hb x q)) d' y' Qh (λx q q'=>ap' x q (.inr q')) r'⟩
      · intro x q q'
        rcases q' with q' | q'
        · exact ap' x q' (.inl q)
        · exact h2 x q ((hA x).mpr (.inr q'))
      · intro x
        show (Qh x∨A1 x∨C x)↔(A1 x∨Qh x∨C x)
        constructor
        · rintro(q | q | q)
          · exact .inr (.inl q)
          · exact .inl q
          · exact .inr (.inr q)
        · rintro(q | q | q)
          · exact .inr (.inl q)
          · exact .inl q
          · exact .inr (.inr q)
theorem cU.snoc:∀{ds:List α} {A A1:Fp} {ys:List β} {d:α} {y:β},cU R ds A ys→R d A1 y→Apart A A1→cU R (ds++[d]) (cT A A1) (ys++[y])
 | [],A,A1,ys,d,y,h,r,ap=>by
  rw[h.2]
  exact⟨y,[],A1,λ_=>False,rfl,λ_ _ z=>z,λx=>⟨λq=>q.elim (λq=>absurd q (h.1 x)) .inl,λq=>q.elim .inr False.elim⟩,r,λ_ z=>z,rfl⟩
 | d0::ds,A,A1,ys,d,y,⟨y0,yt,B1,B2,h1,h2,h3,h4,h5⟩,r,ap=>by
  subst h1
  refine⟨y0,yt++[y],B1,cT B2 A1,rfl,?_,?_,h4,cU.snoc h5 r λx q=>ap x ((h3 x).mpr (.inr q))⟩
  ·intro x q q'
   rcases q' with q' | q'
   ·exact h2 x q q'
   ·exact ap x ((h3 x).mpr (.inl q)) q'
  ·intro x
   show (A x∨A1 x)↔(B1 x∨B2 x∨A1 x)
   rw[h3 x]
   exact or_assoc
end
mutual
def Ow(K:aA)(H:Hp):D→Fp→V→Prop
 | .non,A,v=>None A∧v=.non
 | .bl b,A,v=>None A∧v=.bl b
 | .int i,A,v=>None A∧v=.int i
 | .str x,A,v=>None A∧v=.str x
 | .lst ds,A,v=>∃a xs B,v=.ref a∧H a=some (.lst xs)∧¬B a∧Is A (cT (·=a) B)∧bO K H ds B xs
 | .tup ds,A,v=>∃a xs,v=.ref a∧lC K H a xs∧bO K H ds A xs
 | .dk ks ds,A,v=>∃a xs B,v=.ref a∧H a=some (.dK (ks.zip xs))∧ks.length=xs.length∧¬B a∧Is A (cT (·=a) B)∧bO K H ds B xs
 | .dt ks ds,A,v=>∃a xs B,v=.ref a∧H a=some (.dT (ks.zip xs))∧ks.length=xs.length∧¬B a∧Is A (cT (·=a) B)∧bO K H ds B xs
 | .ins C nm ds,A,v=>∃a dx xs B,v=.ref a∧H a=some (.ins C dx (nm.zip xs))∧H dx=some (.own a)∧nm.length=xs.length∧¬B a∧¬B dx∧Is A (cT (λx=>x=a∨x=dx) B)∧bO K H ds B xs
def bO(K:aA)(H:Hp):List D→Fp→List V→Prop
 | [],A,ys=>None A∧ys=[]
 | d::ds,A,ys=>∃y yt A1 A2,ys=y::yt∧Apart A1 A2∧Is A (cT A1 A2)∧Ow K H d A1 y∧bO K H ds A2 yt
end
theorem cM{K:aA}{H:Hp}:∀{ds:List D} {A:Fp} {ys:List V},bO K H ds A ys↔cU (Ow K H) ds A ys
 | [],A,ys=>by unfold bO cU;exact Iff.rfl
 | d::ds,A,ys=>by
  unfold bO cU
  constructor
  ·rintro⟨y,yt,A1,A2,h1,h2,h3,h4,h5⟩;exact⟨y,yt,A1,A2,h1,h2,h3,h4,cM.mp h5⟩
  ·rintro⟨y,yt,A1,A2,h1,h2,h3,h4,h5⟩;exact⟨y,yt,A1,A2,h1,h2,h3,h4,cM.mpr h5⟩
def oH(K:aA)(H H':Hp):Prop:=∀a xs,lC K H a xs→lC K H' a xs
theorem aD.tk{K:aA}{H H':Hp}(e:aD H H'):oH K H H':=λ_ _ h=>e.tup h
theorem Ow.congr{K:aA}{H:Hp}{d:D}{A A':Fp}{v:V}(h:Ow K H d A v)(e:Is A A'):Ow K H d A' v:=by
 cases d with
 | non=>unfold Ow at h ⊢;exact⟨λx q=>h.1 x ((e x).mpr q),h.2⟩
 | bl b=>unfold Ow at h ⊢;exact⟨λx q=>h.1 x ((e x).mpr q),h.2⟩
 | int b=>unfold Ow at h ⊢;exact⟨λx q=>h.1 x ((e x).mpr q),h.2⟩
 | str b=>unfold Ow at h ⊢;exact⟨λx q=>h.1 x ((e x).mpr q),h.2⟩
 | lst ds=>unfold Ow at h ⊢;obtain⟨a,xs,B,h1,h2,h3,h4,h5⟩:=h;exact⟨a,xs,B,h1,h2,h3,λx=>(e x).symm.trans (h4 x),h5⟩
 | tup ds=>unfold Ow at h ⊢;obtain⟨a,xs,h1,h2,h3⟩:=h;exact⟨a,xs,h1,h2,cM.mpr ((cM.mp h3).congr e)⟩
 | dk ks ds=>unfold Ow at h ⊢;obtain⟨a,xs,B,h1,h2,h2',h3,h4,h5⟩:=h;exact⟨a,xs,B,h1,h2,h2',h3,λx=>(e x).symm.trans (h4 x),h5⟩
 | dt ks ds=>unfold Ow at h ⊢;obtain⟨a,xs,B,h1,h2,h2',h3,h4,h5⟩:=h;exact⟨a,xs,B,h1,h2,h2',h3,λx=>(e x).symm.trans (h4 x),h5⟩
 | ins C nm ds=>unfold Ow at h ⊢;obtain⟨a,dx,xs,B,h1,h2,h2',h3,h3',h3'',h4,h5⟩:=h;exact⟨a,dx,xs,B,h1,h2,h2',h3,h3',h3'',λx=>(e x).symm.trans (h4 x),h5⟩
mutual
theorem Ow.frame{K:aA}{H H':Hp}(t:oH K H H'):∀(d:D)(A:Fp)(v:V),Ow K H d A v→(∀a,A a→H' a=H a)→Ow K H' d A v
 | .non,A,v,h,f=>by unfold Ow at h ⊢;exact h
 | .bl _,A,v,h,f=>by unfold Ow at h ⊢;exact h
 | .int _,A,v,h,f=>by unfold Ow at h ⊢;exact h
 | .str _,A,v,h,f=>by unfold Ow at h ⊢;exact h
 | .lst ds,A,v,h,f=>by
  unfold Ow at h ⊢
  obtain⟨a,xs,B,h1,h2,h3,h4,h5⟩:=h
  exact⟨a,xs,B,h1,(f a ((h4 a).mpr (.inl rfl))).trans h2,h3,h4,bO.frame t ds B xs h5 λb q=>f b ((h4 b).mpr (.inr q))⟩
 | .tup ds,A,v,h,f=>by unfold Ow at h ⊢;obtain⟨a,xs,h1,h2,h3⟩:=h;exact⟨a,xs,h1,t _ _ h2,bO.frame t ds A xs h3 f⟩
 | .dk ks ds,A,v,h,f=>by
  unfold Ow at h ⊢
  obtain⟨a,xs,B,h1,h2,h2',h3,h4,h5⟩:=h
  exact⟨a,xs,B,h1,(f a ((h4 a).mpr (.inl rfl))).trans h2,h2',h3,h4,bO.frame t ds B xs h5 λb q=>f b ((h4 b).mpr (.inr q))⟩
 | .dt ks ds,A,v,h,f=>by
  unfold Ow at h ⊢
  obtain⟨a,xs,B,h1,h2,h2',h3,h4,h5⟩:=h
  exact⟨a,xs,B,h1,(f a ((h4 a).mpr (.inl rfl))).trans h2,h2',h3,h4,bO.frame t ds B xs h5 λb q=>f b ((h4 b).mpr (.inr q))⟩
 | .ins C nm ds,A,v,h,f=>by
  unfold Ow at h ⊢
  obtain⟨a,dx,xs,B,h1,h2,h2',h3,h3',h3'',h4,h5⟩:=h
  exact⟨a,dx,xs,B,h1,(f a ((h4 a).mpr (.inl (.inl rfl)))).trans h2,(f dx ((h4 dx).mpr (.inl (.inr rfl)))).trans h2',h3,h3',h3'',h4,bO.frame t ds B xs h5 λb q=>f b ((h4 b).mpr (.inr q))⟩
theorem bO.frame{K:aA}{H H':Hp}(t:oH K H H'):∀(ds:List D)(A:Fp)(ys:List V),bO K H ds A ys→(∀a,A a→H' a=H a)→bO K H' ds A ys
 | [],A,ys,h,f=>by unfold bO at h ⊢;exact h
 | d::ds,A,ys,h,f=>by
  unfold bO at h ⊢
  obtain⟨y,yt,A1,A2,h1,h2,h3,h4,h5⟩:=h
  exact⟨y,yt,A1,A2,h1,h2,h3,Ow.frame t d A1 y h4 λb q=>f b ((h3 b).mpr (.inl q)),bO.frame t ds A2 yt h5 λb q=>f b ((h3 b).mpr (.inr q))⟩
end
mutual
theorem Ow.rv{K:aA}{H:Hp}:∀(d:D)(A:Fp)(v:V),Ow K H d A v→Rv K H d v
 | .non,A,v,h=>by unfold Ow at h;unfold Rv;exact h.2
 | .bl _,A,v,h=>by unfold Ow at h;unfold Rv;exact h.2
 | .int _,A,v,h=>by unfold Ow at h;unfold Rv;exact h.2
 | .str _,A,v,h=>by unfold Ow at h;unfold Rv;exact h.2
 | .lst ds,A,v,h=>by unfold Ow at h;unfold Rv;obtain⟨a,xs,B,h1,h2,h3,h4,h5⟩:=h;exact⟨a,xs,h1,eN.of h2,bO.rv ds B xs h5⟩
 | .tup ds,A,v,h=>by unfold Ow at h;unfold Rv;obtain⟨a,xs,h1,h2,h3⟩:=h;exact⟨a,xs,h1,h2,bO.rv ds A xs h3⟩
 | .dk ks ds,A,v,h=>by unfold Ow at h;unfold Rv;obtain⟨a,xs,B,h1,h2,h2',h3,h4,h5⟩:=h;exact⟨a,xs,h1,.inl h2,h2',bO.rv ds B xs h5⟩
 | .dt ks ds,A,v,h=>by unfold Ow at h;unfold Rv;obtain⟨a,xs,B,h1,h2,h2',h3,h4,h5⟩:=h;exact⟨a,xs,h1,.inl h2,h2',bO.rv ds B xs h5⟩
 | .ins C nm ds,A,v,h=>by unfold Ow at h;unfold Rv;obtain⟨a,dx,xs,B,h1,h2,h2',h3,h3',h3'',h4,h5⟩:=h;exact⟨a,dx,xs,h1,h2,h3,bO.rv ds B xs h5⟩
theorem bO.rv{K:aA}{H:Hp}:∀(ds:List D)(A:Fp)(ys:List V),bO K H ds A ys→bA K H ds ys
 | [],A,ys,h=>by unfold bO at h;unfold bA;exact h.2
 | d::ds,A,ys,h=>by unfold bO at h;unfold bA;obtain⟨y,yt,A1,A2,h1,h2,h3,h4,h5⟩:=h;exact⟨y,yt,h1,Ow.rv d A1 y h4,bO.rv ds A2 yt h5⟩
end
def jF(H:Hp)(a:Addr):Prop:=(∃o,H a=some o)∧mU H a
mutual
theorem Ow.cells{K:aA}{H:Hp}:∀(d:D)(A:Fp)(v:V),Ow K H d A v→∀a,A a→jF H a
 | .non,A,v,h,a,q=>by unfold Ow at h;exact absurd q (h.1 a)
 | .bl _,A,v,h,a,q=>by unfold Ow at h;exact absurd q (h.1 a)
 | .int _,A,v,h,a,q=>by unfold Ow at h;exact absurd q (h.1 a)
 | .str _,A,v,h,a,q=>by unfold Ow at h;exact absurd q (h.1 a)
 | .lst ds,A,v,h,a,q=>by
  unfold Ow at h
  obtain⟨p,xs,B,h1,h2,h3,h4,h5⟩:=h
  rcases(h4 a).mp q with z | z
  ·cases z;exact⟨⟨_,h2⟩,jW h2⟩
  ·exact bO.cells ds B xs h5 a z
 | .tup ds,A,v,h,a,q=>by unfold Ow at h;obtain⟨p,xs,h1,h2,h3⟩:=h;exact bO.cells ds A xs h3 a q
 | .dk ks ds,A,v,h,a,q=>by
  unfold Ow at h
  obtain⟨p,xs,B,h1,h2,h2',h3,h4,h5⟩:=h
  rcases(h4 a).mp q with z | z
  ·cases z;exact⟨⟨_,h2⟩,mV h2⟩
  ·exact bO.cells ds B xs h5 a z
 | .dt ks ds,A,v,h,a,q=>by
  unfold Ow at h
  obtain⟨p,xs,B,h1,h2,h2',h3,h4,h5⟩:=h
  rcases(h4 a).mp q with z | z
  ·cases z;exact⟨⟨_,h2⟩,λys e=>(by rw[h2]at e;cases e),λo ys e=>(by rw[h2]at e;cases e)⟩
  ·exact bO.cells ds B xs h5 a z
 | .ins C nm ds,A,v,h,a,q=>by
  unfold Ow at h
  obtain⟨p,dx,xs,B,h1,h2,h2',h3,h3',h3'',h4,h5⟩:=h
  rcases(h4 a).mp q with (z | z) | z
  ·cases z;exact⟨⟨_,h2⟩,λys e=>(by rw[h2]at e;cases e),λo ys e=>(by rw[h2]at e;cases e)⟩
  ·cases z;exact⟨⟨_,h2'⟩,λys e=>(by rw[h2']at e;cases e),λo ys e=>(by rw[h2']at e;cases e)⟩
  ·exact bO.cells ds B xs h5 a z
theorem bO.cells{K:aA}{H:Hp}:∀(ds:List D)(A:Fp)(ys:List V),bO K H ds A ys→∀a,A a→jF H a
 | [],A,ys,h,a,q=>by unfold bO at h;exact absurd q (h.1 a)
 | d::ds,A,ys,h,a,q=>by
  unfold bO at h
  obtain⟨y,yt,A1,A2,h1,h2,h3,h4,h5⟩:=h
  rcases(h3 a).mp q with z | z
  ·exact Ow.cells d A1 y h4 a z
  ·exact bO.cells ds A2 yt h5 a z
end
mutual
def D.cY:D→Bool
  | .non=>true | .bl _=>true | .int _=>true | .str _=>true
  | .tup ds=>D.bU ds
  | _=>false
def D.bU:List D→Bool
  | []=>true
  | d::ds=>D.cY d&&D.bU ds
end
abbrev nil:Fp:=λ_=>False
mutual
theorem oJ{K:aA}{H:Hp}:∀(d:D)(v:V),d.cY=true→Rv K H d v→Ow K H d nil v
 | .non,v,_,h=>by unfold Rv at h;unfold Ow;exact⟨λ_ z=>z,h⟩
 | .bl _,v,_,h=>by unfold Rv at h;unfold Ow;exact⟨λ_ z=>z,h⟩
 | .int _,v,_,h=>by unfold Rv at h;unfold Ow;exact⟨λ_ z=>z,h⟩
 | .str _,v,_,h=>by unfold Rv at h;unfold Ow;exact⟨λ_ z=>z,h⟩
 | .tup ds,v,i,h=>by unfold D.cY at i;unfold Rv at h;unfold Ow;obtain⟨a,xs,h1,h2,h3⟩:=h;exact⟨a,xs,h1,h2,mW ds xs i h3⟩
 | .lst ds,v,i,h=>by unfold D.cY at i;cases i
 | .dk _ ds,v,i,h=>by unfold D.cY at i;cases i
 | .dt _ ds,v,i,h=>by unfold D.cY at i;cases i
 | .ins _ _ ds,v,i,h=>by unfold D.cY at i;cases i
theorem mW{K:aA}{H:Hp}:∀(ds:List D)(ys:List V),D.bU ds=true→bA K H ds ys→bO K H ds nil ys
 | [],ys,_,h=>by unfold bA at h;unfold bO;exact⟨λ_ z=>z,h⟩
 | d::ds,ys,i,h=>by
  unfold D.bU at i
  rw[D6]at i
  unfold bA at h
  unfold bO
  obtain⟨y,yt,h1,h2,h3⟩:=h
  exact⟨y,yt,nil,nil,h1,λ_ z _=>z,λx=>⟨False.elim,λz=>z.elim id id⟩,oJ d y i.1 h2,mW ds yt i.2 h3⟩
end
open Classical in
noncomputable def out(H:Hp)(A:Fp):Hp:=λa=>if A a then none else H a
theorem Yc{H:Hp}{A:Fp}{a:Addr}(h:¬A a):out H A a=H a:=by unfold out;rw[if_neg h]
theorem aQ{H:Hp}{A:Fp}{a:Addr}{o:HO}:out H A a=some o↔¬A a∧H a=some o:=by
 unfold out
 split
 ·rename_i h;exact⟨λz=>(by cases z),λz=>absurd h z.1⟩
 ·rename_i h;exact⟨λz=>⟨h,z⟩,λz=>z.2⟩
theorem gC(H:Hp)(A:Fp):aD (out H A) H:=λb o h=>(aQ.mp h).2
theorem Lp{K:aA}{H:Hp}{A:Fp}(h:∀a,A a→mU H a):oH K H (out H A):=λa xs q=>by
 rcases q with (q | ⟨o,q⟩) | q
 ·exact .inl (.inl (aQ.mpr ⟨λz=>(h a z).1 _ q,q⟩))
 ·exact .inl (.inr ⟨o,aQ.mpr ⟨λz=>(h a z).2 _ _ q,q⟩⟩)
 ·exact .inr q
theorem Ow.out{K:aA}{H:Hp}{d:D}{A A':Fp}{v:V}(h:Ow K H d A' v)(ap:Apart A' A)(c:∀a,A a→mU H a):Rv K (out H A) d v:=
 Ow.rv d A' v (Ow.frame (Lp c) d A' v h λa q=>Yc (ap a q))
end L2


namespace L2
open PySem PySem.Spec PyProof.Rows
abbrev DE:=List (Option D)
abbrev FE:=DE→Option D
abbrev FA:=DE→Option (List D)
abbrev FT:=DE→Option Bool
def lF(K:aA)(H:Hp)(e:DE)(σ:St):Prop:=∀(i:Nat)(d:D),e[i]?=some (some d)→∃v,σ[i]?=some (some v)∧Rv K H d v
theorem lF.same{K:aA}{H H':Hp}{e:DE}{σ:St}(h:lF K H e σ)(s:aD H H'):lF K H' e σ:=λi d q=>let ⟨v,h1,h2⟩:=h i d q;⟨v,h1,s.rv _ _ h2⟩
structure Zn(K:aA)(N:Fp)(Z H:Hp):Prop where
 sm:aD Z H
 tk:oH K H Z
 no:∀a,N a→Z a=none∧¬H a=none
theorem Zn.self(K:aA)(H:Hp):Zn K nil H H:=⟨aD.refl _,λ_ _ h=>h,λ_ z=>z.elim⟩
theorem oH.trans{K:aA}{H H1 H2:Hp}(a:oH K H H1)(b:oH K H1 H2):oH K H H2:=λp xs h=>b p xs (a p xs h)
theorem Ow.same{K:aA}{H H':Hp}{d:D}{A:Fp}{v:V}(h:Ow K H d A v)(s:aD H H'):Ow K H' d A v:=
 Ow.frame s.tk d A v h λa q=>by
  obtain⟨⟨o,e⟩,_⟩:=Ow.cells d A v h a q
  rw[e];exact s a o e
theorem bO.same{K:aA}{H H':Hp}{ds:List D}{A:Fp}{vs:List V}(h:bO K H ds A vs)(s:aD H H'):bO K H' ds A vs:=
 bO.frame s.tk ds A vs h λa q=>by
  obtain⟨⟨o,e⟩,_⟩:=bO.cells ds A vs h a q
  rw[e];exact s a o e
def Br(K:aA)(H H':Hp)(d:D)(v:V):Prop:=∃A,Ow K H' d A v∧∀a,A a→H a=none
def uC(K:aA)(H H':Hp)(ds:List D)(vs:List V):Prop:=∃A,bO K H' ds A vs∧∀a,A a→H a=none
theorem uC.rv{K:aA}{H H':Hp}{ds:List D}{vs:List V}(h:uC K H H' ds vs):bA K H' ds vs:=let ⟨A,o,_⟩:=h;bO.rv ds A vs o
theorem Br.back{K:aA}{H0 H H':Hp}{d:D}{v:V}(h:Br K H H' d v)(s:aD H0 H):Br K H0 H' d v:=let ⟨A,o,f⟩:=h;⟨A,o,λa q=>s.free (f a q)⟩
theorem Br.cY{K:aA}{H H':Hp}{d:D}{v:V}(i:d.cY=true)(h:Rv K H' d v):Br K H H' d v:=⟨nil,oJ d v i h,λ_ z=>z.elim⟩
theorem uC.bU{K:aA}{H H':Hp}{ds:List D}{vs:List V}(i:D.bU ds=true)(h:bA K H' ds vs):uC K H H' ds vs:=⟨nil,mW ds vs i h,λ_ z=>z.elim⟩
open Classical in
noncomputable def wU(Z H H':Hp):Hp:=λa=>if H a=none then H' a else Z a
theorem mX{Z H H':Hp}{a:Addr}(h:H a=none):wU Z H H' a=H' a:=by unfold wU;rw[if_pos h]
theorem rB{Z H H':Hp}{a:Addr}(h:¬H a=none):wU Z H H' a=Z a:=by unfold wU;rw[if_neg h]
theorem oK{K:aA}{N:Fp}{Z H H':Hp}(z:Zn K N Z H):aD Z (wU Z H H'):=λb o e=>by
 rw[rB (by rw[z.sm b o e];intro q;cases q)];exact e
theorem wV{K:aA}{N:Fp}{Z H H':Hp}(z:Zn K N Z H)(s:aD H H'):Zn K N (wU Z H H') H' where
  sm:=λb o e=>by
    by_cases c:H b=none
    · rw[mX c]at e;exact e
    · rw[rB c]at e;exact s b o (z.sm b o e)
  tk:=λa xs h=>by
    by_cases c:H a=none
    · rcases h with (h | ⟨o,h⟩) | h
      · exact .inl (.inl (by rw[mX c];exact h))
      · exact .inl (.inr ⟨o,by rw[mX c];exact h⟩)
      · exact .inr h
    · have q:lC K H a xs:=by
        rcases h with (h | ⟨o,h⟩) | h
        · cases e:H a with
          | none=>exact absurd e c
          | some o=>have:=s a o e;rw[h]at this;cases this;exact .inl (.inl e)
        · cases e:H a with
          | none=>exact absurd e c
          | some o=>have:=s a o e;rw[h]at this;cases this;exact .inl (.inr ⟨_,e⟩)
        · exact .inr h
      exact(oK z).tup (z.tk a xs q)
  no:=λa q=>⟨by rw[rB (z.no a q).2];exact(z.no a q).1,λh=>(z.no a q).2 (s.free h)⟩
theorem Br.zone{K:aA}{N:Fp}{Z H H':Hp}{d:D}{v:V}(h:Br K H H' d v)(z:Zn K N Z H)(s:aD H H'):Rv K (wU Z H H') d v:=by
 obtain⟨A,o,f⟩:=h
 exact Ow.rv d A v (Ow.frame (wV z s).tk d A v o λa q=>mX (f a q))
def zM(K:aA)(t:TE)(f:FE):Prop:=∀{N:Fp}(σ:St)(H Z:Hp)(e:DE)(d:D)(Q:VK),Zn K N Z H→lF K Z e σ→f e=some d →
 (∀v H' Z',aD H H'→aD Z Z'→Zn K N Z' H'→Rv K Z' d v→Q v H')→t σ H Q
def Bu(K:aA)(t:TE)(f:FE):Prop:=∀(σ:St)(H:Hp)(e:DE)(d:D)(Q:VK),lF K H e σ→f e=some d →
 (∀v H',aD H H'→Br K H H' d v→Q v H')→t σ H Q
def Cw(K:aA)(t:TT)(f:FT):Prop:=∀(σ:St)(H:Hp)(e:DE)(b:Bool)(Q:Bool→Hp→Prop),lF K H e σ→f e=some b→(∀H',aD H H'→Q b H')→t σ H Q
def CP(K:aA)(t:TA)(f:FA):Prop:=∀{N:Fp}(σ:St)(H Z:Hp)(e:DE)(ds:List D)(Q:List V→Hp→Prop),Zn K N Z H→lF K Z e σ→f e=some ds →
 (∀vs H' Z',aD H H'→aD Z Z'→Zn K N Z' H'→bA K Z' ds vs→Q vs H')→t σ H Q
def CQ(K:aA)(t:TA)(f:FA):Prop:=∀(σ:St)(H:Hp)(e:DE)(ds:List D)(Q:List V→Hp→Prop),lF K H e σ→f e=some ds →
 (∀vs H',aD H H'→uC K H H' ds vs→Q vs H')→t σ H Q
theorem Bu.r{K:aA}{t:TE}{f:FE}(h:Bu K t f):zM K t f:=λσ H Z e d Q z r q k=>
 h σ H e d Q (r.same z.sm) q λv H' s n=>k v H' (wU Z H H') s (oK z) (wV z s) (n.zone z s)
def iW(f:FE):FE:=λe=>(f e).bind λd=>if d.cY=true then some d else none
theorem uT{f:FE}{e:DE}{d:D}:iW f e=some d↔f e=some d∧d.cY=true:=by
 unfold iW
 cases q:f e with
 | none=>simp
 | some a=>
  simp only[D2]
  split
  ·rename_i h;constructor
   ·intro z;cases z;exact⟨rfl,h⟩
   ·rintro⟨z,_⟩;exact z
  ·rename_i h;constructor
   ·intro z;cases z
   ·rintro⟨z,z2⟩;cases z;exact absurd z2 h
theorem zM.n{K:aA}{t:TE}{f:FE}(h:zM K t f):Bu K t (iW f):=λσ H e d Q r q k=>by
 obtain⟨q1,q2⟩:=uT.mp q
 exact h σ H H e d Q (Zn.self K H) r q1 λv H' Z' s1 s2 z' rv=>k v H' s1 (.cY q2 (z'.sm.rv _ _ rv))
def aG(i:Nat):FE:=λe=>(e[i]?).getD none
theorem Yd{K:aA}(i:Nat):zM K (gU i) (aG i):=λσ H Z e d Q z r q k=>by
 have e1:e[i]?=some (some d):=by
  unfold aG at q
  cases h:e[i]? with
  | none=>rw[h]at q;cases q
  | some o=>rw[h]at q;cases q;rfl
 obtain⟨v,h1,h2⟩:=r i d e1
 exact⟨v,h1,k v H Z (aD.refl _) (aD.refl _) z h2⟩
def fC(d:D):FE:=λ_=>some d
theorem Ye{K:aA}(i:Int):Bu K (tC (.int i)) (fC (.int i)):=λσ H e d Q r q k=>by cases q;exact k _ H (aD.refl _) (.cY rfl (by unfold Rv;rfl))
theorem HY{K:aA}(i:Bool):Bu K (tC (.bl i)) (fC (.bl i)):=λσ H e d Q r q k=>by cases q;exact k _ H (aD.refl _) (.cY rfl (by unfold Rv;rfl))
def f2(φ:D→D→Option D)(f g:FE):FE:=λe=>(f e).bind λa=>(g e).bind λb=>φ a b
theorem pW{φ:D→D→Option D}{f g:FE}{e:DE}{d:D}(h:f2 φ f g e=some d):∃a b,f e=some a∧g e=some b∧φ a b=some d:=by
 unfold f2 at h
 obtain⟨a,h1,h2⟩:=aO h
 obtain⟨b,h3,h4⟩:=aO h2
 exact⟨a,b,h1,h3,h4⟩
def aa(K:aA)(r:R2)(φ:D→D→Option D):Prop:=∀{N:Fp}(x y:V)(H Z:Hp)(a b d:D)(Q:VK),Zn K N Z H→Rv K Z a x→Rv K Z b y→φ a b=some d →
 (∀v H' Z',aD H H'→aD Z Z'→Zn K N Z' H'→Rv K Z' d v→Q v H')→r x y H Q
def Qi(K:aA)(r:R2)(φ:D→D→Option D):Prop:=∀(x y:V)(H:Hp)(a b d:D)(Q:VK),Rv K H a x→Rv K H b y→φ a b=some d →
 (∀v H',aD H H'→Br K H H' d v→Q v H')→r x y H Q
theorem IK{K:aA}{r:R2}{φ:D→D→Option D}{ta tb:TE}{f g:FE}(o:aa K r φ)(ha:zM K ta f)(hb:zM K tb g):zM K (Ke r ta tb) (f2 φ f g):=λσ H Z e d Q z re q k=>by
 obtain⟨a,b,h1,h2,h3⟩:=pW q
 refine ha σ H Z e a _ z re h1 λx H1 Z1 s1 t1 z1 rx=>hb σ H1 Z1 e b _ z1 (re.same t1) h2 λy H2 Z2 s2 t2 z2 ry=>?_
 exact o x y H2 Z2 a b d Q z2 (t2.rv _ _ rx) ry h3 λv H3 Z3 s3 t3 z3 rv=>k v H3 Z3 (s1.trans (s2.trans s3)) (t1.trans (t2.trans t3)) z3 rv
theorem Vi{K:aA}{r:R2}{φ:D→D→Option D}{ta tb:TE}{f g:FE}(o:Qi K r φ)(ha:zM K ta f)(hb:zM K tb g):Bu K (Ke r ta tb) (f2 φ f g):=λσ H e d Q re q k=>by
 obtain⟨a,b,h1,h2,h3⟩:=pW q
 refine ha σ H H e a _ (Zn.self K H) re h1 λx H1 Z1 s1 t1 z1 rx=>hb σ H1 Z1 e b _ z1 (re.same t1) h2 λy H2 Z2 s2 t2 z2 ry=>?_
 exact o x y H2 a b d Q (z2.sm.rv _ _ (t2.rv _ _ rx)) (z2.sm.rv _ _ ry) h3 λv H3 s3 n=>k v H3 (s1.trans (s2.trans s3)) (n.back (s1.trans s2))
def yN(C:Int→Int→Prop) [∀i j,Decidable (C i j)] (g:Int→Int→D):D→D→Option D
 | .int i,.int j=>if C i j then some (g i j)else none
 | _,_=>none
theorem zN{C:Int→Int→Prop} [∀i j,Decidable (C i j)] {g:Int→Int→D} {a b d:D} (h:yN C g a b=some d):∃i j,a=.int i∧b=.int j∧C i j∧d=g i j:=by
 unfold yN at h
 split at h
 ·split at h
  ·rename_i i j c;cases h;exact⟨i,j,rfl,rfl,c,rfl⟩
  ·cases h
 ·cases h
theorem Lq{K:aA}{C:Int→Int→Prop} [∀i j,Decidable (C i j)] {C':Int→Int→Prop} (hC:∀i j,C i j→C' i j) {g:Int→Int→Int}:Qi K (rI C' λi j=>.int (g i j)) (yN C λi j=>.int (g i j)):=λx y H a b d Q ra rb q k=>by
 obtain⟨i,j,rfl,rfl,c,rfl⟩:=zN q
 unfold Rv at ra rb
 exact⟨i,j,ra,rb,hC i j c,k _ H (aD.refl _) (.cY rfl (by unfold Rv;rfl))⟩
theorem Lr{K:aA}{g:Int→Int→Bool}:Qi K (Va λi j=>.bl (g i j)) (yN (λ_ _=>True) λi j=>.bl (g i j)):=λx y H a b d Q ra rb q k=>by
 obtain⟨i,j,rfl,rfl,c,rfl⟩:=zN q
 unfold Rv at ra rb
 exact⟨i,j,ra,rb,k _ H (aD.refl _) (.cY rfl (by unfold Rv;rfl))⟩
def aN:FA:=λ_=>some []
def aF(f:FE)(fs:FA):FA:=λe=>(f e).bind λa=>(fs e).bind λr=>some (a::r)
theorem pJ{f:FE}{fs:FA}{e:DE}{ds:List D}(h:aF f fs e=some ds):∃a r,f e=some a∧fs e=some r∧ds=a::r:=by
 unfold aF at h
 obtain⟨a,h1,h2⟩:=aO h
 obtain⟨b,h3,h4⟩:=aO h2
 cases h4
 exact⟨a,b,h1,h3,rfl⟩
theorem Yg{K:aA}:CP K yW aN:=λσ H Z e ds Q z re q k=>by cases q;exact k [] H Z (aD.refl _) (aD.refl _) z (by unfold bA;rfl)
theorem Sd{K:aA}{te:TE}{t:TA}{f:FE}{fs:FA}(h:zM K te f)(hs:CP K t fs):CP K (pI te t) (aF f fs):=λσ H Z e ds Q z re q k=>by
 obtain⟨a,r,h1,h2,rfl⟩:=pJ q
 refine h σ H Z e a _ z re h1 λx H1 Z1 s1 t1 z1 rx=>hs σ H1 Z1 e r _ z1 (re.same t1) h2 λvs H2 Z2 s2 t2 z2 rs=>?_
 exact k _ H2 Z2 (s1.trans s2) (t1.trans t2) z2 (by unfold bA;exact⟨x,vs,rfl,t2.rv _ _ rx,rs⟩)
theorem Yh{K:aA}:CQ K yW aN:=λσ H e ds Q re q k=>by cases q;exact k [] H (aD.refl _) (.bU rfl (by unfold bA;rfl))
theorem Sg{K:aA}{te:TE}{t:TA}{f:FE}{fs:FA}(h:Bu K te f)(hs:CQ K t fs):CQ K (pI te t) (aF f fs):=λσ H e ds Q re q k=>by
 obtain⟨a,r,h1,h2,rfl⟩:=pJ q
 refine h σ H e a _ re h1 λx H1 s1 n1=>hs σ H1 e r _ (re.same s1) h2 λvs H2 s2 n2=>?_
 refine k _ H2 (s1.trans s2) ?_
 obtain⟨A,oA,fA⟩:=n1
 obtain⟨B,oB,fB⟩:=n2
 refine⟨cT A B,?_,λp q=>q.elim (fA p) λz=>s1.free (fB p z)⟩
 unfold bO
 refine⟨x,vs,A,B,rfl,λp qa qb=>?_,λ_=>Iff.rfl,oA.same s2,oB⟩
 obtain⟨⟨o,e1⟩,_⟩:=Ow.cells _ _ _ oA p qa
 rw[fB p qb]at e1;cases e1
def cap(n:Nat)(d:D):Option D:=if n≤100000 then some d else none
theorem rC{n:Nat}{d d':D}(h:cap n d=some d'):n≤100000∧d'=d:=by
 unfold cap at h
 split at h
 ·rename_i c;cases h;exact⟨c,rfl⟩
 ·cases h
theorem Fe{n:Nat}(h:n≤100000):n≤sizeLine:=by rw[sizeLine_eq];omega
theorem Ls{n:Nat}(h:n≤100000):n<sizeLine:=by rw[sizeLine_eq];omega
def mC(fs:FA):FE:=λe=>(fs e).bind λds=>cap ds.length (.lst ds)
def Sh(fs:FA):FE:=λe=>(fs e).bind λds=>cap ds.length (.tup ds)
theorem mY{K:aA}{H H1:Hp}{ds:List D}{xs:List V}{p:Addr}(s:aD H H1)(n:uC K H H1 ds xs)(hp:H1 p=none):Br K H (upd H1 p (.lst xs)) (.lst ds) (.ref p):=by
 obtain⟨A,o,f⟩:=n
 refine⟨cT (·=p) A,?_,λa q=>q.elim (λz=>by cases z;exact s.free hp) (f a)⟩
 unfold Ow
 refine⟨p,xs,A,rfl,aV,λz=>?_,λ_=>Iff.rfl,o.same (bC hp _)⟩
 obtain⟨⟨u,e⟩,_⟩:=bO.cells _ _ _ o p z
 rw[hp]at e;cases e
theorem Ff{K:aA}{H H1:Hp}{ds:List D}{xs:List V}{p:Addr}(n:uC K H H1 ds xs)(hp:H1 p=none):Br K H (upd H1 p (.tup xs)) (.tup ds) (.ref p):=by
 obtain⟨A,o,f⟩:=n
 refine⟨A,?_,f⟩
 unfold Ow
 exact⟨p,xs,rfl,lC.of aV,o.same (bC hp _)⟩
theorem Yi{K:aA}{t:TA}{fs:FA}(h:CQ K t fs):Bu K (Kh t) (mC fs):=λσ H e d Q re q k=>by
 unfold mC at q
 obtain⟨ds,h1,h2⟩:=aO q
 obtain⟨hc,rfl⟩:=rC h2
 refine h σ H e ds _ re h1 λxs H1 s1 n=>⟨Fe (by rw[n.rv.length];exact hc),λp hp=>?_⟩
 exact k _ _ (s1.trans (bC hp _)) (mY s1 n hp)
theorem Yj{K:aA}{t:TA}{fs:FA}(h:CQ K t fs):Bu K (Xc t) (Sh fs):=λσ H e d Q re q k=>by
 unfold Sh at q
 obtain⟨ds,h1,h2⟩:=aO q
 obtain⟨hc,rfl⟩:=rC h2
 refine h σ H e ds _ re h1 λxs H1 s1 n=>⟨Fe (by rw[n.rv.length];exact hc),λp hp=>?_⟩
 exact k _ _ (s1.trans (bC hp _)) (Ff n hp)
theorem Lw{K:aA}{N:Fp}{Z H:Hp}{p:Addr}{o:HO}(z:Zn K N Z H)(hp:H p=none):aD Z (upd Z p o)∧Zn K N (upd Z p o) (upd H p o):=by
 have hz:Z p=none:=z.sm.free hp
 refine⟨bC hz o,⟨λb u e=>?_,λa xs h=>?_,λa q=>?_⟩⟩
 ·by_cases c:b=p
  ·subst c;rw[aV]at e;rw[aV];exact e
  ·rw[aM c]at e;rw[aM c];exact z.sm b u e
 ·by_cases c:a=p
  ·subst c
   rcases h with (h | ⟨u,h⟩) | h
   ·rw[aV]at h;exact .inl (.inl (by rw[aV];exact h))
   ·rw[aV]at h;exact .inl (.inr ⟨u,by rw[aV];exact h⟩)
   ·exact .inr h
  ·have q:lC K H a xs:=by
    rcases h with (h | ⟨u,h⟩) | h
    ·rw[aM c]at h;exact .inl (.inl h)
    ·rw[aM c]at h;exact .inl (.inr ⟨u,h⟩)
    ·exact .inr h
   exact(bC hz o).tup (z.tk a xs q)
 ·have c:a≠p:=λz'=>(z.no a q).2 (by rw[z'];exact hp)
  rw[aM c,aM c];exact z.no a q
theorem Yk{K:aA}{t:TA}{fs:FA}(h:CP K t fs):zM K (Kh t) (mC fs):=λσ H Z e d Q z re q k=>by
 unfold mC at q
 obtain⟨ds,h1,h2⟩:=aO q
 obtain⟨hc,rfl⟩:=rC h2
 refine h σ H Z e ds _ z re h1 λxs H1 Z1 s1 t1 z1 rs=>⟨Fe (by rw[rs.length];exact hc),λp hp=>?_⟩
 obtain⟨a1,a2⟩:=Lw (o:=.lst xs) z1 hp
 exact k _ _ _ (s1.trans (bC hp _)) (t1.trans a1) a2 (by unfold Rv;exact⟨p,xs,rfl,eN.of aV,a1.Jq _ _ rs⟩)
end L2


namespace L2
open PySem PySem.Spec PyProof.Rows
structure XR(K:aA)(X:Cx)(e:Expr)(t:TE)(f:FE):Prop where
 hk:X.K=K
 pe:PE X e t
 ev:zM K t f
structure XN(K:aA)(X:Cx)(e:Expr)(t:TE)(f:FE):Prop where
 hk:X.K=K
 pe:PE X e t
 ev:Bu K t f
structure XT(K:aA)(X:Cx)(e:Expr)(t:TT)(f:FT):Prop where
 hk:X.K=K
 pt:PT X e t
 ev:Cw K t f
structure XW(K:aA)(X:Cx)(e:Expr)(t:TT)(f:FT):Prop where
 hk:X.K=K
 pw:PW X e t
 ev:Cw K t f
structure XA(K:aA)(X:Cx)(es:List Expr)(t:TA)(f:FA):Prop where
 hk:X.K=K
 pa:PA X es t
 ev:CP K t f
structure XB(K:aA)(X:Cx)(es:List Expr)(t:TA)(f:FA):Prop where
 hk:X.K=K
 pa:PA X es t
 ev:CQ K t f
section
variable{K:aA}{X:Cx}{e a b c:Expr}{es:List Expr}{t ta tb:TE}{f g:FE}{tA:TA}{fs:FA}{pos:Pos}
theorem XN.r(h:XN K X e t f):XR K X e t f:=⟨h.hk,h.pe,h.ev.r⟩
theorem XR.n(h:XR K X e t f):XN K X e t (iW f):=⟨h.hk,h.pe,zM.n h.ev⟩
theorem aK{i:Nat}(h:PE X e (gU i))(hk:X.K=K:=by rfl):XR K X e (gU i) (aG i):=⟨hk,h,Yd i⟩
theorem bW{i:Int}{j:Nat}(hk:X.K=K:=by rfl):XN K X (.Constant (.int i) j pos) (tC (.int i)) (fC (.int i)):=⟨hk,Wj,Ye i⟩
theorem gD{i:Bool}{j:Nat}(hk:X.K=K:=by rfl):XN K X (.Constant (.bool i) j pos) (tC (.bl i)) (fC (.bl i)):=⟨hk,Uw,HY i⟩
theorem Lx{op:Operator}{r:R2}{φ:D→D→Option D}(ho:nZ X (binaryOp op) r)(hd:Qi K r φ)(ha:XR K X a ta f)(hb:XR K X b tb g):XN K X (.BinOp a op b pos) (Ke r ta tb) (f2 φ f g):=⟨ha.hk,FQ ho ha.pe hb.pe,Vi hd ha.ev hb.ev⟩
def aj:D→D→Option D:=yN (λ_ _=>True) λi j=>.int (i-j)
instance (i j:Int):Decidable (Wy i j):=by unfold Wy;exact inferInstance
instance (i j:Int):Decidable (Hr i j):=by unfold Hr;exact inferInstance
instance (i j:Int):Decidable (Wx i j):=by unfold Wx;exact inferInstance
def ak:D→D→Option D:=yN Wy λi j=>.int (i*j)
def uD:D→D→Option D:=yN Hr λi j=>.int (i/j)
def rD:D→D→Option D:=yN (λ_ j=>0<j) λi j=>.int (i%j)
def ao:D→D→Option D:=yN Wx λi j=>.int (i ^ j.toNat)
theorem rF(ha:XR K X a ta f)(hb:XR K X b tb g):XN K X (.BinOp a .FloorDiv b pos) (Ke (rI Hr λi j=>.int (i/j)) ta tb) (f2 uD f g):=Lx Qu (Lq λ_ _ h=>h) ha hb
theorem oM(ha:XR K X a ta f)(hb:XR K X b tb g):XN K X (.BinOp a .Mod b pos) (Ke (rI (λ_ j=>0<j) λi j=>.int (i%j)) ta tb) (f2 rD f g):=Lx Xa (Lq λ_ _ h=>h) ha hb
def fB(f:FE):FT:=λe=>(f e).bind λd=>match d with | .bl b=>some b | _=>none
theorem wW{f:FE}{e:DE}{b:Bool}(h:fB f e=some b):f e=some (.bl b):=by
 unfold fB at h
 obtain⟨d,h1,h2⟩:=aO h
 split at h2
 ·cases h2;exact h1
 ·cases h2
theorem Sq(h:zM K t f):Cw K (Kg t) (fB f):=λσ H e b Q re q k=>h σ H H e _ _ (Zn.self K H) re (wW q) λv H' Z' s1 s2 z rv=>by
 unfold Rv at rv
 exact⟨b,rv,k H' s1⟩
theorem Vj(h:zM K t f):Cw K (tB t) (fB f):=λσ H e b Q re q k=>h σ H H e _ _ (Zn.self K H) re (wW q) λv H' Z' s1 s2 z rv=>by
 unfold Rv at rv
 exact⟨b,rv,k H' s1⟩
theorem dC{op:CmpOp}{r:R2}{φ:D→D→Option D}(ho:nZ X (compareOp op) r)(hd:Qi K r φ)(ha:XR K X a ta f)(hb:XR K X b tb g)(hm:behindInMarks op b=false):XT K X (.Compare a [op] [b] pos) (Kg (Ke r ta tb)) (fB (f2 φ f g)):=⟨ha.hk,Qw ho ha.pe hb.pe hm,Sq (Vi hd ha.ev hb.ev).r⟩
theorem Cy(h:XR K X e t f)(he:∀whole,isTrue e X.env whole=(do let v ←whole;standAt e.pos;holding [v] (truthy v)):=by intro _;rfl):XT K X e (tB t) (fB f):=⟨h.hk,Wl h.pe he,Vj h.ev⟩
def RM:D→D→Option D:=yN (λ_ _=>True) λi j=>.bl (decide (i<j))
def lq:D→D→Option D:=yN (λ_ _=>True) λi j=>.bl (decide (i≤j))
def IV:D→D→Option D:=yN (λ_ _=>True) λi j=>.bl (decide (j<i))
def lr:D→D→Option D:=yN (λ_ _=>True) λi j=>.bl (decide (j≤i))
def toV:D→Option V
  | .non=>some .non | .bl b=>some (.bl b) | .int i=>some (.int i) | .str x=>some (.str x)
  | _=>none
theorem oO{H:Hp}{d:D}{v x:V}(h:toV d=some v)(r:Rv K H d x):x=v:=by
 cases d<;>unfold toV at h<;>first | (cases h;unfold Rv at r;exact r) | cases h
mutual
def bR:D→Option DV
 | .int i=>some (.int i)
 | .non=>some .non
 | .lst ds=>(fK ds).map DV.lst
 | .tup ds=>(fK ds).map DV.tup
 | _=>none
def fK:List D→Option (List DV)
 | []=>some []
 | d::ds=>(bR d).bind λx=>(fK ds).bind λxs=>some (x::xs)
end
mutual
theorem gZ{H:Hp}:∀(d:D)(x:DV)(v:V),bR d=some x→Rv K H d v→Reads K H x v
 | .int i,x,v,h,r=>by unfold bR at h;cases h;unfold Rv at r;unfold Reads;exact r
 | .lst ds,x,v,h,r=>by
  unfold bR at h
  obtain⟨xs,h1,rfl⟩:=dB h
  unfold Rv at r;unfold Reads
  obtain⟨a,vs,r1,r2,r3⟩:=r
  exact⟨a,vs,r1,r2,rG ds xs vs h1 r3⟩
 | .tup ds,x,v,h,r=>by
  unfold bR at h
  obtain⟨xs,h1,rfl⟩:=dB h
  unfold Rv at r;unfold Reads
  obtain⟨a,vs,r1,r2,r3⟩:=r
  exact⟨a,vs,r1,r2,rG ds xs vs h1 r3⟩
 | .non,x,v,h,r=>by unfold bR at h;cases h;unfold Rv at r;unfold Reads;exact r
 | .bl _,x,v,h,r=>by unfold bR at h;cases h
 | .str _,x,v,h,r=>by unfold bR at h;cases h
 | .dk _ _,x,v,h,r=>by unfold bR at h;cases h
 | .dt _ _,x,v,h,r=>by unfold bR at h;cases h
 | .ins _ _ _,x,v,h,r=>by unfold bR at h;cases h
theorem rG{H:Hp}:∀(ds:List D)(xs:List DV)(vs:List V),fK ds=some xs→bA K H ds vs→aZ K H xs vs
 | [],xs,vs,h,r=>by unfold fK at h;cases h;unfold bA at r;unfold aZ;exact r
 | d::ds,xs,vs,h,r=>by
  unfold fK at h
  obtain⟨x,h1,h2⟩:=aO h
  obtain⟨xt,h3,h4⟩:=aO h2
  cases h4
  unfold bA at r;unfold aZ
  obtain⟨y,ys,r1,r2,r3⟩:=r
  exact⟨y,ys,r1,gZ d x y h1 r2,rG ds xt ys h3 r3⟩
end
mutual
theorem Ly:∀(d e:D)(x:DV),bR d=some x→bR e=some x→d=e
 | .int i,e,x,h,h'=>by
  unfold bR at h;cases h
  cases e<;>unfold bR at h'<;>first | (cases h';rfl) | cases h' | (obtain⟨xs,q1,q2⟩:=dB h';cases q2)
 | .lst ds,e,x,h,h'=>by
  unfold bR at h
  obtain⟨xs,h1,rfl⟩:=dB h
  cases e with
  | lst es=>unfold bR at h';obtain⟨ys,q1,q2⟩:=dB h';cases q2;rw[oR ds es xs h1 q1]
  | tup es=>unfold bR at h';obtain⟨ys,q1,q2⟩:=dB h';cases q2
  | _=>unfold bR at h';cases h'
 | .tup ds,e,x,h,h'=>by
  unfold bR at h
  obtain⟨xs,h1,rfl⟩:=dB h
  cases e with
  | tup es=>unfold bR at h';obtain⟨ys,q1,q2⟩:=dB h';cases q2;rw[oR ds es xs h1 q1]
  | lst es=>unfold bR at h';obtain⟨ys,q1,q2⟩:=dB h';cases q2
  | _=>unfold bR at h';cases h'
 | .non,e,x,h,h'=>by
  unfold bR at h;cases h
  cases e<;>unfold bR at h'<;>first | (cases h';rfl) | cases h' | (obtain⟨xs,q1,q2⟩:=dB h';cases q2)
 | .bl _,e,x,h,h'=>by unfold bR at h;cases h
 | .str _,e,x,h,h'=>by unfold bR at h;cases h
 | .dk _ _,e,x,h,h'=>by unfold bR at h;cases h
 | .dt _ _,e,x,h,h'=>by unfold bR at h;cases h
 | .ins _ _ _,e,x,h,h'=>by unfold bR at h;cases h
theorem oR:∀(ds es:List D)(xs:List DV),fK ds=some xs→fK es=some xs→ds=es
 | [],[],xs,h,h'=>rfl
 | [],e::es,xs,h,h'=>by
  unfold fK at h h'
  cases h
  obtain⟨x,h1,h2⟩:=aO h'
  obtain⟨xt,h3,h4⟩:=aO h2
  cases h4
 | d::ds,[],xs,h,h'=>by
  unfold fK at h h'
  cases h'
  obtain⟨x,h1,h2⟩:=aO h
  obtain⟨xt,h3,h4⟩:=aO h2
  cases h4
 | d::ds,e::es,xs,h,h'=>by
  unfold fK at h h'
  obtain⟨x,h1,h2⟩:=aO h
  obtain⟨xt,h3,h4⟩:=aO h2
  cases h4
  obtain⟨y,k1,k2⟩:=aO h'
  obtain⟨yt,k3,k4⟩:=aO k2
  cases k4
  rw[Ly d e x h1 k1,oR ds es xt h3 k3]
end
noncomputable def Ss(a b:D):Option D:=match toV a,toV b with
 | some x,some y=>if Qv x y=true then some (.bl (decide (x=y)))else none
 | _,_=>match bR a,bR b with
  | some x,some y=>if x.depth≤32 then some (.bl (jD x y))else none
  | _,_=>none
theorem Vk:Qi K (λx y H Q=>QS x y H Q∨Xu K false x y H Q) Ss:=λx y H a b d Q ra rb q k=>by
 unfold Ss at q
 split at q
 ·rename_i u v h1 h2
  split at q
  ·rename_i hs
   cases q
   rw[oO h1 ra,oO h2 rb]
   exact .inl ⟨hs,k _ H (aD.refl _) (.cY rfl (by unfold Rv;rfl))⟩
  ·cases q
 ·split at q
  ·rename_i u v h1 h2
   split at q
   ·rename_i hs
    cases q
    exact .inr ⟨u,v,gZ a u x h1 ra,gZ b v y h2 rb,hs,k _ H (aD.refl _) (.cY rfl (by unfold Rv;rfl))⟩
   ·cases q
  ·cases q
noncomputable def Fg(a b:D):Option D:=match toV a,toV b with
 | some x,some y=>if Qv x y=true then some (.bl (!decide (x=y)))else none
 | _,_=>match bR a,bR b with
  | some (.lst x),some (.lst y)=>if bF x≤32 then some (.bl (!jD (.lst x) (.lst y)))else none
  | some (.tup x),some (.tup y)=>if bF x≤32 then some (.bl (!jD (.tup x) (.tup y)))else none
  | _,_=>none
def IW(K:aA):R2:=λx y H Q=>WD x y H Q∨(∃ds es,Reads K H (.lst ds) x∧Reads K H (.lst es) y∧bF ds≤32∧Q (.bl (!jD (.lst ds) (.lst es))) H)∨(∃ds es,Reads K H (.tup ds) x∧Reads K H (.tup es) y∧bF ds≤32∧Q (.bl (!jD (.tup ds) (.tup es))) H)
theorem zO:Qi K (IW K) Fg:=λx y H a b d Q ra rb q k=>by
 unfold Fg at q
 split at q
 ·rename_i u v h1 h2
  split at q
  ·rename_i hs
   cases q
   rw[oO h1 ra,oO h2 rb]
   exact .inl ⟨hs,k _ H (aD.refl _) (.cY rfl (by unfold Rv;rfl))⟩
  ·cases q
 ·split at q
  ·rename_i u v h1 h2
   split at q
   ·rename_i hs
    cases q
    exact .inr (.inl ⟨u,v,gZ a _ x h1 ra,gZ b _ y h2 rb,hs,k _ H (aD.refl _) (.cY rfl (by unfold Rv;rfl))⟩)
   ·cases q
  ·rename_i u v h1 h2
   split at q
   ·rename_i hs
    cases q
    exact .inr (.inr ⟨u,v,gZ a _ x h1 ra,gZ b _ y h2 rb,hs,k _ H (aD.refl _) (.cY rfl (by unfold Rv;rfl))⟩)
   ·cases q
  ·cases q
theorem or_eq(hu:X.A.units+64<cLine)(hk:X.K=K):nZ X (compareOp .Eq) (λx y H Q=>QS x y H Q∨Xu K false x y H Q):=by subst hk;exact FZ.or (Xv hu)
theorem zP(hu:X.A.units+64<cLine)(hk:X.K=K):nZ X (compareOp .NotEq) (IW K):=by subst hk;exact GC.or ((Xw hu).or (Yb hu))
def lG:List D→Option (List V)
 | []=>some []
 | d::ds=>(toV d).bind λx=>(lG ds).bind λxs=>some (x::xs)
theorem wX{H:Hp}:∀{ds:List D} {vs xs:List V},lG ds=some vs→bA K H ds xs→xs=vs
 | [],vs,xs,h,r=>by unfold lG at h;cases h;unfold bA at r;exact r
 | d::ds,vs,xs,h,r=>by
  unfold lG at h
  obtain⟨x,h1,h2⟩:=aO h
  obtain⟨xt,h3,h4⟩:=aO h2
  cases h4
  unfold bA at r
  obtain⟨y,ys,rfl,r2,r3⟩:=r
  rw[oO h1 r2,wX h3 r3]
def jG:D→Option (List D)
 | .lst ds=>some ds
 | .tup ds=>some ds
 | _=>none
theorem wY{H:Hp}{d:D}{ds:List D}{v:V}(h:jG d=some ds)(r:Rv K H d v):∃p xs,v=.ref p∧(eN K H p xs∨lC K H p xs)∧bA K H ds xs:=by
 cases d with
 | lst es=>unfold jG at h;cases h;unfold Rv at r;obtain⟨p,xs,r1,r2,r3⟩:=r;exact⟨p,xs,r1,.inl r2,r3⟩
 | tup es=>unfold jG at h;cases h;unfold Rv at r;obtain⟨p,xs,r1,r2,r3⟩:=r;exact⟨p,xs,r1,.inr r2,r3⟩
 | _=>unfold jG at h;cases h
def Yl(neg:Bool)(a b:D):Option D:=(toV a).bind λx=>(jG b).bind λds=>(lG ds).bind λxs=>if jA x=true∧xs.all jA=true then some (.bl (if neg then !inV x xs else inV x xs))else none
theorem Vl(neg:Bool):Qi K (QZ K neg) (Yl neg):=λx y H a b d Q ra rb q k=>by
 unfold Yl at q
 obtain⟨u,h1,q⟩:=aO q
 obtain⟨ds,h2,q⟩:=aO q
 obtain⟨us,h3,q⟩:=aO q
 split at q
 ·rename_i c
  cases q
  obtain⟨p,xs,rfl,r2,r3⟩:=wY h2 rb
  have:=wX h3 r3
  subst this
  rw[oO h1 ra]
  exact⟨p,xs,rfl,r2,c.1,c.2,k _ H (aD.refl _) (.cY rfl (by unfold Rv;rfl))⟩
 ·cases q
theorem zQ(hk:X.K=K):nZ X (compareOp .NotIn) (QZ K true):=by subst hk;exact wF
end
section
variable{κ:Type} [DecidableEq κ] {K:aA} {H:Hp}
def posK:List κ→κ→Option Nat
 | [],_=>none
 | a::ks,k=>if a=k then some 0 else(posK ks k).map (·+1)
theorem mZ:∀{ks:List κ} {xs:List V} {k:κ},ks.length=xs.length→lD (ks.zip xs) k=(posK ks k).bind λj=>xs[j]?
 | [],xs,k,h=>by unfold posK;rfl
 | a::ks,[],k,h=>by simp at h
 | a::ks,x::xs,k,h=>by
  have ih:=mZ (ks:=ks) (xs:=xs) (k:=k) (by simpa using h)
  unfold posK
  rw[L5]
  unfold lD at ih ⊢
  rw[K4]
  by_cases c:a=k
  ·rw[if_pos c,decide_eq_true c];rfl
  ·rw[if_neg c,decide_eq_false c]
   show V8 _ (List.find? _ (ks.zip xs))=_
   rw[ih]
   cases posK ks k<;>rfl
theorem wZ:∀{ks:List κ} {k:κ} {j:Nat},posK ks k=some j→j<ks.length∧ks[j]?=some k
 | [],k,j,h=>by unfold posK at h;cases h
 | a::ks,k,j,h=>by
  unfold posK at h
  split at h
  ·rename_i c;cases h;exact⟨by simp,by simp[c]⟩
  ·obtain⟨i,h1,rfl⟩:=dB h
   obtain⟨a1,a2⟩:=wZ h1
   exact⟨by simpa using a1,by simpa using a2⟩
theorem oU:∀{ks:List κ} {k:κ},posK ks k=none↔k∉ks
  | [],k=>by unfold posK;simp
  | a::ks,k=>by
    unfold posK
    have ih:=oU (ks:=ks) (k:=k)
    split
    · rename_i c;simp[c]
    · rename_i c
      rw[R9,ih,B6]
      constructor
      · rintro h (q | q)
        · exact c q.symm
        · exact h q
      · intro h q;exact h (.inr q)
def xF(ks:List κ)(k:κ):List κ:=if(posK ks k).isSome then ks else ks++[k]
def putD{β:Type}(ks:List κ)(ds:List β)(k:κ)(d:β):List β:=if(posK ks k).isSome then Q1 (λk' d'=>if k'=k then d else d') ks ds else ds++[d]
theorem zR{β:Type}{ks:List κ}{ds:List β}{k:κ}{d:β}(h:ks.length=ds.length):(xF ks k).length=(putD ks ds k d).length:=by
 unfold xF putD
 split
 ·rw[List.length_zipWith,h,U0]
 ·rw[D1,D1,h];rfl
theorem Lz{ks:List κ}{xs:List V}{k:κ}{v:V}(h:ks.length=xs.length):putK (ks.zip xs) k v=(xF ks k).zip (putD ks xs k v):=by
 have ha:((ks.zip xs).any λkv=>decide (kv.1=k))=(posK ks k).isSome:=by
  rw[qP,mZ h]
  cases q:posK ks k with
  | none=>rfl
  | some j=>
   obtain⟨h1,h2⟩:=wZ q
   rw[D2,B3 (by omega)]
   rfl
 unfold putK xF putD
 rw[ha]
 by_cases c:(posK ks k).isSome=true
 ·rw[if_pos c,if_pos c,if_pos c]
  clear ha c
  induction ks generalizing xs with
  | nil=>rfl
  | cons a ks ih=>
   cases xs with
   | nil=>simp at h
   | cons x xs=>
    rw[L5,B8,G8,L5,ih (by simpa using h)]
    split<;>rfl
 ·rw[if_neg c,if_neg c,if_neg c,List.zip_append h]
  rfl
end
def Su:D→Option Key
 | .int i=>some (.inl i)
 | .str x=>some (.inr x)
 | _=>none
theorem Fi{K:aA}{H:Hp}{d:D}{k:Key}{v:V}(h:Su d=some k)(r:Rv K H d v):v=kV k:=by
 cases d<;>unfold Su at h<;>first | (cases h;unfold Rv at r;exact r) | cases h
def kD:Key→D
 | .inl i=>.int i
 | .inr x=>.str x
section
variable{K:aA}{X:Cx}{e a b c:Expr}{es:List Expr}{t ta tb:TE}{f g:FE}{pos:Pos}
def mD(neg:Bool)(k d:D):Option D:=match d with
 | .dk ks ds=>(Su k).bind λk=>some (.bl (if neg then !(posK ks k).isSome else(posK ks k).isSome))
 | _=>none
theorem Cz{ks:List Key}{xs:List V}{k:Key}(h:ks.length=xs.length):(lD (ks.zip xs) k).isSome=(posK ks k).isSome:=by
 rw[mZ h]
 cases q:posK ks k with
 | none=>rfl
 | some j=>
  obtain⟨h1,h2⟩:=wZ q
  rw[D2,B3 (by omega)]
  rfl
theorem zT{H:Hp}{x y:V}{ka d r:D}{neg:Bool}(h:mD neg ka d=some r)(rk:Rv K H ka y)(rd:Rv K H d x):∃p o,x=.ref p∧Kw H p y o∧r=.bl (if neg then !o.isSome else o.isSome):=by
 unfold mD at h
 split at h
 ·rename_i ks ds
  obtain⟨k,h1,h2⟩:=aO h
  cases h2
  unfold Rv at rd
  obtain⟨p,xs,r1,r2,r3,r4⟩:=rd
  refine⟨p,lD (ks.zip xs) k,r1,.inl ⟨_,k,r2,Fi h1 rk,rfl⟩,?_⟩
  rw[Cz r3]
 ·cases h
theorem Dc(hu:X.A.units+1<cLine)(ha:XR K X a ta f)(hb:XR K X b tb g)(h1:behindInMarks .In b=false:=by first | exact nobehind _ (by decide) (by decide) | rfl):XN K X (.Compare a [.In] [b] pos) (Xo ta tb) (f2 (mD false) f g):=
 ⟨ha.hk,Jw (Kz hu ha.pe hb.pe) h1,λσ H e d Q re q k=>by
  obtain⟨da,db,q1,q2,q3⟩:=pW q
  refine ha.ev σ H H e da _ (Zn.self K H) re q1 λx H1 Z1 s1 t1 z1 rx=>hb.ev σ H1 Z1 e db _ z1 (re.same t1) q2 λy H2 Z2 s2 t2 z2 ry=>?_
  obtain⟨p,o,e1,e2,e3⟩:=zT q3 (z2.sm.rv _ _ (t2.rv _ _ rx)) (z2.sm.rv _ _ ry)
  subst e3
  exact⟨p,o,e1,e2,k _ H2 (s1.trans s2) (.cY rfl (by unfold Rv;rfl))⟩⟩
theorem Ij(hu:X.A.units+1<cLine)(ha:XR K X a ta f)(hb:XR K X b tb g)(h1:behindInMarks .NotIn b=false:=by first | exact nobehind _ (by decide) (by decide) | rfl):XN K X (.Compare a [.NotIn] [b] pos) (wJ ta tb) (f2 (mD true) f g):=
 ⟨ha.hk,Jw (uO hu ha.pe hb.pe) h1,λσ H e d Q re q k=>by
  obtain⟨da,db,q1,q2,q3⟩:=pW q
  refine ha.ev σ H H e da _ (Zn.self K H) re q1 λx H1 Z1 s1 t1 z1 rx=>hb.ev σ H1 Z1 e db _ z1 (re.same t1) q2 λy H2 Z2 s2 t2 z2 ry=>?_
  obtain⟨p,o,e1,e2,e3⟩:=zT q3 (z2.sm.rv _ _ (t2.rv _ _ rx)) (z2.sm.rv _ _ ry)
  subst e3
  exact⟨p,o,e1,e2,k _ H2 (s1.trans s2) (.cY rfl (by unfold Rv;rfl))⟩⟩
theorem Vm{op:CmpOp}(h:XN K X (.Compare a [op] [b] pos) t f)(pc:PC X op a b t)(h1:behindInMarks op b=false):XT K X (.Compare a [op] [b] pos) (tB t) (fB f):=⟨h.hk,Wk pc h1,Vj h.ev.r⟩
theorem Ym(hu:X.A.units+1<cLine)(ha:XR K X a ta f)(hb:XR K X b tb g)(h1:behindInMarks .In b=false:=by first | exact nobehind _ (by decide) (by decide) | rfl):XT K X (.Compare a [.In] [b] pos) (tB (Xo ta tb)) (fB (f2 (mD false) f g)):=Vm (Dc hu ha hb h1) (Kz hu ha.pe hb.pe) h1
theorem uU(hu:X.A.units+1<cLine)(ha:XR K X a ta f)(hb:XR K X b tb g)(h1:behindInMarks .NotIn b=false:=by first | exact nobehind _ (by decide) (by decide) | rfl):XT K X (.Compare a [.NotIn] [b] pos) (tB (wJ ta tb)) (fB (f2 (mD true) f g)):=Vm (Ij hu ha hb h1) (uO hu ha.pe hb.pe) h1
def xG(a i:D):Option D:=match i with
 | .int i=>(jG a).bind λds=>Kr ds i
 | _=>none
theorem Vn{H:Hp}{ds:List D}{xs:List V}{i:Int}{d:D}(r:bA K H ds xs)(h:Kr ds i=some d):∃v,Kr xs i=some v∧Rv K H d v:=by
 unfold Kr at h ⊢
 obtain⟨j,h1,h2⟩:=aO h
 rw[r.length,h1]
 exact r.get h2
theorem JB(hk:X.K=K):Qe X (QX K):=by subst hk;exact Xi
theorem pK(ha:XR K X a ta f)(hb:XR K X b tb g)(hs:Es b):XR K X (.Subscript a b pos) (Ke (QX K) ta tb) (f2 xG f g):=
 ⟨ha.hk,GR (JB ha.hk) ha.pe hb.pe hs,IK (λx y H Z da db d Q z ra rb q k=>by
  unfold xG at q
  split at q
  ·rename_i i
   obtain⟨ds,h1,h2⟩:=aO q
   unfold Rv at rb
   cases da with
   | lst es=>
    unfold jG at h1;cases h1
    unfold Rv at ra
    obtain⟨p,xs,r1,r2,r3⟩:=ra
    obtain⟨v,e1,e2⟩:=Vn r3 h2
    exact .inl ⟨p,xs,i,v,r1,rb,z.sm.seq r2,e1,k v H Z (aD.refl _) (aD.refl _) z e2⟩
   | tup es=>
    unfold jG at h1;cases h1
    unfold Rv at ra
    obtain⟨p,xs,r1,r2,r3⟩:=ra
    obtain⟨v,e1,e2⟩:=Vn r3 h2
    exact .inr (.inl ⟨p,xs,i,v,r1,rb,z.sm.tup r2,e1,k v H Z (aD.refl _) (aD.refl _) z e2⟩)
   | _=>unfold jG at h1;cases h1
  ·cases q) ha.ev hb.ev⟩
end
end L2


namespace L2
open PySem PySem.Spec PyProof.Rows
section
variable{K:aA}{X:Cx}{e a b c:Expr}{es rest:List Expr}{t ta tb:TE}{f g:FE}{tA:TA}{fs:FA}{pos:Pos}{tc:TT}{fc fd:FT}{td:TT}
theorem aP(hk:X.K=K:=by rfl):XA K X [] yW aN:=⟨hk,lX,Yg⟩
theorem aH(h:XR K X e t f)(hs:XA K X es tA fs)(hst:starEach (e::es) X.env=(false,eval e X.env)::starEach es X.env:=by rfl):XA K X (e::es) (pI t tA) (aF f fs):=⟨h.hk,gY h.pe hs.pa hst,Sd h.ev hs.ev⟩
theorem oV(hk:X.K=K:=by rfl):XB K X [] yW aN:=⟨hk,lX,Yh⟩
theorem Fj(h:XN K X e t f)(hs:XB K X es tA fs)(hst:starEach (e::es) X.env=(false,eval e X.env)::starEach es X.env:=by rfl):XB K X (e::es) (pI t tA) (aF f fs):=⟨h.hk,gY h.pe hs.pa hst,Sg h.ev hs.ev⟩
theorem rH(h:XB K X es tA fs):XN K X (.List es pos) (Kh tA) (mC fs):=⟨h.hk,Kl h.pa,Yi h.ev⟩
theorem Dd(h:XA K X es tA fs):XR K X (.List es pos) (Kh tA) (mC fs):=⟨h.hk,Kl h.pa,Yk h.ev⟩
theorem Yn{x1:Nat}(h:XB K X es tA fs):XN K X (.Tuple es x1 pos) (Xc tA) (Sh fs):=⟨h.hk,Xd h.pa,Yj h.ev⟩
theorem Sv:Bu K Cj (fC (.dk [] [])):=λσ H e d Q re q k=>by
 cases q
 intro p hp
 refine k _ _ (bC hp _) ⟨(·=p),?_,λa q=>by cases q;exact hp⟩
 unfold Ow
 exact⟨p,[],nil,rfl,aV,rfl,λz=>z,λx=>⟨.inl,λz=>z.elim id False.elim⟩,by unfold bO;exact⟨λ_ z=>z,rfl⟩⟩
theorem Sw(hk:X.K=K:=by rfl):XN K X (.Dict [] [] pos) Cj (fC (.dk [] [])):=⟨hk,La,Sv⟩
def xH(f g:FT):FT:=λe=>(f e).bind λc=>if c=true then g e else some false
def Yo(f g:FT):FT:=λe=>(f e).bind λc=>if c=true then some true else g e
def zU(f:FT):FT:=λe=>(f e).map λc=>!c
theorem Yp(h1:Cw K tc fc)(h2:Cw K td fd):Cw K (Wm tc td) (xH fc fd):=λσ H e b Q re q k=>by
 unfold xH at q
 obtain⟨c,q1,q2⟩:=aO q
 refine h1 σ H e c _ re q1 λH1 s1=>?_
 cases c with
 | true=>rw[if_pos rfl]at q2 ⊢;exact h2 σ H1 e b Q (re.same s1) q2 λH2 s2=>k H2 (s1.trans s2)
 | false=>rw[if_neg (by decide)]at q2 ⊢;cases q2;exact k H1 s1
theorem JC(h1:Cw K tc fc)(h2:Cw K td fd):Cw K (QK tc td) (Yo fc fd):=λσ H e b Q re q k=>by
 unfold Yo at q
 obtain⟨c,q1,q2⟩:=aO q
 refine h1 σ H e c _ re q1 λH1 s1=>?_
 cases c with
 | false=>rw[if_neg (by decide)]at q2 ⊢;exact h2 σ H1 e b Q (re.same s1) q2 λH2 s2=>k H2 (s1.trans s2)
 | true=>rw[if_pos rfl]at q2 ⊢;cases q2;exact k H1 s1
theorem Yq(h1:Cw K tc fc):Cw K (Wn tc) (zU fc):=λσ H e b Q re q k=>by
 unfold zU at q
 obtain⟨c,q1,rfl⟩:=dB q
 exact h1 σ H e c _ re q1 k
theorem XW.xt(h:XW K X e tc fc):XT K X e tc fc:=⟨h.hk,h.pw.pt,h.ev⟩
theorem Sx(h:XT K X a tc fc):XW K X (.BoolOp .And [a] pos) tc fc:=⟨h.hk,Qo h.pt,h.ev⟩
theorem Yr(h:XT K X a tc fc):XW K X (.BoolOp .Or [a] pos) tc fc:=⟨h.hk,Wo h.pt,h.ev⟩
theorem Ys(h:XT K X a tc fc)(h2:XW K X (.BoolOp .And (b::rest) pos) td fd):XW K X (.BoolOp .And (a::b::rest) pos) (Wm tc td) (xH fc fd):=⟨h.hk,Wq h.pt h2.pw,Yp h.ev h2.ev⟩
theorem Vo(h:XT K X a tc fc)(h2:XW K X (.BoolOp .Or (b::rest) pos) td fd):XW K X (.BoolOp .Or (a::b::rest) pos) (QK tc td) (Yo fc fd):=⟨h.hk,DR h.pt h2.pw,JC h.ev h2.ev⟩
theorem Ma(h:XT K X a tc fc):XT K X (.UnaryOp .Not a pos) (Wn tc) (zU fc):=⟨h.hk,Wr h.pt,Yq h.ev⟩
def zV(f:FE):FE:=λe=>(fB f e).map λc=>.bl (!c)
theorem Yt(h:XR K X a ta f):XN K X (.UnaryOp .Not a pos) (Ux ta) (zV f):=⟨h.hk,Ws h.pe,λσ H e d Q re q k=>by
 unfold zV at q
 obtain⟨c,q1,rfl⟩:=dB q
 refine h.ev σ H H e _ _ (Zn.self K H) re (wW q1) λv H1 Z1 s1 t1 z1 rv=>?_
 unfold Rv at rv
 exact⟨c,rv,k _ H1 s1 (.cY rfl (by unfold Rv;rfl))⟩⟩
def fL(φ:List D→Option D)(fs:FA):FE:=λe=>(fs e).bind φ
def lR(K:aA)(r:List V→Hp→VK→Prop)(φ:List D→Option D):Prop:=∀(vs:List V)(H:Hp)(ds:List D)(d:D)(Q:VK),bA K H ds vs→φ ds=some d →
 (∀v H',aD H H'→Br K H H' d v→Q v H')→r vs H Q
theorem Vp{r:List V→Hp→VK→Prop}{φ:List D→Option D}(o:lR K r φ)(h:CP K tA fs):Bu K (GP r tA) (fL φ fs):=λσ H e d Q re q k=>by
 obtain⟨ds,q1,q2⟩:=aO q
 exact h σ H H e ds _ (Zn.self K H) re q1 λvs H1 Z1 s1 t1 z1 rs=>o vs H1 ds d Q (z1.sm.Jq _ _ rs) q2 λv H2 s2 n=>k v H2 (s1.trans s2) (n.back s1)
theorem gF{r:List V→Hp→VK→Prop}{φ:List D→Option D}{x:Str}{id:String}{p:Pos}(o:lR K r φ)(hc:dY X (.builtin id) r)(hg:Gl X x)(hm:X.mg x=none)(hv:bootBuiltins x=some (.builtin id))(ha:XA K X (e::es) tA fs)(hn:x ≠ "__name__" := by decide) (hdb:(x==("__debug__" : Str))=false:=by decide)
  (he:starEach (e::es) X.env=(false,eval e X.env)::starEach es X.env:=by rfl) (hpl:(backTo pos (starEach es X.env)).any (·.1)=false:=by rfl):XN K X (.Call (.Name x p) (e::es) [] pos) (GP r tA) (fL φ fs):=⟨ha.hk,Km hc hg hm hv ha.pa hn hdb he hpl,Vp o ha.ev⟩
theorem Vq{r:List V→Hp→VK→Prop}{φ:List D→Option D}{x:Str}{id:String}{p:Pos}(o:lR K r φ)(hc:dY X (.type id) r)(hg:Gl X x)(hm:X.mg x=none)(hv:bootBuiltins x=some (.type id))(ha:XA K X (e::es) tA fs)(hn:x ≠ "__name__" := by decide) (hdb:(x==("__debug__" : Str))=false:=by decide)
  (he:starEach (e::es) X.env=(false,eval e X.env)::starEach es X.env:=by rfl) (hpl:(backTo pos (starEach es X.env)).any (·.1)=false:=by rfl):XN K X (.Call (.Name x p) (e::es) [] pos) (GP r tA) (fL φ fs):=⟨ha.hk,Hu hc hg hm hv ha.pa hn hdb he hpl,Vp o ha.ev⟩
theorem fU{H:Hp}{d:D}{vs:List V}(h:bA K H [d] vs):∃v,vs=[v]∧Rv K H d v:=by
 unfold bA at h
 obtain⟨y,ys,rfl,h1,h2⟩:=h
 unfold bA at h2
 subst h2
 exact⟨y,rfl,h1⟩
theorem Yu{H:Hp}{d d':D}{vs:List V}(h:bA K H [d,d'] vs):∃v v',vs=[v,v']∧Rv K H d v∧Rv K H d' v':=by
 unfold bA at h
 obtain⟨y,ys,rfl,h1,h2⟩:=h
 obtain⟨v,rfl,h3⟩:=fU h2
 exact⟨y,v,rfl,h1,h3⟩
def gG:List D→Option D
 | [d]=>(jG d).map λds=>.int ds.length
 | _=>none
def JD(K:aA):List V→Hp→VK→Prop:=λxs H Q=>∃p ys,xs=[.ref p]∧(eN K H p ys∨lC K H p ys)∧Q (.int ys.length) H
theorem iB:lR K (JD K) gG:=λvs H ds d Q rs q k=>by
 unfold gG at q
 split at q
 ·rename_i d0
  obtain⟨es,q1,rfl⟩:=dB q
  obtain⟨v,rfl,r⟩:=fU rs
  obtain⟨p,xs,rfl,r2,r3⟩:=wY q1 r
  refine⟨p,xs,rfl,r2,k _ H (aD.refl _) (.cY rfl ?_)⟩
  rw[r3.length];unfold Rv;rfl
 ·cases q
theorem iC(hk:X.K=K):dY X (.builtin "len") (JD K):=by subst hk;exact wG
def xJ:List D→Option D
 | [.dk ks ds]=>some (.lst (ks.map kD))
 | _=>none
theorem uV:∀ks:List Key,D.bU (ks.map kD)=true
 | []=>by rw[E2];unfold D.bU;rfl
 | k::ks=>by rw[B8];unfold D.bU;rw[uV ks];cases k<;>(unfold kD D.cY;rfl)
theorem zW{H:Hp}:∀ks:List Key,bA K H (ks.map kD) (ks.map kV)
 | []=>by rw[E2,E2];unfold bA;rfl
 | k::ks=>by rw[B8,B8];unfold bA;exact⟨_,_,rfl,by cases k<;>(unfold kD kV Rv;rfl),zW ks⟩
def Yv:List V→Hp→VK→Prop:=λxs H Q=>∃p kvs,xs=[.ref p]∧Rd H p (.dK kvs)∧∀l,H l=none→Q (.ref l) (upd H l (.lst (kvs.map λkv=>kV kv.1)))
theorem Mf{ks:List Key}{xs:List V}(h:ks.length=xs.length):((ks.zip xs).map λkv=>kV kv.1)=ks.map kV:=by
 have:((ks.zip xs).map λkv=>kV kv.1)=((ks.zip xs).map Prod.fst).map kV:=by rw[K1];rfl
 rw[this,V1 (by omega)]
theorem Mg:lR K Yv xJ:=λvs H ds d Q rs q k=>by
 unfold xJ at q
 split at q
 ·rename_i ks es
  cases q
  obtain⟨v,rfl,r⟩:=fU rs
  unfold Rv at r
  obtain⟨p,xs,rfl,r2,r3,r4⟩:=r
  refine⟨p,_,rfl,r2,λl hl=>?_⟩
  rw[Mf r3]
  exact k _ _ (bC hl _) (mY (aD.refl _) (.bU (uV ks) (zW ks)) hl)
 ·cases q
def rJ:List D→Option D
 | [d]=>(jG d).bind λds=>if D.bU ds=true then some (.tup ds)else none
 | _=>none
def Mh(K:aA):List V→Hp→VK→Prop:=λxs H Q=>∃p ys,xs=[.ref p]∧((eN K H p ys∧∀l,H l=none→Q (.ref l) (upd H l (.tup ys)))∨(lC K H p ys∧Q (.ref p) H))
theorem Mi:lR K (Mh K) rJ:=λvs H ds d Q rs q k=>by
 unfold rJ at q
 split at q
 ·rename_i d0
  obtain⟨es,q1,q2⟩:=aO q
  split at q2
  ·rename_i hi
   cases q2
   obtain⟨v,rfl,r⟩:=fU rs
   obtain⟨p,xs,rfl,r2,r3⟩:=wY q1 r
   refine⟨p,xs,rfl,?_⟩
   rcases r2 with r2 | r2
   ·exact .inl ⟨r2,λl hl=>k _ _ (bC hl _) (Ff (.bU hi r3) hl)⟩
   ·exact .inr ⟨r2,k _ H (aD.refl _) (.cY (by unfold D.cY;exact hi) (by unfold Rv;exact⟨p,xs,rfl,r2,r3⟩))⟩
  ·cases q2
 ·cases q
theorem Mj(hk:X.K=K):dY X (.type "tuple") (Mh K):=by subst hk;exact uA
def intsOf:List D→Option (List Int)
 | []=>some []
 | .int i::ds=>(intsOf ds).map (i::·)
 | _=>none
theorem eX:∀ns:List Int,intsOf (ns.map D.int)=some ns
 | []=>rfl
 | n::ns=>by rw[B8];unfold intsOf;rw[eX ns];rfl
theorem jH:∀{ds:List D} {ns:List Int},intsOf ds=some ns→ds=ns.map D.int
 | [],ns,h=>by unfold intsOf at h;cases h;rfl
 | d::ds,ns,h=>by
  cases d with
  | int i=>
   unfold intsOf at h
   obtain⟨ms,h1,rfl⟩:=dB h
   rw[B8,←jH h1]
  | _=>unfold intsOf at h;cases h
theorem dJ{H:Hp}:∀{ns:List Int} {xs:List V},bA K H (ns.map D.int) xs↔xs=ns.map V.int
 | [],xs=>by rw[E2,E2];unfold bA;rfl
 | n::ns,xs=>by
  rw[B8,B8]
  unfold bA
  constructor
  ·rintro⟨y,ys,rfl,h1,h2⟩
   unfold Rv at h1
   rw[h1,dJ.mp h2]
  ·rintro rfl
   exact⟨_,_,rfl,by unfold Rv;rfl,dJ.mpr rfl⟩
theorem bY:∀ns:List Int,D.bU (ns.map D.int)=true
 | []=>by rw[E2];unfold D.bU;rfl
 | n::ns=>by rw[B8];unfold D.bU D.cY;rw[bY ns];rfl
theorem rK{H:Hp}{ds:List D}{ns:List Int}{v:V}(h:intsOf ds=some ns)(r:Rv K H (.lst ds) v):∃p,v=.ref p∧eN K H p (ns.map V.int):=by
 rw[jH h]at r
 unfold Rv at r
 obtain⟨p,xs,r1,r2,r3⟩:=r
 rw[dJ.mp r3]at r2
 exact⟨p,r1,r2⟩
def sortI(ns:List Int):List Int:=ns.mergeSort λa b=>decide (a≤b)
theorem eE(ns:List Int):rising ns (sortI ns):=⟨List.mergeSort_perm _ _,by
 have h:=List.pairwise_mergeSort (le:=λa b:Int=>decide (a≤b)) (λa b c h1 h2=>decide_eq_true (Int.le_trans (of_decide_eq_true h1) (of_decide_eq_true h2))) (λa b=>by
  rw[M7,decide_eq_true_iff,decide_eq_true_iff];exact Int.le_total a b) ns
 exact h.imp λh=>of_decide_eq_true h⟩
theorem uW:∀{l m:List Int},l.Pairwise (·≤·)→m.Pairwise (·≤·)→l.Perm m→l=m
  | [],m,_,_,p=>(List.Perm.nil_eq p)
  | a::l,[],_,_,p=>absurd p.symm (by simp)
  | a::l,b::m,h1,h2,p=>by
    obtain⟨MT,RK⟩:=E3.mp h1
    obtain⟨NB,RL⟩:=E3.mp h2
    have e:a=b:=by
      have q1:a∈b::m:=p.mem_iff.mp B7
      have q2:b∈a::l:=p.mem_iff.mpr B7
      rcases B6.mp q1 with q1 | q1
      · exact q1
      · rcases B6.mp q2 with q2 | q2
        · exact q2.symm
        · have:=MT b q2
          have:=NB a q1
          omega
    subst e
    rw[uW RK RL (List.Perm.cons_inv p)]
theorem xK{ns ms:List Int}(h:rising ns ms):ms=sortI ns:=uW h.2 (eE ns).2 (h.1.trans (eE ns).1.symm)
def gH:List D→Option (List Bool)
 | []=>some []
 | .bl i::ds=>(gH ds).map (i::·)
 | _=>none
theorem zX{H:Hp}:∀{ds:List D} {bs:List Bool} {xs:List V},gH ds=some bs→bA K H ds xs→xs=bs.map V.bl
 | [],bs,xs,h,r=>by unfold gH at h;cases h;unfold bA at r;exact r
 | d::ds,bs,xs,h,r=>by
  cases d with
  | bl i=>
   unfold gH at h
   obtain⟨cs,h1,rfl⟩:=dB h
   unfold bA at r
   obtain⟨y,ys,rfl,r1,r2⟩:=r
   unfold Rv at r1
   rw[r1,zX h1 r2]
   rfl
  | _=>unfold gH at h;cases h
theorem jX{α:Type}(p:α→Bool):∀l:List α,gH (l.map λx=>D.bl (p x))=some (l.map p)
 | []=>rfl
 | a::l=>by rw[B8];unfold gH;rw[jX p l];rfl
def Ml:List D→Option D
 | [.lst ds]=>(gH ds).map λbs=>.bl (bs.all id)
 | _=>none
def Sy:List D→Option D
 | [.lst ds]=>(gH ds).map λbs=>.bl (bs.any id)
 | _=>none
def JF(K:aA):List V→Hp→VK→Prop:=λxs H Q=>∃(p:Addr)(bs:List Bool),xs=[.ref p]∧eN K H p (bs.map V.bl)∧Q (.bl (bs.all id)) H
def JG(K:aA):List V→Hp→VK→Prop:=λxs H Q=>∃(p:Addr)(bs:List Bool),xs=[.ref p]∧eN K H p (bs.map V.bl)∧Q (.bl (bs.any id)) H
theorem Fo{H:Hp}{ds:List D}{bs:List Bool}{v:V}(h:gH ds=some bs)(r:Rv K H (.lst ds) v):∃p,v=.ref p∧eN K H p (bs.map V.bl):=by
 unfold Rv at r
 obtain⟨p,xs,r1,r2,r3⟩:=r
 rw[zX h r3]at r2
 exact⟨p,r1,r2⟩
theorem Yw:lR K (JF K) Ml:=λvs H ds d Q rs q k=>by
 unfold Ml at q
 split at q
 ·obtain⟨bs,q1,rfl⟩:=dB q
  obtain⟨v,rfl,r⟩:=fU rs
  obtain⟨p,rfl,r2⟩:=Fo q1 r
  exact⟨p,bs,rfl,r2,k _ H (aD.refl _) (.cY rfl (by unfold Rv;rfl))⟩
 ·cases q
theorem Yx:lR K (JG K) Sy:=λvs H ds d Q rs q k=>by
 unfold Sy at q
 split at q
 ·obtain⟨bs,q1,rfl⟩:=dB q
  obtain⟨v,rfl,r⟩:=fU rs
  obtain⟨p,rfl,r2⟩:=Fo q1 r
  exact⟨p,bs,rfl,r2,k _ H (aD.refl _) (.cY rfl (by unfold Rv;rfl))⟩
 ·cases q
theorem Yy(hk:X.K=K)(hc:X.calm=true:=by rfl):dY X (.builtin "all") (JF K):=by subst hk;exact Li hc
theorem Yz(hk:X.K=K)(hc:X.calm=true:=by rfl):dY X (.builtin "any") (JG K):=by subst hk;exact Lj hc
def WY:List D→Option D
 | [.int i,.int j]=>some (.int (if j > i then j else i))
 | _=>none
def XC:List D→Option D
 | [.int i,.int j]=>some (.int (if j<i then j else i))
 | _=>none
def zY:List Int→Int
 | []=>0
 | [a]=>a
 | a::b::l=>let m:=zY (b::l);if m<a then m else a
theorem mF:∀{ns:List Int},0<ns.length→pU ns (zY ns)
 | [],h=>absurd h (by simp)
 | [a],_=>⟨B9.mpr rfl,λb hb=>by rw[B9.mp hb];exact R8 _⟩
 | a::b::l,_=>by
  obtain⟨h1,h2⟩:=mF (ns:=b::l) (by simp)
  unfold zY
  dsimp only
  split
  ·rename_i c
   refine⟨B4 _ h1,λx hx=>?_⟩
   rcases B6.mp hx with q | q
   ·omega
   ·exact h2 x q
  ·rename_i c
   refine⟨B7,λx hx=>?_⟩
   rcases B6.mp hx with q | q
   ·omega
   ·have:=h2 x q;omega
theorem De{ns:List Int}{m:Int}(h:pU ns m):m=zY ns:=by
 obtain⟨h1,h2⟩:=mF (N3 h.1)
 have:=h.2 _ h1
 have:=h2 _ h.1
 omega
def uX:List D→Option D
 | [.lst ds]=>(intsOf ds).bind λns=>if 0<ns.length then some (.int (zY ns))else none
 | _=>none
def Vr(K:aA):List V→Hp→VK→Prop:=λxs H Q=>∃(p:Addr)(ns:List Int),xs=[.ref p]∧eN K H p (ns.map V.int)∧0<ns.length∧∀m,pU ns m→Q (.int m) H
theorem Tc:lR K (Vr K) uX:=λvs H ds d Q rs q k=>by
 unfold uX at q
 split at q
 ·obtain⟨ns,q1,q2⟩:=aO q
  split at q2
  ·rename_i hl
   cases q2
   obtain⟨v,rfl,r⟩:=fU rs
   obtain⟨p,rfl,r2⟩:=rK q1 r
   refine⟨p,ns,rfl,r2,hl,λm hm=>?_⟩
   rw[De hm]
   exact k _ H (aD.refl _) (.cY rfl (by unfold Rv;rfl))
  ·cases q2
 ·cases q
theorem Td(hk:X.K=K)(hc:X.calm=true:=by rfl):dY X (.builtin "min") (Vr K):=by subst hk;exact Ii hc
def NK(neg:Bool)(a b:D):Option D:=match a,b with
 | .bl c,.bl k=>some (.bl (if neg then !(c==k)else c==k))
 | _,_=>none
theorem Ik{u v:Value}{A:Around}{s:Shared}{Q:Value→Shared→Prop}{E:Value→Shared→Prop}{c k:Bool}(hu:u=.bool c)(hv:v=.bool k)(h:Q (.bool (!(c==k))) s):wpAny (model X.prog X.w) A (compareOp .IsNot u v) Q E s:=by
 subst hu hv
 cases c<;>cases k<;>exact wpAny_pure h
theorem uY:nZ X (compareOp .IsNot) (λx y H Q=>∃c k,x=.bl c∧y=.bl k∧Q (.bl (!(c==k))) H):=by
 intro pins s σ H x y v u Q I rx ry h
 obtain⟨c,k,rfl,rfl,q⟩:=h
 exact Ik rx ry ⟨.bl _,H,I,rfl,q⟩
theorem uZ:Qi K (λx y H Q=>∃c k,x=.bl c∧y=.bl k∧Q (.bl (!(c==k))) H) (NK true):=λx y H a b d Q ra rb q k=>by
 unfold NK at q
 split at q
 ·cases q;unfold Rv at ra rb;exact⟨_,_,ra,rb,k _ H (aD.refl _) (.cY rfl (by unfold Rv;rfl))⟩
 ·cases q
end
end L2


namespace L2
open PySem PySem.Spec PyProof.Rows
section
variable{K:aA}{X:Cx}{e a b c:Expr}{es rest:List Expr}{t ta tb:TE}{f g:FE}{tA:TA}{fs:FA}{pos:Pos}{tc:TT}{fc fd:FT}{td:TT}
abbrev FO:=DE→Option (Option Int)
def aq(K:aA)(t:TO)(f:FO):Prop:=∀(σ:St)(H:Hp)(e:DE)(o:Option Int)(Q:Option Int→Hp→Prop),lF K H e σ→f e=some o→(∀H',aD H H'→Q o H')→t σ H Q
structure XO(K:aA)(X:Cx)(e:Option Expr)(t:TO)(f:FO):Prop where
 po:PO X e t
 ev:aq K t f
def rM:FO:=λ_=>some none
def cV(f:FE):FO:=λe=>(f e).bind λd=>match d with | .int i=>some (some i) | _=>none
theorem Fq:XO K X none Er rM:=⟨Ra,λσ H e o Q re q k=>by cases q;exact k H (aD.refl _)⟩
theorem pX(h:XR K X e t f):XO K X (some e) (Vc t) (cV f):=⟨Rb h.pe,λσ H e o Q re q k=>by
 unfold cV at q
 obtain⟨d,q1,q2⟩:=aO q
 split at q2
 ·rename_i i
  cases q2
  refine h.ev σ H H e _ _ (Zn.self K H) re q1 λv H1 Z1 s1 t1 z1 rv=>?_
  unfold Rv at rv
  exact⟨i,rv,k H1 s1⟩
 ·cases q2⟩
def lH{α:Type}(xs:List α)(lo hi:Option Int):List α:=(xs.drop (HT.qL xs.length 0 lo)).take (HT.qL xs.length xs.length hi-HT.qL xs.length 0 lo)
theorem bA.drop{H:Hp}:∀{ds:List D} {xs:List V} (n:Nat),bA K H ds xs→bA K H (ds.drop n) (xs.drop n)
 | ds,xs,0,h=>h
 | [],xs,n+1,h=>by unfold bA at h;subst h;simp;unfold bA;rfl
 | d::ds,xs,n+1,h=>by unfold bA at h;obtain⟨y,ys,rfl,_,h2⟩:=h;simpa using bA.drop n h2
theorem bA.take{H:Hp}:∀{ds:List D} {xs:List V} (n:Nat),bA K H ds xs→bA K H (ds.take n) (xs.take n)
 | ds,xs,0,h=>by simp;unfold bA;rfl
 | [],xs,n+1,h=>by unfold bA at h;subst h;simp;unfold bA;rfl
 | d::ds,xs,n+1,h=>by unfold bA at h;obtain⟨y,ys,rfl,h1,h2⟩:=h;rw[T5,T5];unfold bA;exact⟨y,_,rfl,h1,bA.take n h2⟩
theorem Te{H:Hp}{ds:List D}{xs:List V}(lo hi:Option Int)(h:bA K H ds xs):bA K H (lH ds lo hi) (Cg xs lo hi):=by
 unfold lH Cg
 rw[h.length]
 exact(h.drop _).take _
def Il(cY:Bool)(f:FE)(l h:FO):FE:=λe=>(f e).bind λd=>(l e).bind λlo=>(h e).bind λhi=>match d with
 | .lst ds=>if cY=false∨D.bU (lH ds lo hi)=true then some (.lst (lH ds lo hi))else none
 | _=>none
theorem Mm{cY:Bool}{f:FE}{l h:FO}{e:DE}{d:D}(q:Il cY f l h e=some d):∃ds lo hi,f e=some (.lst ds)∧l e=some lo∧h e=some hi∧(cY=false∨D.bU (lH ds lo hi)=true)∧d=.lst (lH ds lo hi):=by
 unfold Il at q
 obtain⟨d0,q1,q⟩:=aO q
 obtain⟨lo,q2,q⟩:=aO q
 obtain⟨hi,q3,q⟩:=aO q
 split at q
 ·split at q
  ·rename_i c;cases q;exact⟨_,lo,hi,q1,q2,q3,c,rfl⟩
  ·cases q
 ·cases q
theorem Tf(hk:X.K=K):QV X (Xj K):=by subst hk;exact Rg
variable{lo hi:Option Expr}{tl th:TO}{fl fh:FO}{p2:Pos}
theorem rN(h:XR K X e t f)(hl:XO K X lo tl fl)(hu:XO K X hi th fh):XR K X (.Subscript e (.Slice lo hi none p2) pos) (WM (Xj K) t tl th) (Il false f fl fh):=⟨h.hk,Kq (Tf h.hk) h.pe hl.po hu.po,λσ H Z e d Q z re q k=>by
 obtain⟨ds,lo,hi,q1,q2,q3,_,rfl⟩:=Mm q
 refine h.ev σ H Z e _ _ z re q1 λv H1 Z1 s1 t1 z1 rv=>hl.ev σ H1 e lo _ (re.same (z.sm.trans s1)) q2 λH2 s2=>hu.ev σ H2 e hi _ (re.same (z.sm.trans (s1.trans s2))) q3 λH3 s3=>?_
 have z3:=wV z1 (s2.trans s3)
 have t3:aD Z1 (wU Z1 H1 H3):=oK z1
 unfold Rv at rv
 obtain⟨p,xs,rfl,r2,r3⟩:=rv
 refine⟨p,xs,rfl,z3.sm.seq (t3.seq r2),λl hl=>?_⟩
 obtain⟨a1,a2⟩:=Lw (o:=.lst (Cg xs lo hi)) z3 hl
 exact k _ _ _ (s1.trans (s2.trans (s3.trans (bC hl _)))) (t1.trans (t3.trans a1)) a2 (by unfold Rv;exact⟨l,_,rfl,eN.of aV,a1.Jq _ _ (t3.Jq _ _ (Te lo hi r3))⟩)⟩
def Mp(K:aA):R2:=λx y H Q=>∃l b xs zs,x=.ref l∧y=.ref b∧eN K H l xs∧eN K H b zs∧xs.length+zs.length≤sizeLine∧∀p,H p=none→Q (.ref p) (upd H p (.lst (xs++zs)))
theorem Tg(hk:X.K=K):nZ X (binaryOp .Add) (Mp K):=by
 subst hk
 intro pins s σ H x y v u Q I rx ry h
 obtain⟨l,b,xs,zs,rfl,rfl,h1,h2,hz,q⟩:=h
 cases rx
 cases ry
 obtain⟨its,r,pl,_⟩:=I.list h1
 obtain⟨its2,r2,wR,_⟩:=I.list h2
 obtain⟨⟨cl,dd,da,sl⟩,ho,hc,n,hd⟩:=pl.isList
 obtain⟨⟨cl2,dd2,da2,sl2⟩,ho2,hc2,n2,hd2⟩:=wR.isList
 dsimp only at hc hd hc2 hd2
 subst hc hd hc2 hd2
 have hlen:its.toArray.size+its2.toArray.size≤sizeLine:=by rw[B5,B5,←r.length,←r2.length];exact hz
 have ea:its.toArray++its2.toArray=(its++its2).toArray:=by simp
 refine concat_meets ⟨_,ho,rfl⟩ ⟨_,ho2,rfl⟩ noFill_list_add seq_list_add PySem.F.slot_list_add PySem.F.entry_list_add (PySem.F.args_list_add_2 _ _)
  (list_addW l b its.toArray its2.toArray n n2 dd dd2 sl sl2 hlen) ⟨ho,ho2,?_⟩
 rw[ea]
 exact⟨.ref _,_,I.HJ (t':=s.toks) (r.append r2) (by rw[D1];exact hz),rfl,q _ I.fresh⟩
def nA(a b:D):Option D:=match a,b with
 | .int i,.int j=>some (.int (i+j))
 | .lst x,.lst y=>if D.bU (x++y)=true∧x.length+y.length≤100000 then some (.lst (x++y))else none
 | _,_=>none
theorem bA.append{H:Hp}:∀{ds es:List D} {xs ys:List V},bA K H ds xs→bA K H es ys→bA K H (ds++es) (xs++ys)
 | [],es,xs,ys,h,h'=>by unfold bA at h;subst h;exact h'
 | d::ds,es,xs,ys,h,h'=>by unfold bA at h;obtain⟨y,yt,rfl,h1,h2⟩:=h;rw[J8,J8];unfold bA;exact⟨y,_,rfl,h1,bA.append h2 h'⟩
theorem Th:Qi K (λx y H Q=>Va (λi j=>.int (i+j)) x y H Q∨Mp K x y H Q) nA:=λx y H a b d Q ra rb q k=>by
 unfold nA at q
 split at q
 ·cases q;unfold Rv at ra rb;exact .inl ⟨_,_,ra,rb,k _ H (aD.refl _) (.cY rfl (by unfold Rv;rfl))⟩
 ·split at q
  ·rename_i c
   cases q
   unfold Rv at ra rb
   obtain⟨p,xs,rfl,r2,r3⟩:=ra
   obtain⟨p',xs',rfl,r2',r3'⟩:=rb
   refine .inr ⟨p,p',xs,xs',rfl,rfl,r2,r2',Fe (by rw[r3.length,r3'.length];exact c.2),λl hl=>?_⟩
   exact k _ _ (bC hl _) (mY (aD.refl _) (.bU c.1 (r3.append r3')) hl)
  ·cases q
 ·cases q
theorem xM(ha:XR K X a ta f)(hb:XR K X b tb g):XN K X (.BinOp a .Add b pos) (Ke (λx y H Q=>Va (λi j=>.int (i+j)) x y H Q∨Mp K x y H Q) ta tb) (f2 nA f g):=Lx (Wz.or (Tg ha.hk)) Th ha hb
def RN(K:aA)(wi:TI)(fi:FA):Prop:=∀{N:Fp}(σ:St)(H Z:Hp)(e:DE)(ds:List D)(R:It→Hp→Prop),Zn K N Z H→lF K Z e σ→fi e=some ds →
 (∀J H' Z' P vs,aD H H'→aD Z Z'→Zn K N Z' H'→Xr J P vs→(∀H2,aD Z' H2→P H2)→bA K Z' ds vs→R J H')→wi σ H R
structure XI(K:aA)(X:Cx)(tg iter:Expr)(wi:TI)(fi:FA):Prop where
 hk:X.K=K
 pi:PI X tg iter wi
 ev:RN K wi fi
def fH(f:FE):FA:=λe=>(f e).bind jG
def RP(K:aA)(t:TE):TI:=λσ H R=>Uz K t σ H R∨FJ K t σ H R
theorem jJ{tg:Expr}(h:XR K X e t f):XI K X tg e (RP K t) (fH f):=⟨h.hk,by
 have hk:=h.hk
 subst hk
 exact λpins s σ H R I q=>q.elim (Qt h.pe pins s σ H R I) (Ww h.pe pins s σ H R I),λσ H Z e ds R z re q k=>by
 unfold fH at q
 obtain⟨d,q1,q2⟩:=aO q
 cases d with
 | lst es=>
  unfold jG at q2;cases q2
  refine .inl (h.ev σ H Z e _ _ z re q1 λv H1 Z1 s1 t1 z1 rv=>?_)
  unfold Rv at rv
  obtain⟨p,xs,rfl,r2,r3⟩:=rv
  exact⟨p,rfl,⟨xs,z1.sm.seq r2⟩,k _ H1 Z1 _ xs s1 t1 z1 Lf (λH2 s=>s.seq r2) r3⟩
 | tup es=>
  unfold jG at q2;cases q2
  refine .inr (h.ev σ H Z e _ _ z re q1 λv H1 Z1 s1 t1 z1 rv=>?_)
  unfold Rv at rv
  obtain⟨p,xs,rfl,r2,r3⟩:=rv
  exact⟨p,rfl,⟨xs,z1.sm.tup r2⟩,k _ H1 Z1 _ xs s1 t1 z1 Rw (λH2 s=>s.tup r2) r3⟩
 | _=>unfold jG at q2;cases q2⟩
def bQ(lo:Int)(n:Nat):List D:=(D3 n).map λi:Nat=>D.int (lo+(i:Int))
theorem oW{H:Hp}(lo:Int)(n:Nat):bA K H (bQ lo n) ((D3 n).map λi:Nat=>V.int (lo+(i:Int))):=by
 unfold bQ
 refine bA.of (by simp) λi d x h1 h2=>?_
 rw[C8]at h1 h2
 cases q:(D3 n)[i]? with
 | none=>rw[q]at h1;cases h1
 | some j=>rw[q]at h1 h2;cases h1;cases h2;unfold Rv;rfl
def lim(i:Int):Bool:=decide (-100000≤i∧i≤100000)
def iR(fs:FA):FA:=λe=>(fs e).bind λds=>match ds with
 | [.int n]=>if lim n=true then some (bQ 0 n.toNat)else none
 | _=>none
def zZ(fs:FA):FA:=λe=>(fs e).bind λds=>match ds with
 | [.int i,.int j]=>if lim i=true∧lim j=true then some (bQ i (j-i).toNat)else none
 | _=>none
theorem xN{i:Int}(h:lim i=true):-100000≤i∧i≤100000:=of_decide_eq_true h
theorem Im{tg:Expr}{p:Pos}(hg:Gl X "range") (hm:X.mg "range" = none) (ha:XA K X [a] tA fs) (hs:starEach [a] X.env=[(false,eval a X.env)]:=by rfl):XI K X tg (.Call (.Name "range" p) [a] [] pos) (Kc tA) (iR fs):=⟨ha.hk,uI hg hm ha.pa hs,λσ H Z e ds R z re q k=>by
 unfold iR at q
 obtain⟨es,q1,q2⟩:=aO q
 split at q2
 ·rename_i n
  split at q2
  ·rename_i hl
   cases q2
   have hl:=xN hl
   refine ha.ev σ H Z e _ _ z re q1 λvs H1 Z1 s1 t1 z1 rs=>?_
   obtain⟨v,rfl,r⟩:=fU rs
   unfold Rv at r
   subst r
   exact⟨n,rfl,by omega,by omega,k _ H1 Z1 _ _ s1 t1 z1 oF (λ_ _=>True.intro) (oW 0 n.toNat)⟩
  ·cases q2
 ·cases q2⟩
def fM(e:DE)(fr:List Nat):DE:=fr.map λi=>(e[i]?).getD none
theorem Ti{H:Hp}{e:DE}{σ:St}{fr:List Nat}{d:D}{x:V}(re:lF K H e σ)(r:Rv K H d x):lF K H (some d::fM e fr) (some x::Ck σ fr):=λi d' h=>by
 cases i with
 | zero=>simp at h;subst h;exact⟨x,rfl,r⟩
 | succ i=>
  rw[List.getElem?_cons_succ]at h ⊢
  unfold fM at h
  unfold Ck
  rw[C8]at h ⊢
  cases q:fr[i]? with
  | none=>rw[q]at h;cases h
  | some j=>
   rw[q]at h
   have h:(e[j]?).getD none=some d':=E4 h
   have h2:e[j]?=some (some d'):=by
    cases q2:e[j]? with
    | none=>rw[q2]at h;cases h
    | some o=>rw[q2]at h;rw[show o=some d' from h]
   obtain⟨v,h3,h4⟩:=re j d' h2
   refine⟨v,?_,h4⟩
   show some (σ.getD j none)=_
   rw[D5,h3]
   rfl
def jK(c:D→Option Bool)(el:D→Option D):List D→Option (List D)
 | []=>some []
 | x::xs=>(c x).bind λb=>if b=true then(el x).bind λy=>(jK c el xs).map (y::·)else jK c el xs
def cZ(fi:FA)(fr:List Nat)(fc:FT)(fe:FE):FE:=λe=>(fi e).bind λxs=>if xs.length≤100000 then(jK (λx=>fc (some x::fM e fr)) (λx=>fe (some x::fM e fr)) xs).map D.lst else none
theorem oX{H:Hp}{p:Addr}{o:HO}(n:mU H p):oH K H (upd H p o):=λa xs h=>h.upd n
theorem Ft{wi:TI}{fi:FA}{fr:List Nat}{te:TE}{fe:FE}(hi:RN K wi fi)(hc:Cw K tc fc)(he:Bu K te fe):Bu K (zJ wi 1 fr (bL 0) tc te) (cZ fi fr fc fe):=by
 intro σ H e d Q re q k
 unfold cZ at q
 obtain⟨xs,q1,q⟩:=aO q
 split at q
 ·rename_i hlen
  obtain⟨ds,q2,rfl⟩:=dB q
  refine hi σ H H e xs _ (Zn.self K H) re q1 λJ H1 Z1 P vs s1 t1 z1 hJ hP rvs=>?_
  intro D0 hD
  have hl:=rvs.length
  have au:H D0=none:=s1.free hD
  generalize hcc:(λx=>fc (some x::fM e fr))=cc at q2
  generalize hel:(λx=>fe (some x::fM e fr))=el at q2
  refine⟨λi m ys H2=>∃CT NP A,m=vs.length-i∧i≤vs.length∧ds=CT++NP∧jK cc el (xs.drop i)=some NP∧aD H1 H2∧H2 D0=some (.lst ys)∧bO K H2 CT A ys∧(∀a,A a→H1 a=none∧a≠D0)∧ys.length≤i,
   ⟨vs.length,[],ds,nil,by simp,K0 _,rfl,by simpa using q2,bC hD _,aV,by unfold bO;exact⟨λ_ z=>z,rfl⟩,λ_ z=>z.elim,A9 _⟩,?_⟩
  rintro i m ys H2 ⟨CT,NP,A,rfl,hi',hds,hcl,s2,hD2,ow,fr2,hyl⟩
  obtain⟨j1,j2,j3⟩:=hJ i H2 (hP H2 (z1.sm.trans s2))
  refine⟨hD2,?_⟩
  by_cases hlt:i<vs.length
  ·refine .inr ⟨j1 hlt,λx H' y=>?_⟩
   obtain⟨e1,ex⟩:=j2 x H' y
   subst e1
   have hx:=ex hlt
   have hxi:i<xs.length:=by omega
   have hxs:xs.drop i=xs[i]::xs.drop (i+1):=K5 hxi
   obtain⟨x',hx',rx⟩:=rvs.get (B3 hxi)
   rw[hx]at hx'
   cases hx'
   rw[hxs]at hcl
   unfold jK at hcl
   obtain⟨bb,c1,c2⟩:=aO hcl
   show Kp 1 σ fr (some x::Ck σ fr)∧_
   refine⟨⟨by simp[blk],λj v hv=>?_⟩,?_⟩
   ·cases j with
    | zero=>simp[blk]at hv
    | succ j=>simpa[blk]using hv
   have XD:lF K H' (some xs[i]::fM e fr) (some x::Ck σ fr):=Ti (re.same (s1.trans s2)) ((z1.sm.trans s2).rv _ _ rx)
   refine hc _ H' _ bb _ XD (by rw[←hcc]at c1;exact c1) λH3 s3=>?_
   have RQ:=s3 _ _ hD2
   cases bb with
   | false=>
    rw[if_neg (by decide)]at c2 ⊢
    exact⟨vs.length-(i+1),by omega,CT,NP,A,rfl,by omega,hds,c2,s2.trans s3,RQ,ow.same s3,fr2,by omega⟩
   | true=>
    rw[if_pos rfl]at c2 ⊢
    obtain⟨dy,c3,c4⟩:=aO c2
    obtain⟨az,c5,rfl⟩:=dB c4
    refine he _ H3 _ dy _ (XD.same s3) (by rw[←hel]at c3;exact c3) λyv H4 s4 n4=>?_
    have XF:=s4 _ _ RQ
    refine⟨XF,Ls (by omega),vs.length-(i+1),by omega,CT++[dy],az,?_⟩
    obtain⟨B,oB,fB⟩:=n4
    have hB:∀a,B a→H1 a=none∧a≠D0:=λa qa=>⟨(s2.trans s3).free (fB a qa),λz=>by have q0:=fB a qa;rw[z,RQ]at q0;cases q0⟩
    refine⟨cT A B,rfl,by omega,by rw[hds];simp,c5,λb o eb=>?_,aV,?_,λa qa=>qa.elim (fr2 a) (hB a),by rw[D1];simp;exact hyl⟩
    ·rw[aM (bM eb hD)]
     exact(s2.trans (s3.trans s4)) b o eb
    ·have o4:=(ow.same s3).same s4
     have ap:Apart A B:=λa qa qb=>by
      obtain⟨⟨u,eu⟩,_⟩:=bO.cells _ _ _ (ow.same s3) a qa
      rw[fB a qb]at eu;cases eu
     have all:bO K H4 (CT++[dy]) (cT A B) (ys++[yv]):=cM.mpr ((cM.mp o4).snoc oB ap)
     exact bO.frame (oX (jW XF)) _ _ _ all λa qa=>aM (qa.elim (λz=>(fr2 a z).2) λz=>(hB a z).2)
  ·have ei:i=vs.length:=by omega
   subst ei
   have:xs.drop vs.length=[]:=List.drop_eq_nil_of_le (by omega)
   rw[this]at hcl
   unfold jK at hcl
   cases hcl
   rw[Q8]at hds
   subst hds
   refine .inl ⟨j3 (A9 _),k _ H2 (s1.trans s2) ⟨cT (·=D0) A,?_,λa qa=>qa.elim (λz=>by cases z;exact au) λz=>s1.free (fr2 a z).1⟩⟩
   unfold Ow
   exact⟨D0,ys,A,rfl,hD2,λz=>(fr2 D0 z).2 rfl,λ_=>Iff.rfl,ow⟩
 ·cases q
def vA:FT:=λ_=>some true
structure NQ(K:aA)(X:Cx)(ifs:List Expr)(t:TT)(f:FT):Prop where
 XH:Xq X ifs t
 ev:Cw K t f
theorem xO:NQ K X [] HX vA:=⟨Rn,λσ H e b Q re q k=>by cases q;exact k H (aD.refl _)⟩
theorem Fv(h:XT K X c tc fc):NQ K X [c] tc fc:=⟨Ro h.pt,h.ev⟩
theorem pY{tg elt iter:Expr}{ifs:List Expr}{scope:Scope}{wi:TI}{fi:FA}{te:TE}{fe:FE}(N:List Str)(fr:List Nat)(hcalm:X.calm=true)(B:bV X.env.scope scope X.N N 1 fr)(hi:XI K X tg iter wi fi)
  (hg:∀cl fp s H C,PG (bT X scope N cl fp s H C) tg (bL 0)) (hc:∀cl fp s H C,NQ K (bT X scope N cl fp s H C) ifs tc fc) (he:∀cl fp s H C,XN K (bT X scope N cl fp s H C) elt te fe)
  (hs:∀x,foldedSetIterable iter X.env x=pure x:=by intro _;rfl):XN K X (.ListComp elt [⟨tg,iter,ifs,0⟩] scope pos) (zJ wi 1 fr (bL 0) tc te) (cZ fi fr fc fe):=
 ⟨hi.hk,Rr N 1 fr hcalm B hi.pi hg (λcl fp s H C=>(hc cl fp s H C).XH) (λcl fp s H C=>(he cl fp s H C).pe) hs,
  Ft hi.ev (hc [] [] X.s₀ X.H₀ 0).ev (he [] [] X.s₀ X.H₀ 0).ev⟩
def tW(K:aA)(n:Nat)(F:List D→Option D):Sp:=λvs H Q _=>∃ds d,ds.length=n∧bA K H ds vs∧F ds=some d∧∀v H',aD H H'→Br K H H' d v→Q v H'
def cH(n:Nat)(F:List D→Option D)(fs:FA):FE:=λe=>(fs e).bind λds=>if ds.length=n then F ds else none
theorem cF{x:Str}{k n:Nat}{F:List D→Option D}{p:Pos}(C:qY X.prog X.w X.K X.mg X.base x k n (tW K n F))(hr:eV k X.A)(hg:Gl X x)(ha:XA K X (e::es) tA fs)(hdb:(x==("__debug__" : Str))=false:=by decide)
  (he:starEach (e::es) X.env=(false,eval e X.env)::starEach es X.env:=by rfl) (hpl:(backTo pos (starEach es X.env)).any (·.1)=false:=by rfl):XN K X (.Call (.Name x p) (e::es) [] pos) (yX (tW K n F) [] E0 tA) (cH n F fs):=
 ⟨ha.hk,Xy C hr hg ha.pa hdb he hpl,λσ H e d Q re q k=>by
  unfold cH at q
  obtain⟨ds,q1,q2⟩:=aO q
  split at q2
  ·rename_i hl
   refine call_of (ha.ev σ H H e ds _ (Zn.self K H) re q1 λvs H1 Z1 s1 t1 z1 rs=>?_)
   exact⟨ds,d,hl,z1.sm.Jq _ _ rs,q2,λv H2 s2 n=>k v H2 (s1.trans s2) (n.back s1)⟩
  ·cases q2⟩
end
end L2


namespace L2
open PySem PySem.Spec PyProof.Rows
inductive SD where
  | no | fro (d:D) | own (d:D) | inn (v:V) (d:D)
def SD.z:SD→Option D
 | .fro d=>some d
 | .own d=>if d.cY=true then some d else none
 | .inn _ d=>if d.cY=true then some d else none
 | .no=>none
def SD.r:SD→Option D
 | .fro d=>some d
 | .own d=>some d
 | .inn _ d=>some d
 | .no=>none
abbrev EN:=List SD
def zE(env:EN):DE:=env.map SD.z
def rE(env:EN):DE:=env.map SD.r
def dM(K:aA)(H Z:Hp):SD→Fp→Option V→Prop
 | .no,A,_=>None A
 | .fro d,A,y=>None A∧∃v,y=some v∧Rv K Z d v
 | .own d,A,y=>∃v,y=some v∧Ow K H d A v
 | .inn v d,A,y=>y=some v∧Ow K H d A v
def Rel(K:aA)(B:Hp)(env:EN)(σ:St)(H:Hp):Prop:=∃A,cU (dM K H (out H A)) env A σ∧aD B (out H A)
section
variable{K:aA}{B B' H H' Z Z':Hp}{env:EN}{σ:St}{A:Fp}
theorem cU.all{α β:Type}{R:α→Fp→β→Prop}{Pr:Addr→Prop}:∀{ds:List α} {A:Fp} {ys:List β},cU R ds A ys→(∀d B y,R d B y→∀a,B a→Pr a)→∀a,A a→Pr a
 | [],A,ys,h,_,a,q=>absurd q (h.1 a)
 | d::ds,A,ys,⟨y,yt,A1,A2,h1,h2,h3,h4,h5⟩,m,a,q=>((h3 a).mp q).elim (m _ _ _ h4 a) (cU.all h5 m a)
theorem dM.cells{s:SD}{y:Option V}(h:dM K H Z s A y):∀a,A a→jF H a:=by
 cases s with
 | no=>exact λa q=>absurd q (h a)
 | fro d=>exact λa q=>absurd q (h.1 a)
 | own d=>obtain⟨v,_,o⟩:=h;exact Ow.cells d A v o
 | inn v d=>exact Ow.cells d A v h.2
theorem cP(h:cU (dM K H Z) env A σ):∀a,A a→jF H a:=cU.all h λ_ _ _ q=>q.cells
theorem Rel.mono(h:Rel K B' env σ H)(s:aD B B'):Rel K B env σ H:=let ⟨A,a,b⟩:=h;⟨A,a,s.trans b⟩
theorem eY{A A':Fp}(s:aD H H')(h:∀a,A' a→A a∨H a=none):aD (out H A) (out H' A'):=λb o e=>by
 obtain⟨e1,e2⟩:=aQ.mp e
 refine aQ.mpr ⟨λq=>?_,s b o e2⟩
 rcases h b q with q | q
 ·exact e1 q
 ·rw[q]at e2;cases e2
theorem dM.same{s:SD}{y:Option V}(h:dM K H Z s A y)(e:aD H H')(z:aD Z Z'):dM K H' Z' s A y:=by
 cases s with
 | no=>exact h
 | fro d=>obtain⟨h1,v,h2,h3⟩:=h;exact⟨h1,v,h2,z.rv _ _ h3⟩
 | own d=>obtain⟨v,h1,h2⟩:=h;exact⟨v,h1,h2.same e⟩
 | inn v d=>exact⟨h.1,h.2.same e⟩
theorem Rel.same(h:Rel K B env σ H)(s:aD H H'):Rel K B env σ H':=by
 obtain⟨A,a,b⟩:=h
 have g:aD (out H A) (out H' A):=eY s λa q=>.inl q
 exact⟨A,a.mono λe C z _ q=>q.same s g,b.trans g⟩
theorem xP(h:cU (dM K H (out H A)) env A σ):Zn K A (out H A) H:=⟨gC H A,Lp λa q=>(cP h a q).2,λa q=>⟨by
 unfold out;rw[if_pos q],λz=>by obtain⟨⟨o,e⟩,_⟩:=cP h a q;rw[z]at e;cases e⟩⟩
theorem Rel.r(h:Rel K B env σ H):lF K H (rE env) σ:=λi d q=>by
 obtain⟨A,a,b⟩:=h
 unfold rE at q
 rw[C8]at q
 cases e:env[i]? with
 | none=>rw[e]at q;cases q
 | some s=>
  rw[e]at q
  obtain⟨y,A1,C,h1,h2,h3,h4,_⟩:=a.focus e
  cases s with
  | no=>cases q
  | fro d0=>cases q;obtain⟨_,v,rfl,h5⟩:=h4;exact⟨v,h1,(gC H A).rv _ _ h5⟩
  | own d0=>cases q;obtain⟨v,rfl,h5⟩:=h4;exact⟨v,h1,Ow.rv _ _ _ h5⟩
  | inn v d0=>cases q;obtain⟨rfl,h5⟩:=h4;exact⟨v,h1,Ow.rv _ _ _ h5⟩
theorem JH(a:cU (dM K H (out H A)) env A σ):lF K (out H A) (zE env) σ:=λi d q=>by
 unfold zE at q
 rw[C8]at q
 cases e:env[i]? with
 | none=>rw[e]at q;cases q
 | some s=>
  rw[e]at q
  obtain⟨y,A1,C,h1,h2,h3,h4,_⟩:=a.focus e
  cases s with
  | no=>cases q
  | fro d0=>cases q;obtain⟨_,v,rfl,h5⟩:=h4;exact⟨v,h1,h5⟩
  | own d0=>
   obtain⟨v,rfl,h5⟩:=h4
   have q:(if d0.cY=true then some d0 else none)=some d:=E4 q
   split at q
   ·rename_i im
    cases q
    exact⟨v,h1,(oJ _ v im (Ow.rv _ _ _ h5)).out (λ_ z=>z.elim) λx hx=>(cP a x hx).2⟩
   ·cases q
  | inn v d0=>
   obtain⟨rfl,h5⟩:=h4
   have q:(if d0.cY=true then some d0 else none)=some d:=E4 q
   split at q
   ·rename_i im
    cases q
    exact⟨v,h1,(oJ _ v im (Ow.rv _ _ _ h5)).out (λ_ z=>z.elim) λx hx=>(cP a x hx).2⟩
   ·cases q
theorem Rel.own{i:Nat}{d:D}{v:V}(h:Rel K B env σ H)(hi:i<env.length)(s:aD H H')(n:Br K H H' d v):Rel K B (env.set i (.own d)) (σ.set i (some v)) H':=by
 obtain⟨A,a,b⟩:=h
 obtain⟨N,o,f⟩:=n
 have cl:=cP a
 obtain⟨y,A1,C,h1,h2,h3,h4,k⟩:=a.focus (B3 hi)
 have g:aD (out H A) (out H' (cT N C)):=eY s λx q=>q.elim (λq=>.inr (f x q)) λq=>.inl ((h3 x).mpr (.inr q))
 refine⟨cT N C,k (dM K H' (out H' (cT N C))) (λe D z _ q=>q.same s g) (.own d) (some v) N (λx q c=>?_) ⟨v,rfl,o⟩,b.trans g⟩
 obtain⟨⟨u,e⟩,_⟩:=cl x ((h3 x).mpr (.inr c))
 rw[f x q]at e;cases e
theorem xQ{i:Nat}{d:D}{v:V}(a:cU (dM K H (out H A)) env A σ)(b:aD B (out H A))(hi:i<env.length)(s:aD H H')(t:aD (out H A) Z')(z:Zn K A Z' H')(r:Rv K Z' d v):Rel K B (env.set i (.fro d)) (σ.set i (some v)) H':=by
 obtain⟨y,A1,C,h1,h2,h3,h4,k⟩:=a.focus (B3 hi)
 have hC:∀x,cT nil C x→A x:=λx q=>q.elim False.elim λq=>(h3 x).mpr (.inr q)
 have g:aD (out H A) (out H' (cT nil C)):=eY s λx q=>.inl (hC x q)
 have g2:aD Z' (out H' (cT nil C)):=λx o e=>aQ.mpr ⟨λq=>(by rw[(z.no x (hC x q)).1]at e;cases e),z.sm x o e⟩
 exact⟨cT nil C,k (dM K H' (out H' (cT nil C))) (λe D z _ q=>q.same s g) (.fro d) (some v) nil (λx q c=>q) ⟨λ_ z=>z,v,rfl,g2.rv _ _ r⟩,b.trans g⟩
def Mq(env:EN)(j:Nat):EN:=match env[j]? with
 | some (.own d)=>env.set j (.fro d)
 | _=>env
def fX(js:List Nat)(env:EN):EN:=js.foldl Mq env
theorem set_same{α:Type}{l:List α}{i:Nat}{x:α}(h:l[i]?=some x):l.set i x=l:=by
 apply N1
 intro j
 rw[List.getElem?_set]
 by_cases c:i=j
 ·subst c
  rw[if_pos rfl,h]
  split
  ·rfl
  ·rename_i q;rw[F8 (by omega)]at h;cases h
 ·rw[if_neg c]
theorem Rel.Mq{j:Nat}(h:Rel K B env σ H):Rel K B (Mq env j) σ H:=by
 unfold L2.Mq
 cases e:env[j]? with
 | none=>exact h
 | some s=>
  cases s with
  | no=>exact h
  | fro d=>exact h
  | inn v d=>exact h
  | own d=>
   obtain⟨A,a,b⟩:=h
   have cl:=cP a
   obtain⟨y,A1,C,h1,h2,h3,h4,k⟩:=a.focus e
   obtain⟨v,rfl,o⟩:=h4
   have g:aD (out H A) (out H (cT nil C)):=eY (aD.refl _) λx q=>q.elim False.elim λq=>.inl ((h3 x).mpr (.inr q))
   have:=k (dM K H (out H (cT nil C))) (λe D z _ q=>q.same (aD.refl _) g) (.fro d) (some v) nil (λx q c=>q)
    ⟨λ_ z=>z,v,rfl,o.out (λx q c=>h2 x q (c.elim False.elim id)) λx q=>(cl x ((h3 x).mpr (.inr (q.elim False.elim id)))).2⟩
   rw[set_same h1]at this
   exact⟨cT nil C,this,b.trans g⟩
theorem Rel.fX{js:List Nat}(h:Rel K B env σ H):Rel K B (fX js env) σ H:=by
 unfold L2.fX
 induction js generalizing env with
 | nil=>exact h
 | cons j js ih=>exact ih h.Mq
end
inductive SR where
  | next (env:EN) | ret (d:D) | brk (env:EN) | cont (env:EN) | bad | rete (d:D) (env:EN)
def rO(K:aA)(B:Hp)(E:Ends):SR→Prop
 | .next env=>∀σ H,Rel K B env σ H→E.nx σ H
 | .ret d=>∀v H A,aD B (out H A)→Ow K H d A v→E.rt v H
 | .brk env=>∀σ H,Rel K B env σ H→E.bk σ H
 | .cont env=>∀σ H,Rel K B env σ H→E.ct σ H
 | .bad=>False
 | .rete d env=>∀v σ H,Rel K B (env++[.own d]) (σ++[some v]) H→E.rt v H
theorem rO.mono{K:aA}{B B':Hp}{E:Ends}{r:SR}(h:rO K B E r)(s:aD B B'):rO K B' E r:=by
 cases r with
 | next env=>exact λσ H q=>h σ H (q.mono s)
 | ret d=>exact λv H A q=>h v H A (s.trans q)
 | brk env=>exact λσ H q=>h σ H (q.mono s)
 | cont env=>exact λσ H q=>h σ H (q.mono s)
 | bad=>exact h
 | rete d env=>exact λv σ H q=>h v σ H (q.mono s)
abbrev GS:=EN→SR
def DS(K:aA)(t:TS)(g:GS):Prop:=∀(B:Hp)(E:Ends)(σ:St)(H:Hp)(env:EN),Rel K B env σ H→rO K B E (g env)→t E σ H
def JK(K:aA)(B:Hp)(E:Ends)(σ:St):SR→Prop
 | .next env=>∀H,Rel K B env σ H→E.nx σ H
 | r=>rO K B E r
def NT(K:aA)(t:TS)(g:GS):Prop:=∀(B:Hp)(E:Ends)(σ:St)(H:Hp)(env:EN),Rel K B env σ H→JK K B E σ (g env)→t E σ H
theorem NT.ds{K:aA}{t:TS}{g:GS}(h:NT K t g):DS K t g:=λB E σ H env r p=>h B E σ H env r (by
 cases q:g env with
 | next e=>rw[q]at p;exact λH' r'=>p σ H' r'
 | ret d=>rw[q]at p;exact p
 | brk e=>rw[q]at p;exact p
 | cont e=>rw[q]at p;exact p
 | bad=>rw[q]at p;exact p
 | rete d e=>rw[q]at p;exact p)
structure YS(K:aA)(X:Cx)(st:Stmt)(t:TS)(g:GS):Prop where
 ps:PS X st t
 ev:DS K t g
structure YB(K:aA)(X:Cx)(st:List Stmt)(t:TS)(g:GS):Prop where
 ps:yU X st t
 ev:DS K t g
section
variable{K:aA}{X:Cx}{st:Stmt}{sts:List Stmt}{t u:TS}{g g1 g2:GS}{e a b c:Expr}{te ta tb:TE}{f fa fb:FE}{tc:TT}{fc:FT}{pos:Pos}
def aR(g1 g2:GS):GS:=λenv=>match g1 env with
 | .next env'=>g2 env'
 | r=>r
theorem Za(h1:DS K t g1)(h2:DS K u g2):DS K (Wu t u) (aR g1 g2):=λB E σ H env r p=>by
 unfold aR at p
 refine h1 B {E with nx:=u E} σ H env r ?_
 cases q:g1 env with
 | next env'=>rw[q]at p;exact λσ' H' r'=>h2 B E σ' H' env' r' p
 | ret d=>rw[q]at p;exact p
 | brk d=>rw[q]at p;exact p
 | cont d=>rw[q]at p;exact p
 | bad=>rw[q]at p;exact p
 | rete d e=>rw[q]at p;exact p
def fD:GS:=λenv=>.next env
theorem dW:YB K X [] Uy fD:=⟨Qp,λB E σ H env r p=>p σ H r⟩
theorem aW(h:YS K X st t g):YB K X [st] t g:=⟨Qq h.ps,h.ev⟩
theorem aL(h:YS K X st t g1)(h2:YB K X sts u g2):YB K X (st::sts) (Wu t u) (aR g1 g2):=⟨Jx h.ps h2.ps,Za h.ev h2.ev⟩
def cI(i:Nat)(f:FE):GS:=λenv=>match f (rE env)with
 | some d=>if i<env.length then .next (env.set i (.own d))else .bad
 | none=>.bad
theorem Mr{i:Nat}(h:Bu K te f):DS K (vX te (bL i)) (cI i f):=λB E σ H env r p=>by
 unfold cI at p
 split at p
 ·rename_i d q
  split at p
  ·rename_i hi
   exact h σ H (rE env) d _ r.r q λv H' s n=>p _ _ (r.own hi s n)
  ·exact p.elim
 ·exact p.elim
theorem bK{i:Nat}{x:Str}{pos':Pos}(h:XN K X e te f)(hp:PE X e te→PS X (.Assign [.Name x pos'] e pos) (vX te (bL i))):YS K X (.Assign [.Name x pos'] e pos) (vX te (bL i)) (cI i f):=⟨hp h.pe,Mr h.ev⟩
def iD(f:FE):GS:=λenv=>match f (rE env)with
 | some d=>.ret d
 | none=>.bad
theorem dD(h:XN K X e te f):YS K X (.Return (some e) pos) (Wv te) (iD f):=⟨Jy h.pe,λB E σ H env r p=>by
 unfold iD at p
 split at p
 ·rename_i d q
  refine h.ev σ H (rE env) d _ r.r q λv H' s ⟨N,o,fr⟩=>p v H' N (λx u ex=>?_) o
  obtain⟨A,a,b⟩:=r
  have h1:=(aQ.mp (b x u ex)).2
  exact aQ.mpr ⟨λz=>(by rw[fr x z]at h1;cases h1),s x u h1⟩
 ·exact p.elim⟩
def iT(i:Nat):GS:=λenv=>match env[i]? with
 | some (.own d)=>.ret d
 | some (.fro d)=>if d.cY=true then .ret d else .bad
 | _=>.bad
theorem nC{i:Nat}(h:PE X e (gU i)):YS K X (.Return (some e) pos) (Wv (gU i)) (iT i):=⟨Jy h,λB E σ H env r p=>by
 unfold iT at p
 obtain⟨A,a,b⟩:=r
 split at p
 ·rename_i d q
  obtain⟨y,A1,C,h1,h2,h3,h4,_⟩:=a.focus q
  obtain⟨v,rfl,o⟩:=h4
  exact⟨v,h1,p v H A1 (b.trans (eY (aD.refl _) λx z=>.inl ((h3 x).mpr (.inl z)))) o⟩
 ·rename_i d q
  split at p
  ·rename_i im
   obtain⟨y,A1,C,h1,h2,h3,h4,_⟩:=a.focus q
   obtain⟨_,v,rfl,rv⟩:=h4
   exact⟨v,h1,p v H nil (b.trans (eY (aD.refl _) λx z=>z.elim)) (oJ d v im ((gC H A).rv _ _ rv))⟩
  ·exact p.elim
 ·exact p.elim⟩
def tX(f:FT)(g1 g2:GS):GS:=λenv=>match f (rE env)with
 | some true=>g1 env
 | some false=>g2 env
 | none=>.bad
theorem iU{s1 s2:List Stmt}(hc:XT K X c tc fc)(h1:YB K X s1 t g1)(h2:YB K X s2 u g2):YS K X (.If c s1 s2 pos) (DW tc t u) (tX fc g1 g2):=⟨DX hc.pt h1.ps h2.ps,λB E σ H env r p=>by
 unfold tX at p
 split at p
 ·rename_i q
  refine hc.ev σ H (rE env) true _ r.r q λH' s=>?_
  rw[if_pos rfl]
  exact h1.ev B E σ H' env (r.same s) p
 ·rename_i q
  refine hc.ev σ H (rE env) false _ r.r q λH' s=>?_
  rw[if_neg (by decide)]
  exact h2.ev B E σ H' env (r.same s) p
 ·exact p.elim⟩
def gJ(i:Nat)(g:GS):List D→EN→SR
 | [],env=>.next env
 | x::xs,env=>if i<env.length then match g (env.set i (.fro x))with
   | .next env'=>gJ i g xs env'
   | .cont env'=>gJ i g xs env'
   | .brk env'=>.next env'
   | r=>r
  else .bad
def mG(js:List Nat)(i:Nat)(fi:FA)(g:GS):GS:=λenv=>match fi (zE (fX js env))with
 | some xs=>gJ i g xs (fX js env)
 | none=>.bad
theorem Zb{js:List Nat}{i:Nat}{wi:TI}{fi:FA}{tb:TS}(hi:RN K wi fi)(h:DS K tb g):DS K (Cd wi (bL i) tb) (mG js i fi g):=λB E σ H env r p=>by
 unfold mG at p
 have r':Rel K B (fX js env) σ H:=r.fX
 generalize fX js env=fJ at r' p
 split at p
 ·rename_i xs q
  obtain⟨A,a,b⟩:=r'
  refine hi σ H (out H A) (zE fJ) xs _ (xP a) (JH a) q λJ H1 Z1 P vs s t z hJ hP rvs=>?_
  have hl:=rvs.length
  have g0:aD Z1 (out H1 A):=λx o e=>aQ.mpr ⟨λqa=>(by rw[(z.no x qa).1]at e;cases e),z.sm x o e⟩
  have Zc:Rel K Z1 fJ σ H1:=⟨A,a.mono λe D y _ qq=>qq.same s (eY s λx q=>.inl q),g0⟩
  have bz:aD B Z1:=b.trans t
  have p':=p.mono bz
  refine wN hJ (λk σ2 H2=>∃cJ,Rel K Z1 cJ σ2 H2∧rO K Z1 E (gJ i g (xs.drop k) cJ)) ⟨fJ,Zc,by simpa using p'⟩ (λk σ2 H2 _ ⟨cJ,⟨A2,a2,b2⟩,_⟩=>hP H2 (b2.trans (gC H2 A2))) ?_ ?_
  ·rintro k x σ2 H2 hx ⟨cJ,r2,p2⟩
   have hk:k<xs.length:=by
    have:=C3.mp hx
    obtain⟨h1,_⟩:=this
    omega
   rw[K5 hk]at p2
   unfold gJ at p2
   obtain⟨x',hx',rx⟩:=rvs.get (B3 hk)
   rw[hx]at hx'
   cases hx'
   split at p2
   ·rename_i hlen
    obtain⟨A2,a2,b2⟩:=r2
    have r3:Rel K Z1 (cJ.set i (.fro xs[k])) (σ2.set i (some x)) H2:=xQ a2 b2 hlen (aD.refl _) (aD.refl _) (xP a2) (b2.rv _ _ rx)
    refine h Z1 _ _ H2 _ r3 ?_
    split at p2
    ·rename_i env' q2;rw[q2];exact λσ' H' r'=>⟨env',r',p2⟩
    ·rename_i env' q2;rw[q2];exact λσ' H' r'=>⟨env',r',p2⟩
    ·rename_i env' q2;rw[q2];exact p2
    ·rename_i n1 n2 n3
     cases q2:g (cJ.set i (.fro xs[k]))with
     | next e=>exact absurd q2 (n1 e)
     | cont e=>exact absurd q2 (n2 e)
     | brk e=>exact absurd q2 (n3 e)
     | ret d=>rw[q2]at p2;exact p2
     | bad=>rw[q2]at p2;exact p2
     | rete d e=>rw[q2]at p2;exact p2
   ·exact p2.elim
  ·rintro σ2 H2 ⟨cJ,r2,p2⟩
   rw[hl,Q2]at p2
   exact p2 σ2 H2 r2
 ·exact p.elim
def dF(c:FT)(g:GS):Nat→EN→SR
 | 0,_=>.bad
 | n+1,env=>match c (rE env)with
  | some true=>(match g env with
   | .next env'=>dF c g n env'
   | .cont env'=>dF c g n env'
   | .brk env'=>.next env'
   | r=>r)
  | some false=>.next env
  | none=>.bad
theorem Ms{n:Nat}{tb:TS}(hc:Cw K tc fc)(h:DS K tb g):DS K (Bx tc tb) (dF fc g n):=λB E σ H env r p=>by
 refine⟨λm σ2 H2=>∃cJ,Rel K B cJ σ2 H2∧rO K B E (dF fc g m cJ),⟨n,env,r,p⟩,?_⟩
 rintro m σ2 H2 ⟨cJ,r2,p2⟩
 cases m with
 | zero=>exact p2.elim
 | succ m=>
  unfold dF at p2
  split at p2
  ·rename_i q
   refine hc σ2 H2 (rE cJ) true _ r2.r q λH3 s=>?_
   rw[if_pos rfl]
   refine⟨λσ' H'=>∃env',Rel K B env' σ' H'∧rO K B E (dF fc g m env'),λσ' H' ⟨env',a1,a2⟩=>⟨m,K9 m,env',a1,a2⟩,?_⟩
   refine h B _ σ2 H3 cJ (r2.same s) ?_
   split at p2
   ·rename_i env' q2;rw[q2];exact λσ' H' r'=>⟨env',r',p2⟩
   ·rename_i env' q2;rw[q2];exact λσ' H' r'=>⟨env',r',p2⟩
   ·rename_i env' q2;rw[q2];exact p2
   ·rename_i n1 n2 n3
    cases q2:g cJ with
    | next e=>exact absurd q2 (n1 e)
    | cont e=>exact absurd q2 (n2 e)
    | brk e=>exact absurd q2 (n3 e)
    | ret d=>rw[q2]at p2;exact p2
    | bad=>rw[q2]at p2;exact p2
    | rete d e=>rw[q2]at p2;exact p2
  ·rename_i q
   refine hc σ2 H2 (rE cJ) false _ r2.r q λH3 s=>?_
   rw[if_neg (by decide)]
   exact p2 σ2 H3 (r2.same s)
  ·exact p2.elim
theorem xR{tg iter:Expr}{body:List Stmt}{wi:TI}{fi:FA}{tb:TS}{i:Nat}(js:List Nat)(hp:PassesOwn (model X.prog X.w) X.A X.env X.xe)(Mt:X.calm=true)(hi:XI K X tg iter wi fi)(hg:PG X tg (bL i))(hb:YB K X body tb g)
  (hs:∀x,foldedSetIterable iter X.env x=pure x:=by intro _;rfl):YS K X (.For tg iter body [] pos) (Cd wi (bL i) tb) (mG js i fi g):=⟨Ce hp Mt hi.pi hg hb.ps hs,Zb hi.ev hb.ev⟩
theorem Aa{body:List Stmt}{tb:TS}(n:Nat)(hp:PassesOwn (model X.prog X.w) X.A X.env X.xe)(hc:XT K X c tc fc)(hb:YB K X body tb g):YS K X (.While c body [] pos) (Bx tc tb) (dF fc g n):=⟨Jz hp hc.pt hb.ps,Ms hc.ev hb.ev⟩
end
end L2


namespace L2
open PySem PySem.Spec PyProof.Rows
inductive Step where
  | ix (k:Nat) | key (k:Key) | fld (C:Addr) (f:Str)
def kids:D→List D
 | .lst ds=>ds
 | .dk _ ds=>ds
 | .ins _ _ ds=>ds
 | _=>[]
def rP:D→List D→D
 | .lst _,ds=>.lst ds
 | .dk ks _,ds=>.dk ks ds
 | .ins C nm _,ds=>.ins C nm ds
 | d,_=>d
def xT:Step→D→Option Nat
 | .ix k,.lst ds=>some k
 | .key k,.dk ks _=>posK ks k
 | .fld C f,.ins C' nm _=>if C'=C then posK nm f else none
 | _,_=>none
def rQ:List Step→D→Option D
 | [],d=>some d
 | s::p,d=>(xT s d).bind λj=>((kids d)[j]?).bind (rQ p)
def oY:List Step→D→D→D
 | [],_,d'=>d'
 | s::p,d,d'=>match xT s d with
  | some j=>(match (kids d)[j]? with
   | some c=>rP d ((kids d).set j (oY p c d'))
   | none=>d)
  | none=>d
def stepV(H:Hp)(s:Step)(v:V):Option V:=match v with
 | .ref a=>(match s,H a with
  | .ix k,some (.lst xs)=>xs[k]?
  | .key k,some (.dK kvs)=>lD kvs k
  | .fld C f,some (.ins C' _ fs)=>if C'=C then fs.lookup f else none
  | _,_=>none)
 | _=>none
def Io(H:Hp):List Step→V→Option V
 | [],v=>some v
 | s::p,v=>(stepV H s v).bind (Io H p)
theorem Df{H H':Hp}(e:aD H H'){s:Step}{v w:V}(h:stepV H s v=some w):stepV H' s v=some w:=by
 cases v with
 | ref a=>
  unfold stepV at h ⊢
  dsimp only at h ⊢
  cases q:H a with
  | none=>rw[q]at h;cases s<;>cases h
  | some o=>rw[e a o q];rw[q]at h;exact h
 | _=>unfold stepV at h;cases h
theorem Ab{H H':Hp}(e:aD H H'):∀{p:List Step} {v w:V},Io H p v=some w→Io H' p v=some w
 | [],v,w,h=>h
 | s::p,v,w,h=>by
  unfold Io at h ⊢
  obtain⟨u,h1,h2⟩:=aO h
  rw[Df e h1]
  exact Ab e h2
theorem Dg{nm:List Str}{xs:List V}{f:Str}(h:nm.length=xs.length):(nm.zip xs).lookup f=(posK nm f).bind λj=>xs[j]?:=by
 induction nm generalizing xs with
 | nil=>unfold posK;rfl
 | cons a nm ih=>
  cases xs with
  | nil=>simp at h
  | cons x xs=>
   have ih:=ih (xs:=xs) (by simpa using h)
   unfold posK
   rw[L5,N6]
   by_cases c:a=f
   ·subst c;simp
   ·have c2:(f==a)=false:=by
     rw[beq_eq_false_iff_ne];exact λz=>c z.symm
    rw[c2,if_neg c,ih]
    cases posK nm f<;>rfl
theorem Ow.kids{K:aA}{H:Hp}{d:D}{A:Fp}{v:V}{s:Step}{j:Nat}(h:Ow K H d A v)(q:xT s d=some j):∃xs T Bt,(∀x,xs[j]?=some x→stepV H s v=some x)∧bO K H (kids d) Bt xs∧Is A (cT T Bt)∧Apart T Bt ∧
  ∀H' ds' B',ds'.length=(kids d).length→bO K H' ds' B' xs→(∀a,T a→H' a=H a)→Apart T B'→Ow K H' (rP d ds') (cT T B') v:=by
 cases d with
 | lst ds=>
  unfold Ow at h
  obtain⟨a,xs,B,rfl,h2,h3,h4,h5⟩:=h
  cases s with
  | ix k=>
   unfold xT at q
   cases q
   refine⟨xs,(·=a),B,λx hx=>?_,h5,h4,λx qx qb=>h3 (qx▸qb),λH' ds' B' hl o f ap=>?_⟩
   ·unfold stepV;dsimp only;rw[h2];exact hx
   ·show Ow K H' (.lst ds') _ _
    unfold Ow
    exact⟨a,xs,B',rfl,(f a rfl).trans h2,ap a rfl,λ_=>Iff.rfl,o⟩
  | _=>unfold xT at q;cases q
 | dk ks ds=>
  unfold Ow at h
  obtain⟨a,xs,B,rfl,h2,h2',h3,h4,h5⟩:=h
  cases s with
  | key k=>
   have q:posK ks k=some j:=q
   refine⟨xs,(·=a),B,λx hx=>?_,h5,h4,λx qx qb=>h3 (qx▸qb),λH' ds' B' hl o f ap=>?_⟩
   ·unfold stepV;dsimp only;rw[h2];show lD (ks.zip xs) k=_;rw[mZ h2',q];exact hx
   ·show Ow K H' (.dk ks ds') _ _
    unfold Ow
    exact⟨a,xs,B',rfl,(f a rfl).trans h2,h2',ap a rfl,λ_=>Iff.rfl,o⟩
  | _=>unfold xT at q;cases q
 | ins C nm ds=>
  unfold Ow at h
  obtain⟨a,dx,xs,B,rfl,h2,h2',h3,h3',h3'',h4,h5⟩:=h
  cases s with
  | fld C0 k=>
   have q:(if C=C0 then posK nm k else none)=some j:=q
   by_cases hc:C=C0
   rotate_left
   ·rw[if_neg hc]at q;cases q
   rw[if_pos hc]at q
   refine⟨xs,(λx=>x=a∨x=dx),B,λx hx=>?_,h5,h4,λx qx qb=>qx.elim (λz=>h3' (z▸qb)) λz=>h3'' (z▸qb),λH' ds' B' hl o f ap=>?_⟩
   ·unfold stepV;dsimp only;rw[h2];show (if C=C0 then(nm.zip xs).lookup k else none)=_;rw[if_pos hc,Dg h3,q];exact hx
   ·show Ow K H' (.ins C nm ds') _ _
    unfold Ow
    exact⟨a,dx,xs,B',rfl,(f a (.inl rfl)).trans h2,(f dx (.inr rfl)).trans h2',h3,ap a (.inl rfl),ap dx (.inr rfl),λ_=>Iff.rfl,o⟩
  | _=>unfold xT at q;cases q
 | _=>cases s<;>(unfold xT at q;cases q)
theorem Ow.at{K:aA}{H:Hp}:∀{p:List Step} {d d1:D} {A:Fp} {v:V},Ow K H d A v→rQ p d=some d1→∃w A1 C,Io H p v=some w∧Apart A1 C∧Is A (cT A1 C)∧Ow K H d1 A1 w ∧
    ∀H' d' A',Apart A' C→(∀a,C a→H' a=H a)→oH K H H'→Ow K H' d' A' w→Ow K H' (oY p d d') (cT A' C) v
  | [],d,d1,A,v,h,q=>by
    unfold rQ at q
    cases q
    exact⟨v,A,nil,rfl,λ_ _ z=>z,λx=>⟨.inl,λz=>z.elim id False.elim⟩,h,λH' d' A' _ _ _ o=>o.congr λx=>⟨.inl,λz=>z.elim id False.elim⟩⟩
  | s::p,d,d1,A,v,h,q=>by
    unfold rQ at q
    obtain⟨j,q1,q2⟩:=aO q
    obtain⟨c,q3,q4⟩:=aO q2
    obtain⟨xs,T,Bt,k1,k2,k3,k4,k5⟩:=h.kids q1
    obtain⟨y,B1,C1,f1,f2,f3,f4,f5⟩:=(cM.mp k2).focus q3
    obtain⟨w,A1,C2,g1,g2,g3,g4,g5⟩:=Ow.at f4 q4
    refine⟨w,A1,cT T (cT C1 C2),?_,?_,?_,g4,λH' d' A' ap fr tk o=>?_⟩
    · unfold Io
      rw[k1 y f1]
      exact g1
    · intro x qx qc
      have b1:B1 x:=(g3 x).mpr (.inl qx)
      rcases qc with qc | qc | qc
      · exact k4 x qc ((f3 x).mpr (.inl b1))
      · exact f2 x b1 qc
      · exact g2 x qx qc
    · intro x
      rw[k3 x]
      constructor
      · rintro(z | z)
        · exact .inr (.inl z)
        · rcases(f3 x).mp z with z | z
          · rcases(g3 x).mp z with z | z
            · exact .inl z
            · exact .inr (.inr (.inr z))
          · exact .inr (.inr (.inl z))
      · rintro(z | z | z | z)
        · exact .inr ((f3 x).mpr (.inl ((g3 x).mpr (.inl z))))
        · exact .inl z
        · exact .inr ((f3 x).mpr (.inr z))
        · exact .inr ((f3 x).mpr (.inl ((g3 x).mpr (.inr z))))
    · have o1:Ow K H' (oY p c d') (cT A' C2) y:=g5 H' d' A' (λx a b=>ap x a (.inr (.inr b))) (λa z=>fr a (.inr (.inr z))) tk o
      have bc:Apart (cT A' C2) C1:=λx a b=>a.elim (λz=>ap x z (.inr (.inl b))) λz=>f2 x ((g3 x).mpr (.inr z)) b
      have o2:=f5 (Ow K H') (λe B z hb qq=>Ow.frame tk e B z qq λa za=>fr a (.inr (.inl (hb a za)))) (oY p c d') y (cT A' C2) bc o1
      rw[set_same f1]at o2
      have o3:=k5 H' ((L2.kids d).set j (oY p c d')) _ (by rw[V9]) (cM.mpr o2) (λa z=>fr a (.inl z)) (λx a b=>by
        rcases b with (b | b) | b
        · exact ap x b (.inl a)
        · exact k4 x a ((f3 x).mpr (.inl ((g3 x).mpr (.inr b))))
        · exact k4 x a ((f3 x).mpr (.inr b)))
      have e:oY (s::p) d d'=rP d ((L2.kids d).set j (oY p c d')):=by
        show (match xT s d with | some j=>_ | none=>_)=_
        rw[q1]
        show (match (L2.kids d)[j]? with | some c=>_ | none=>_)=_
        rw[q3]
      rw[e]
      refine o3.congr λx=>?_
      show (T x∨(A' x∨C2 x)∨C1 x)↔(A' x∨T x∨C1 x∨C2 x)
      constructor
      · rintro(z | (z | z) | z)
        · exact .inr (.inl z)
        · exact .inl z
        · exact .inr (.inr (.inr z))
        · exact .inr (.inr (.inl z))
      · rintro(z | z | z | z)
        · exact .inr (.inl (.inl z))
        · exact .inl z
        · exact .inr (.inr z)
        · exact .inr (.inl (.inr z))
section
variable{K:aA}{B H:Hp}{env:EN}{σ:St}
theorem Rel.at{i:Nat}{p:List Step}{d0 d:D}(h:Rel K B env σ H)(e:env[i]?=some (.own d0))(q:rQ p d0=some d):∃v0 w A1 C,σ[i]?=some (some v0)∧Io H p v0=some w∧Ow K H d A1 w∧Apart A1 C∧(∀a,C a→jF H a) ∧
    ∀H' d' A',Apart A' C→(∀a,C a→H' a=H a)→oH K H H'→Ow K H' d' A' w→aD (out H (cT A1 C)) (out H' (cT A' C))→Rel K B (env.set i (.own (oY p d0 d'))) σ H':=by
  obtain⟨A,a,b⟩:=h
  have cl:=cP a
  obtain⟨y,A1,C,h1,h2,h3,h4,k⟩:=a.focus e
  obtain⟨v0,rfl,o⟩:=h4
  obtain⟨w,B1,C1,g1,g2,g3,g4,g5⟩:=o.at q
  refine⟨v0,w,B1,cT C1 C,h1,g1,g4,λx z1 z2=>?_,λx z=>?_,λH' d' A' ap fr tk o' sm=>?_⟩
  · exact z2.elim (g2 x z1) (h2 x ((g3 x).mpr (.inl z1)))
  · exact cl x ((h3 x).mpr (z.elim (λz=>.inl ((g3 x).mpr (.inr z))) .inr))
  · have o2:=g5 H' d' A' (λx z1 z2=>ap x z1 (.inl z2)) (λx z=>fr x (.inl z)) tk o'
    have bf:Apart (cT A' C1) C:=λx z1 z2=>z1.elim (λz=>ap x z (.inr z2)) λz=>h2 x ((g3 x).mpr (.inr z)) z2
    have hA:Is A (cT B1 (cT C1 C)):=λx=>by
      rw[h3 x]
      constructor
      · rintro(z | z)
        · exact((g3 x).mp z).elim .inl λz=>.inr (.inl z)
        · exact .inr (.inr z)
      · rintro(z | z | z)
        · exact .inl ((g3 x).mpr (.inl z))
        · exact .inl ((g3 x).mpr (.inr z))
        · exact .inr z
    have g:aD (out H A) (out H' (cT (cT A' C1) C)):=λx u ex=>by
      obtain⟨e1,e2⟩:=aQ.mp ex
      have:=sm x u (aQ.mpr ⟨λz=>e1 ((hA x).mpr z),e2⟩)
      obtain⟨e3,e4⟩:=aQ.mp this
      exact aQ.mpr ⟨λz=>e3 (z.elim (λz=>z.elim .inl λz=>.inr (.inl z)) λz=>.inr (.inr z)),e4⟩
    have s:=k (dM K H' (out H' (cT (cT A' C1) C))) (λs D z hb qq=>by
      cases s with
      | no=>exact qq
      | fro d=>obtain⟨q1,v,q2,q3⟩:=qq;exact⟨q1,v,q2,g.rv _ _ q3⟩
      | inn v d=>exact⟨qq.1,Ow.frame tk _ _ _ qq.2 λx zx=>fr x (.inr (hb x zx))⟩
      | own d=>obtain⟨v,q1,q2⟩:=qq;exact⟨v,q1,Ow.frame tk _ _ _ q2 λx zx=>fr x (.inr (hb x zx))⟩) (.own (oY p d0 d')) (some v0) (cT A' C1) bf ⟨v0,rfl,o2⟩
    rw[set_same h1]at s
    exact⟨_,s,b.trans g⟩
theorem Rel.JL{i:Nat}{p:List Step}{d0:D}{ds:List D}(h:Rel K B env σ H)(e:env[i]?=some (.own d0))(q:rQ p d0=some (.lst ds)):∃v0 a xs Bs,σ[i]?=some (some v0)∧Io H p v0=some (.ref a)∧H a=some (.lst xs)∧¬Bs a∧bO K H ds Bs xs ∧
    ∀H2 ds' xs' Bn,aD H H2→bO K H2 ds' Bn xs'→(∀b,Bn b→Bs b∨H b=none)→Rel K B (env.set i (.own (oY p d0 (.lst ds')))) σ (upd H2 a (.lst xs')):=by
  obtain⟨v0,w,A1,C,h1,h2,h3,h4,h5,h6⟩:=h.at e q
  unfold Ow at h3
  obtain⟨a,xs,Bs,rfl,o2,o3,o4,o5⟩:=h3
  refine⟨v0,a,xs,Bs,h1,h2,o2,o3,o5,λH2 ds' xs' Bn s o hb=>?_⟩
  have JM:¬Bn a:=λz=>(hb a z).elim o3 λz=>by rw[o2]at z;cases z
  have hC:∀x,C x→¬x=a:=λx z y=>h4 x ((o4 x).mpr (.inl y)) z
  have Mu:H2 a=some (.lst xs):=s a _ o2
  refine h6 _ (.lst ds') (cT (·=a) Bn) (λx z1 z2=>?_) (λx z=>?_) (s.tk.trans (oX (jW Mu))) ?_ (λx u ex=>?_)
  · rcases z1 with z1 | z1
    · exact hC x z2 z1
    · rcases hb x z1 with z | z
      · exact h4 x ((o4 x).mpr (.inr z)) z2
      · obtain⟨⟨u,eu⟩,_⟩:=h5 x z2
        rw[z]at eu;cases eu
  · obtain⟨⟨u,eu⟩,_⟩:=h5 x z
    rw[aM (hC x z),eu,s x u eu]
  · unfold Ow
    refine⟨a,xs',Bn,rfl,aV,JM,λ_=>Iff.rfl,bO.frame (oX (jW Mu)) _ _ _ o λx zx=>aM λy=>JM (y▸zx)⟩
  · obtain⟨e1,e2⟩:=aQ.mp ex
    have na:x≠a:=λy=>e1 (.inl ((o4 x).mpr (.inl y)))
    refine aQ.mpr ⟨λz=>?_,by rw[aM na];exact s x u e2⟩
    rcases z with (z | z) | z
    · exact na z
    · rcases hb x z with z | z
      · exact e1 (.inl ((o4 x).mpr (.inr z)))
      · rw[z]at e2;cases e2
    · exact e1 (.inr z)
theorem Rel.RT{i:Nat}{p:List Step}{d0:D}{ks:List Key}{ds:List D}(h:Rel K B env σ H)(e:env[i]?=some (.own d0))(q:rQ p d0=some (.dk ks ds)):∃v0 a xs Bs,σ[i]?=some (some v0)∧Io H p v0=some (.ref a)∧H a=some (.dK (ks.zip xs))∧ks.length=xs.length∧¬Bs a∧bO K H ds Bs xs ∧
    ∀H2 ks' ds' xs' Bn,aD H H2→ks'.length=xs'.length→bO K H2 ds' Bn xs'→(∀b,Bn b→Bs b∨H b=none)→Rel K B (env.set i (.own (oY p d0 (.dk ks' ds')))) σ (upd H2 a (.dK (ks'.zip xs'))):=by
  obtain⟨v0,w,A1,C,h1,h2,h3,h4,h5,h6⟩:=h.at e q
  unfold Ow at h3
  obtain⟨a,xs,Bs,rfl,o2,o2',o3,o4,o5⟩:=h3
  refine⟨v0,a,xs,Bs,h1,h2,o2,o2',o3,o5,λH2 ks' ds' xs' Bn s hl o hb=>?_⟩
  have JM:¬Bn a:=λz=>(hb a z).elim o3 λz=>by rw[o2]at z;cases z
  have hC:∀x,C x→¬x=a:=λx z y=>h4 x ((o4 x).mpr (.inl y)) z
  have Mu:H2 a=some (.dK (ks.zip xs)):=s a _ o2
  refine h6 _ (.dk ks' ds') (cT (·=a) Bn) (λx z1 z2=>?_) (λx z=>?_) (s.tk.trans (oX (mV Mu))) ?_ (λx u ex=>?_)
  · rcases z1 with z1 | z1
    · exact hC x z2 z1
    · rcases hb x z1 with z | z
      · exact h4 x ((o4 x).mpr (.inr z)) z2
      · obtain⟨⟨u,eu⟩,_⟩:=h5 x z2
        rw[z]at eu;cases eu
  · obtain⟨⟨u,eu⟩,_⟩:=h5 x z
    rw[aM (hC x z),eu,s x u eu]
  · unfold Ow
    refine⟨a,xs',Bn,rfl,aV,hl,JM,λ_=>Iff.rfl,bO.frame (oX (mV Mu)) _ _ _ o λx zx=>aM λy=>JM (y▸zx)⟩
  · obtain⟨e1,e2⟩:=aQ.mp ex
    have na:x≠a:=λy=>e1 (.inl ((o4 x).mpr (.inl y)))
    refine aQ.mpr ⟨λz=>?_,by rw[aM na];exact s x u e2⟩
    rcases z with (z | z) | z
    · exact na z
    · rcases hb x z with z | z
      · exact e1 (.inl ((o4 x).mpr (.inr z)))
      · rw[z]at e2;cases e2
    · exact e1 (.inr z)
end
end L2


namespace L2
open PySem PySem.Spec PyProof.Rows
abbrev FP:=DE→Option (List Step)
def RV(K:aA)(t:TE)(i:Nat)(π:FP):Prop:=∀(σ:St)(H:Hp)(e:DE)(v0:V)(p:List Step)(v:V)(Q:VK),lF K H e σ→σ[i]?=some (some v0)→π e=some p→Io H p v0=some v→(∀H',aD H H'→Q v H')→t σ H Q
structure XP(K:aA)(X:Cx)(e:Expr)(t:TE)(i:Nat)(π:FP):Prop where
 hk:X.K=K
 pe:PE X e t
 ev:RV K t i π
def gK:FP:=λ_=>some []
section
variable{K:aA}{X:Cx}{e a b c:Expr}{es:List Expr}{t ta tb te:TE}{f g:FE}{tA:TA}{fs:FA}{pos:Pos}{i j:Nat}{π:FP}{st:Stmt}
theorem Ac(h:PE X e (gU i))(hk:X.K=K:=by rfl):XP K X e (gU i) i gK:=⟨hk,h,λσ H e v0 p v Q re h1 h2 h3 k=>by
 cases h2
 unfold Io at h3
 cases h3
 exact⟨v0,h1,k H (aD.refl _)⟩⟩
def nD(i:Nat)(π:FP)(f:FE):GS:=λenv=>match env[i]?,π (rE env),f (rE env)with
 | some (.own d0),some p,some d=>(match rQ p d0 with
  | some (.lst ds)=>if ds.length<100000 then .next (env.set i (.own (oY p d0 (.lst (ds++[d])))))else .bad
  | _=>.bad)
 | _,_,_=>.bad
theorem Zd{H H1:Hp}{A:Fp}{ds:List D}{xs:List V}{N:Fp}(o:bO K H ds A xs)(fr:∀a,N a→H a=none):Apart A N:=λx q1 q2=>by
 obtain⟨⟨u,eu⟩,_⟩:=bO.cells _ _ _ o x q1
 rw[fr x q2]at eu;cases eu
theorem Ze(h:RV K ta i π)(he:Bu K te f):NT K (El (MN K "list" pR ta (pI te yW))) (nD i π f):=λB E σ H env r p=>by
 unfold nD at p
 split at p
 ·rename_i d0 pp d q1 q2 q3
  split at p
  ·rename_i ds q4
   split at p
   ·rename_i hl
    obtain⟨v0,a,xs,Bs,k1,k2,k3,k4,k5,k6⟩:=r.JL q1 q4
    refine h σ H (rE env) v0 pp _ _ r.r k1 q2 k2 λH1 s1=>⟨.inl ⟨rfl,xs,eN.of (s1 _ _ k3)⟩,?_⟩
    refine he σ H1 (rE env) d _ (r.r.same s1) q3 λy H2 s2 n=>?_
    obtain⟨N,o,fr⟩:=n.back s1
    have s12:=s1.trans s2
    refine⟨a,xs,y,rfl,rfl,s12 _ _ k3,Ls (by rw[(bO.rv _ _ _ k5).length];omega),p _ ?_⟩
    exact k6 H2 (ds++[d]) (xs++[y]) (cT Bs N) s12 (cM.mpr ((cM.mp (k5.same s12)).snoc o (Zd (H1:=H) k5 fr))) λb z=>z.imp id (fr b)
   ·exact p.elim
  ·exact p.elim
 ·exact p.elim
theorem rR{m:Str}{apos cpos:Pos}(h:XP K X a ta i π)(he:XN K X e te f)(hp:PE X a ta→PE X e te→PS X (.Expr (.Call (.Attribute a m apos) [e] [] cpos) pos) (El (MN K "list" pR ta (pI te yW)))):YS K X (.Expr (.Call (.Attribute a m apos) [e] [] cpos) pos) (El (MN K "list" pR ta (pI te yW))) (nD i π f):=⟨hp h.pe he.pe,(Ze h.ev he.ev).ds⟩
def jL(i:Nat)(π:FP)(g f:FE):GS:=λenv=>match env[i]?,π (rE env),g (rE env),f (rE env)with
 | some (.own d0),some p,some k,some d=>(match rQ p d0,Su k with
  | some (.dk ks ds),some k=>if d.cY=true∧ks.length<100000 then .next (env.set i (.own (oY p d0 (.dk (xF ks k) (putD ks ds k d)))))else .bad
  | _,_=>.bad)
 | _,_,_,_=>.bad
theorem Ad{H:Hp}{d:D}{v:V}(o:Ow K H d nil v)(k:Key):∀{ks:List Key} {ds:List D} {A:Fp} {xs:List V},ks.length=xs.length→bO K H ds A xs→∃A',(∀x,A' x→A x)∧bO K H (Q1 (λk' d'=>if k'=k then d else d') ks ds) A' (Q1 (λk' d'=>if k'=k then v else d') ks xs)
 | [],ds,A,xs,hl,h=>by
  cases xs with
  | nil=>exact⟨nil,λ_ z=>z.elim,by rw[S7,S7];unfold bO;exact⟨λ_ z=>z,rfl⟩⟩
  | cons x xs=>simp at hl
 | k0::ks,[],A,xs,hl,h=>by unfold bO at h;rw[h.2]at hl;simp at hl
 | k0::ks,d0::ds,A,xs,hl,h=>by
  unfold bO at h
  obtain⟨y,yt,A1,A2,rfl,h2,h3,h4,h5⟩:=h
  obtain⟨A',a1,a2⟩:=Ad o k (by simpa using hl) h5
  by_cases c:k0=k
  ·refine⟨A',λx q=>(h3 x).mpr (.inr (a1 x q)),?_⟩
   rw[G8,G8,if_pos c,if_pos c]
   unfold bO
   exact⟨v,_,nil,A',rfl,λ_ z=>z.elim,λx=>⟨.inr,λz=>z.elim False.elim id⟩,o,a2⟩
  ·refine⟨cT A1 A',λx q=>(h3 x).mpr (q.imp id (a1 x)),?_⟩
   rw[G8,G8,if_neg c,if_neg c]
   unfold bO
   exact⟨y,_,A1,A',rfl,λx z1 z2=>h2 x z1 (a1 x z2),λ_=>Iff.rfl,h4,a2⟩
theorem Tj(h:RV K ta i π)(hx:zM K tb g)(he:zM K te f):NT K (Et ta tb te) (jL i π g f):=λB E σ H env r p=>by
 unfold jL at p
 split at p
 ·rename_i d0 pp kd d q1 q2 q3 bh
  split at p
  ·rename_i ks ds k q4 q5
   split at p
   ·rename_i hc
    obtain⟨v0,a,xs,Bs,k1,k2,k3,NZ,k4,k5,k6⟩:=r.RT q1 q4
    refine he σ H H (rE env) d _ (Zn.self K H) r.r bh λy H1 Z1 s1 t1 z1 ry=>?_
    refine h σ H1 (rE env) v0 pp _ _ (r.r.same s1) k1 q2 (Ab s1 k2) λH2 s2=>hx σ H2 H2 (rE env) _ _ (Zn.self K H2) (r.r.same (s1.trans s2)) q3 λy' H3 Z3 s3 t3 z3 bj=>?_
    have OD:=s1.trans (s2.trans s3)
    have o:Ow K H3 d nil y:=oJ d y hc.1 ((z1.sm.trans (s2.trans s3)).rv _ _ ry)
    have ek:=Fi q5 (z3.sm.rv _ _ bj)
    refine⟨a,_,rfl,.inl ⟨ks.zip xs,k,OD _ _ k3,ek,Ls (by rw[List.length_zip];omega),rfl⟩,p _ ?_⟩
    rw[Lz NZ]
    have XQ:=k5.same OD
    have hl3:=(bO.rv _ _ _ k5).length
    by_cases c:(posK ks k).isSome=true
    ·obtain⟨A',a1,a2⟩:=Ad o k NZ XQ
     refine k6 H3 (xF ks k) (putD ks ds k d) (putD ks xs k y) A' OD (zR NZ) ?_ λb z=>.inl (a1 b z)
     unfold putD
     rw[if_pos c,if_pos c]
     exact a2
    ·refine k6 H3 (xF ks k) (putD ks ds k d) (putD ks xs k y) (cT Bs nil) OD (zR NZ) ?_ λb z=>z.elim .inl False.elim
     unfold putD
     rw[if_neg c,if_neg c]
     exact cM.mpr ((cM.mp XQ).snoc o λ_ _ z=>z)
   ·exact p.elim
  ·exact p.elim
 ·exact p.elim
theorem xU{pos':Pos}(h:XP K X a ta i π)(hx:XR K X b tb g)(he:XR K X e te f)(hp:PE X a ta→PE X b tb→PE X e te→PS X (.Assign [.Subscript a b pos'] e pos) (Et ta tb te)):YS K X (.Assign [.Subscript a b pos'] e pos) (Et ta tb te) (jL i π g f):=⟨hp h.pe hx.pe he.pe,(Tj h.ev hx.ev he.ev).ds⟩
end
end L2


namespace L2
open PySem PySem.Spec PyProof.Rows
def bu(K:aA)(B:Hp)(R:Fp)(env:EN)(σ:St)(H:Hp):Prop:=∃A,cU (dM K H (out H (cT A R))) env A σ∧Apart A R∧aD B (out H (cT A R))
section
variable{K:aA}{B H H':Hp}{env:EN}{σ:St}{R R' A1:Fp}
end
section
variable{K:aA}{X:Cx}{e a b c:Expr}{es:List Expr}{t ta tb te:TE}{f g:FE}{tA:TA}{fs:FA}{pos:Pos}{i j:Nat}{π:FP}{st:Stmt}
inductive OJ(K:aA)(H:Hp):V→Value→Prop where
 | bl (x:Bool):OJ K H (.bl x) (.type "bool")
 | int (i:Int):OJ K H (.int i) (.type "int")
 | lst {a:Addr} {xs:List V} (e:eN K H a xs):OJ K H (.ref a) (.type "list")
 | tup {a:Addr} {xs:List V} (e:lC K H a xs):OJ K H (.ref a) (.type "tuple")
structure XS(mg:Str→Option Value)(x:Str)(i:Int):Prop where
 ex:∃t,mg x=some (.int i t)
structure XX(K:aA)(mg:Str→Option Value)(x:Str)(ns:List Int):Prop where
 ex:∃a,mg x=some (.ref a)∧∀H:Hp,lC K H a (ns.map V.int)
def dTup(ns:List Int):D:=.tup (ns.map D.int)
end
def iG(n m:Nat)(g:GS):List D→Option D:=λds=>if ds.length=m then(match g (ds.map SD.fro++E8 (n-m) SD.no)with
  | .ret d=>some d
  | .next _=>some .non
  | _=>none)else none
theorem Ae{K:aA}{H Z:Hp}{k:Nat}:∀{ds:List D} {vs:List V},bA K Z ds vs→cU (dM K H Z) (ds.map SD.fro++E8 k SD.no) nil (vs.map some++E8 k none)
 | [],vs,h=>by
  unfold bA at h
  subst h
  simp only[E2,W2]
  induction k with
  | zero=>exact⟨λ_ z=>z,rfl⟩
  | succ k ih=>
   rw[T6,T6]
   exact⟨none,_,nil,nil,rfl,λ_ z=>z.elim,λx=>⟨.inl,λz=>z.elim id id⟩,λ_ z=>z,ih⟩
 | d::ds,vs,h=>by
  unfold bA at h
  obtain⟨y,ys,rfl,h1,h2⟩:=h
  rw[B8,B8,J8,J8]
  exact⟨some y,_,nil,nil,rfl,λ_ z=>z.elim,λx=>⟨.inl,λz=>z.elim id id⟩,⟨λ_ z=>z,y,rfl,h1⟩,Ae h2⟩
theorem vB{K:aA}{H:Hp}{k:Nat}{ds:List D}{vs:List V}(h:bA K H ds vs):Rel K H (ds.map SD.fro++E8 k SD.no) (vs.map some++E8 k none) H:=by
 have g:aD H (out H nil):=λx u e=>aQ.mpr ⟨λz=>z,e⟩
 exact⟨nil,Ae (g.Jq _ _ h),g⟩
theorem Raw.xV{P:Program}{w:World}{K:aA}{mg:Str→Option Value}{base:Heap}{x:Str}{st:Stmt}{N ps:List Str}{k:Nat}{g:GS}(R:Raw K mg x st)(S:bJ N ps (aJ st))
  (hb:∀(kV doc pm:Value)(an:Option Addr)(cdv ct:Value)(us:List Value),us.length=ps.length→bindArgs (F0 x x (cB st) (bG st) (aJ st) .none kV doc pm an cdv ct) ⟨us,[]⟩=pure (ps.zip us))
  (hbody:∀(f:Addr)(cdv:Value)(A:Around)(outer:List Env)(s:Shared)(H:Hp)(E:XK),eV k (A.deeper (envOfC x (aJ st) s.heap.objs.size f cdv)) →
   ∃t,YB K (wA Jp P w K mg base N x (aJ st) f cdv A outer s H E).Wt (bG st) t g):qY P w K mg base x (k+1) ps.length (tW K ps.length (iG N.length ps.length g)):=by
 refine R.cal S (λvs H Q E h=>?_) hb (λf cdv A outer s H vs Q E hr h=>?_)
 ·obtain⟨ds,d,h1,h2,_⟩:=h
  rw[h2.length];exact h1
 obtain⟨ds,d,h1,h2,h3,kk⟩:=h
 obtain⟨t,yb⟩:=hbody f cdv A outer s H E hr
 refine⟨t,yb.ps,yb.ev H _ _ H (ds.map SD.fro++E8 (N.length-ps.length) SD.no) ?_ ?_⟩
 ·have hl:vs.length=ps.length:=by rw[h2.length];exact h1
  have:=vB (k:=N.length-ps.length) h2
  unfold start
  rw[hl]
  exact this
 ·unfold iG at h3
  rw[if_pos h1]at h3
  cases q:g (ds.map SD.fro++E8 (N.length-ps.length) SD.no)with
  | ret d'=>
   rw[q]at h3
   cases h3
   refine λv H' A' s' o=>kk v H' (s'.trans (gC _ _)) ⟨A',o,λa qa=>?_⟩
   cases e:H a with
   | none=>rfl
   | some u=>exact absurd qa (aQ.mp (s' a u e)).1
  | next env'=>
   rw[q]at h3
   cases h3
   refine λσ' H' ⟨A',_,s'⟩=>kk .non H' (s'.trans (gC _ _)) (.cY rfl (by unfold Rv;rfl))
  | brk env'=>rw[q]at h3;cases h3
  | cont env'=>rw[q]at h3;cases h3
  | bad=>rw[q]at h3;cases h3
  | rete d e=>rw[q]at h3;cases h3
end L2


namespace L2
open PySem PySem.Spec PyProof.Rows
section
variable{K:aA}{X:Cx}{e a b c:Expr}{es:List Expr}{t ta tb te:TE}{f g:FE}{tA:TA}{fs:FA}{pos:Pos}{i j:Nat}{π:FP}{st:Stmt}{gb:GS}{tc:TT}{fc:FT}
def bw(f:FE):FE:=λe=>(f e).bind λd=>match d with | .int i=>some (.int (-i)) | _=>none
theorem Tn{tg elt iter:Expr}{ifs:List Expr}{scope:Scope}{spos py:Pos}{y:Str}{wi:TI}{fi:FA}{fe:FE}(N:List Str)(fr:List Nat)(hcalm:X.calm=true)(B:bV X.env.scope scope X.N N 1 fr)(hN:X.N.Nodup)(hy:X.N[i]?=some y)(hx:Loc X.env.scope y)(hi:XI K X tg iter wi fi)
  (hg:∀cl fp s H C,PG (bT X scope N cl fp s H C) tg (bL 0)) (hc:∀cl fp s H C,NQ K (bT X scope N cl fp s H C) ifs tc fc) (he:∀cl fp s H C,XN K (bT X scope N cl fp s H C) elt te fe)
  (hsw:swapsWith (.ListComp elt [⟨tg,iter,ifs,0⟩] scope pos) (some (.Name y py)) spos.line X.env=pure true:=by rfl)
  (hs:∀x,foldedSetIterable iter X.env x=pure x:=by intro _;rfl) (hf:X.fn y=true∨X.env.scope.names.lookup y=some .local:=by first | exact .inl rfl | exact .inr rfl | assumption) :
  YS K X (.Assign [.Name y py] (.ListComp elt [⟨tg,iter,ifs,0⟩] scope pos) spos) (vX (zJ wi 1 fr (bL 0) tc te) (bL i)) (cI i (cZ fi fr fc fe)):=
 ⟨Ru N 1 fr hcalm B hN hy hx hi.pi hg (λcl fp s H C=>(hc cl fp s H C).XH) (λcl fp s H C=>(he cl fp s H C).pe) hsw hs hf,Mr (Ft hi.ev (hc [] [] X.s₀ X.H₀ 0).ev (he [] [] X.s₀ X.H₀ 0).ev)⟩
def YC(K:aA)(wi:TI)(fi:FA):Prop:=∀(σ:St)(H:Hp)(e:DE)(ds:List D)(R:It→Hp→Prop),lF K H e σ→fi e=some ds →
 (∀J H' P vs,aD H H'→Xr J P vs→(∀H2,P H2)→(∀Z,bA K Z ds vs)→R J H')→wi σ H R
structure XJ(K:aA)(X:Cx)(tg iter:Expr)(wi:TI)(fi:FA):Prop where
 pi:PI X tg iter wi
 ev:YC K wi fi
theorem vC{tg:Expr}{p:Pos}(hg:Gl X "range") (hm:X.mg "range" = none) (ha:XA K X [a] tA fs) (hs:starEach [a] X.env=[(false,eval a X.env)]:=by rfl):XJ K X tg (.Call (.Name "range" p) [a] [] pos) (Kc tA) (iR fs):=⟨uI hg hm ha.pa hs,λσ H e ds R re q k=>by
 unfold iR at q
 obtain⟨es,q1,q2⟩:=aO q
 split at q2
 ·rename_i n
  split at q2
  ·rename_i hl
   cases q2
   have hl:=xN hl
   refine ha.ev σ H H e _ _ (Zn.self K H) re q1 λvs H1 Z1 s1 t1 z1 rs=>?_
   obtain⟨v,rfl,r⟩:=fU rs
   unfold Rv at r
   subst r
   exact⟨n,rfl,by omega,by omega,k _ H1 _ _ s1 oF (λ_=>True.intro) λZ=>oW 0 n.toNat⟩
  ·cases q2
 ·cases q2⟩
theorem Ip{tg:Expr}{p:Pos}(hp:PA X [a,b] tA→PI X tg (.Call (.Name "range" p) [a,b] [] pos) (Kd tA)) (ha:XA K X [a,b] tA fs):XJ K X tg (.Call (.Name "range" p) [a,b] [] pos) (Kd tA) (zZ fs):=⟨hp ha.pa,λσ H e ds R re q k=>by
 unfold zZ at q
 obtain⟨es,q1,q2⟩:=aO q
 split at q2
 ·rename_i i j
  split at q2
  ·rename_i hl
   cases q2
   have hl1:=xN hl.1
   have hl2:=xN hl.2
   refine ha.ev σ H H e _ _ (Zn.self K H) re q1 λvs H1 Z1 s1 t1 z1 rs=>?_
   obtain⟨v,w,rfl,r,r'⟩:=Yu rs
   unfold Rv at r r'
   subst r r'
   exact⟨i,j,rfl,⟨by omega,by omega,by omega,by omega⟩,k _ H1 _ _ s1 oF (λ_=>True.intro) λZ=>oW i (j-i).toNat⟩
  ·cases q2
 ·cases q2⟩
def jM(i:Nat)(fi:FA)(g:GS):GS:=λenv=>match fi (rE env)with
 | some xs=>gJ i g xs env
 | none=>.bad
theorem Tp{wi:TI}{fi:FA}{tb:TS}(hi:YC K wi fi)(h:DS K tb gb):DS K (Cd wi (bL i) tb) (jM i fi gb):=λB E σ H env r p=>by
 unfold jM at p
 split at p
 ·rename_i xs q
  refine hi σ H (rE env) xs _ r.r q λJ H1 P vs s hJ hP rvs=>?_
  have hl:=(rvs H).length
  refine wN hJ (λk σ2 H2=>∃cJ,Rel K B cJ σ2 H2∧rO K B E (gJ i gb (xs.drop k) cJ)) ⟨env,r.same s,by simpa using p⟩ (λk σ2 H2 _ _=>hP H2) ?_ ?_
  ·rintro k x σ2 H2 hx ⟨cJ,r2,p2⟩
   have hk:k<xs.length:=by
    obtain⟨h1,_⟩:=C3.mp hx
    omega
   rw[K5 hk]at p2
   unfold gJ at p2
   split at p2
   ·rename_i hlen
    obtain⟨A2,a2,b2⟩:=r2
    obtain⟨x',hx',rx⟩:=(rvs (out H2 A2)).get (B3 hk)
    rw[hx]at hx'
    cases hx'
    have r3:Rel K B (cJ.set i (.fro xs[k])) (σ2.set i (some x)) H2:=xQ a2 b2 hlen (aD.refl _) (aD.refl _) (xP a2) rx
    refine h B _ _ H2 _ r3 ?_
    split at p2
    ·rename_i env' q2;rw[q2];exact λσ' H' r'=>⟨env',r',p2⟩
    ·rename_i env' q2;rw[q2];exact λσ' H' r'=>⟨env',r',p2⟩
    ·rename_i env' q2;rw[q2];exact p2
    ·rename_i n1 n2 n3
     cases q2:gb (cJ.set i (.fro xs[k]))with
     | next e=>exact absurd q2 (n1 e)
     | cont e=>exact absurd q2 (n2 e)
     | brk e=>exact absurd q2 (n3 e)
     | ret d=>rw[q2]at p2;exact p2
     | bad=>rw[q2]at p2;exact p2
     | rete d e=>rw[q2]at p2;exact p2
   ·exact p2.elim
  ·rintro σ2 H2 ⟨cJ,r2,p2⟩
   rw[hl,Q2]at p2
   exact p2 σ2 H2 r2
 ·exact p.elim
theorem xW{tg iter:Expr}{body:List Stmt}{wi:TI}{fi:FA}{tb:TS}(hp:PassesOwn (model X.prog X.w) X.A X.env X.xe)(Mt:X.calm=true)(hi:XJ K X tg iter wi fi)(hg:PG X tg (bL i))(hb:YB K X body tb gb)
  (hs:∀x,foldedSetIterable iter X.env x=pure x:=by intro _;rfl):YS K X (.For tg iter body [] pos) (Cd wi (bL i) tb) (jM i fi gb):=⟨Ce hp Mt hi.pi hg hb.ps hs,Tp hi.ev hb.ev⟩
end
theorem Dh{K:aA}{st:Stmt}{f:Addr}{fd:FuncData}(F:Qg K "law" "law" st f fd) (hb:∀(kV doc pm:Value)(an:Option Addr)(cdv ct:Value)(u:Value),bindArgs (F0 "law" "law" (cB st) (bG st) (aJ st) .none kV doc pm an cdv ct) ⟨[u],[]⟩=pure [(("script" : Str),u)]):∀(s:Shared)(u:Value),BindsTo s fd ⟨[u],[]⟩ [("script", u)]:=by
 obtain⟨oc,od,kV,doc,pm,an,cdv,ct,osl,rfl,lk,hcd⟩:=F.ex
 exact λs u=>.of_eq (hb kV doc pm an cdv ct u)
end L2


namespace L2
open PySem PySem.Spec PyProof.Rows
section
variable{K:aA}{X:Cx}{e a b c:Expr}{es:List Expr}{t ta tb te:TE}{f g:FE}{tA:TA}{fs:FA}{pos:Pos}{i j:Nat}{π:FP}{st:Stmt}
variable{lo hi:Option Expr}{tl th:TO}{fl fh:FO}{p2:Pos}
end
end L2


namespace L2
open PySem PySem.Spec PyProof.Rows
theorem RW(xs:Array Nat)(j:Nat):∀(fuel lo hi:Nat),hi-lo≤fuel→lo≤hi→hi≤xs.size→xs.toList.Pairwise (·<·) →
  (∀i,i<lo→xs.getD i 0<j)→(∀i,hi≤i→i<xs.size→j≤xs.getD i 0) →
  SetTable.below.go xs j fuel lo hi≤xs.size∧(∀i,i<SetTable.below.go xs j fuel lo hi→xs.getD i 0<j)∧(∀i,SetTable.below.go xs j fuel lo hi≤i→i<xs.size→j≤xs.getD i 0)
 | 0,lo,hi,h1,h2,h3,up,h4,h5=>by
  unfold SetTable.below.go
  have e:lo=hi:=by omega
  subst e
  exact⟨h3,h4,h5⟩
 | fuel+1,lo,hi,h1,h2,h3,up,h4,h5=>by
  unfold SetTable.below.go
  have mono:∀a b,a<b→b<xs.size→xs.getD a 0<xs.getD b 0:=λa b q q'=>by
   have:=M8.mp up a b (by simp;omega) (by simpa using q') q
   simp only[N9]at this
   simpa[K6,q',show a<xs.size by omega]using this
  split
  ·rename_i c
   have hm:(lo+hi)/2<xs.size:=by omega
   have e:xs.getD ((lo+hi)/2) j=xs.getD ((lo+hi)/2) 0:=by simp[K6,hm]
   dsimp only
   rw[e]
   by_cases c2:xs.getD ((lo+hi)/2) 0<j
   ·rw[if_pos c2]
    refine RW xs j fuel ((lo+hi)/2+1) hi (by omega) (by omega) h3 up (λi hi'=>?_) h5
    rcases G7 i ((lo+hi)/2)with z | z
    ·have:=mono i _ z hm
     omega
    ·have z':i=(lo+hi)/2:=by omega
     subst z'
     exact c2
   ·rw[if_neg c2]
    refine RW xs j fuel lo ((lo+hi)/2) (by omega) (by omega) (by omega) up h4 λi hi' hs=>?_
    rcases G7 ((lo+hi)/2) i with z | z
    ·have:=mono _ i z hs
     omega
    ·have z':i=(lo+hi)/2:=by omega
     subst z'
     omega
  ·have e:lo=hi:=by omega
   subst e
   exact⟨h3,h4,h5⟩
theorem below_at{xs:Array Nat}(up:xs.toList.Pairwise (·<·))(j:Nat) :
  SetTable.below xs j≤xs.size∧(∀i,i<SetTable.below xs j→xs.getD i 0<j)∧(∀i,SetTable.below xs j≤i→i<xs.size→j≤xs.getD i 0):=by
 unfold SetTable.below
 exact RW xs j xs.size 0 xs.size (by omega) (K0 _) (A9 _) up (λi h=>absurd h (M9 _)) λi h h'=>by omega
def Led(b:Bool)(t:SetTable):Prop:=t.led=b∧(t.plain=true→t.place.toList.Pairwise (·<·)∧t.dummies=#[])
theorem Led.fresh(b:Bool):Led b (.fresh 0 0 b):=⟨rfl,λ_=>⟨by simp[SetTable.fresh],rfl⟩⟩
theorem Led.standIn{b:Bool}{t:SetTable}(h:Led b t)(n:Nat):Led b (t.standIn n):=⟨h.1,λq=>by simp[SetTable.standIn]at q⟩
theorem Led.off{b:Bool}{t:SetTable}(h:Led b t):Led b {t with plain:=false}:=⟨h.1,λq=>by simp at q⟩
theorem pgo{t:SetTable}(hd:t.dummies=#[]){g:Nat→Int}{h:Int}:∀(fuel:Nat)(p:SetTable.Probe)(j:Nat)(d:Option Nat),p.dummy=none→SetTable.probe.go t g h fuel p=some (.empty j d)→d=none∧t.slot j=.empty
 | 0,p,j,d,_,q=>by simp[SetTable.probe.go]at q
 | fuel+1,p,j,d,e,q=>by
  unfold SetTable.probe.go at q
  have cg:(t.advance p).dummy=none:=by
   unfold SetTable.advance
   split
   ·exact e
   ·exact e
  split at q
  ·rename_i c
   injection q with q
   injection q with q1 q2
   rw[←q1,←q2]
   exact⟨e,c⟩
  ·rename_i c
   exfalso
   unfold SetTable.slot at c
   dsimp only at c
   split at c
   ·cases c
   ·split at c
    ·rename_i z
     rw[hd]at z
     simp[SetTable.has]at z
    ·cases c
  ·split at q
   ·cases q
   ·exact pgo hd fuel _ j d cg q
theorem vD{t:SetTable}(hd:t.dummies=#[]){h:Int}{j:Nat}{w:Bool}(q:t.freeSlot h=some (j,w)):t.slot j=.empty∧w=false:=by
 unfold SetTable.freeSlot at q
 split at q
 ·rename_i j' d e
  obtain⟨rfl,e2⟩:=pgo hd _ _ _ _ (by rfl) e
  simp at q
  obtain⟨rfl,rfl⟩:=q
  exact⟨e2,rfl⟩
 ·cases q
theorem Mv{t:SetTable}(hd:t.dummies=#[])(up:t.place.toList.Pairwise (·<·)){j:Nat}(q:t.slot j=.empty):(t.put j).1.place.toList.Pairwise (·<·)∧(t.put j).1.dummies=#[]:=by
 obtain⟨b1,b2,b3⟩:=below_at up j
 refine⟨?_,?_⟩
 ·show (SetTable.insertAt t.place (SetTable.below t.place j) j).toList.Pairwise (·<·)
  rw[SetTable.toList_insertAt]
  have ne:t.place[SetTable.below t.place j]?≠some j:=λz=>by
   unfold SetTable.slot at q
   dsimp only at q
   rw[z]at q
   simp at q
  have lo:∀x∈t.place.toList.take (SetTable.below t.place j),x<j:=λx hx=>by
   obtain⟨i,hi,rfl⟩:=J6 hx
   rw[K8]at hi
   have hs:i<t.place.size:=by simp at hi;omega
   have:=b2 i (by omega)
   simpa[K6,hs]using this
  have hi:∀x∈t.place.toList.drop (SetTable.below t.place j),j<x:=λx hx=>by
   obtain⟨i,hi,rfl⟩:=J6 hx
   rw[P7,C9]at hi
   have hs:SetTable.below t.place j+i<t.place.size:=by omega
   have h1:=b3 (SetTable.below t.place j+i) (by omega) hs
   have e:(t.place.toList.drop (SetTable.below t.place j))[i]=t.place.getD (SetTable.below t.place j+i) 0:=by simp[K6,hs]
   rw[e]
   rcases U1 i with z | z
   ·subst z
    rcases G7 j (t.place.getD (SetTable.below t.place j+0) 0)with y | y
    ·exact y
    ·refine absurd ?_ ne
     have e2:t.place.getD (SetTable.below t.place j) 0=j:=by simp only[Nat.add_zero]at y h1;omega
     rw[J1 (by omega)]
     simpa[K6,show SetTable.below t.place j<t.place.size by omega]using e2
   ·have h0:=b3 (SetTable.below t.place j) (A9 _) (by omega)
    have:=M8.mp up (SetTable.below t.place j) (SetTable.below t.place j+i) (by simp;omega) (by simpa using hs) (by omega)
    simp only[N9]at this
    have e3:t.place.getD (SetTable.below t.place j) 0<t.place.getD (SetTable.below t.place j+i) 0:=by simpa[K6,hs,show SetTable.below t.place j<t.place.size by omega]using this
    omega
  refine List.pairwise_append.mpr ⟨up.sublist (U3 _ _),E3.mpr ⟨hi,up.sublist (List.drop_sublist _ _)⟩,λx hx y hy=>?_⟩
  have h1:=lo x hx
  rcases B6.mp hy with z | z
  ·omega
  ·have:=hi y z
   omega
 ·show (if SetTable.has t.dummies j then _ else t.dummies)=#[]
  rw[hd]
  simp[SetTable.has]
theorem Led.lay{b:Bool}{t:SetTable}(h:Led b t)(es:Array (Int×Value))(k:Int)(x:Value):Led b (layNew t es k x).2.1:=by
 unfold layNew
 split
 ·rename_i j w e
  dsimp only
  unfold SetTable.orStandIn
  split
  ·refine⟨h.1,λq=>?_⟩
   obtain⟨u,d⟩:=h.2 q
   exact Mv d u (vD d e).1
  ·exact Led.standIn (t:=(t.put j).1) ⟨h.1,λq=>by
    obtain⟨u,d⟩:=h.2 q
    exact Mv d u (vD d e).1⟩ _
 ·exact h.standIn _
theorem Mw{β:Type}(f:Nat→Option β):∀l:List Nat,l.Pairwise (·<·)→((l.filterMap λj=>(f j).map λy=>(j,y)).map (·.1)).Pairwise (·<·)∧∀x∈((l.filterMap λj=>(f j).map λy=>(j,y)).map (·.1)),x∈l
 | [],_=>⟨.nil,λx h=>by simp at h⟩
 | a::l,h=>by
  obtain⟨h1,h2⟩:=E3.mp h
  obtain⟨i1,i2⟩:=Mw f l h2
  rw[G5]
  cases e:f a with
  | none=>exact⟨i1,λx hx=>B4 _ (i2 x hx)⟩
  | some y=>
   refine⟨E3.mpr ⟨λx hx=>h1 x (i2 x hx),i1⟩,λx hx=>?_⟩
   rcases B6.mp hx with z | z
   ·exact z▸B7
   ·exact B4 _ (i2 x z)
theorem Led.JN{b:Bool}{t:SetTable}(h:Led b t)(es:Array (Int×Value))(n:Nat):Led b (relayAll t es n).2.1:=by
 unfold relayAll
 split
 ·rename_i t' order e
  dsimp only
  split
  ·dsimp only
   unfold SetTable.relaid SetTable.laid at e
   obtain⟨ow,e1,e2⟩:=aO e
   injection e2 with e2
   injection e2 with e3 e4
   rw[←e3]
   exact⟨h.1,λ_=>⟨by simpa using (Mw (λj=>ow.getD j none) _ S0).1,rfl⟩⟩
  ·exact h.standIn _
 ·exact h.standIn _
theorem mH{α:Type}:∀(l:List α)(i:Nat)(h:i<l.length),(l[i]::l.eraseIdx i).Perm l
 | [],i,h=>absurd h (by simp)
 | a::l,0,h=>J9 _
 | a::l,i+1,h=>by
  have:=mH l i (by simpa using h)
  simp only[List.getElem_cons_succ,Q6]
  exact(List.Perm.swap a _ _).trans (this.cons a)
theorem Fw{α:Type}(next:Nat→Nat):∀(n:Nat)(left:List α)(k:Nat)(out:Array α),left.length=n→((pickOrder.go next n k left out).toList).Perm (out.toList++left)
 | 0,left,k,out,hn=>by
  have:left=[]:=F9 hn
  subst this
  simp[pickOrder.go]
 | n+1,left,k,out,hn=>by
  unfold pickOrder.go
  have hl:next k%left.length<left.length:=W3 _ (by omega)
  rw[B3 hl]
  dsimp only
  refine(Fw next n (left.eraseIdx (next k%left.length)) (k+1) _ (by rw[O8 hl];omega)).trans ?_
  rw[U4,List.append_assoc]
  exact List.Perm.append_left _ (mH _ _ hl)
theorem vG{α:Type}(next:Nat→Nat)(xs:Array α):(pickOrder next xs).toList.Perm xs.toList:=by
 have:=Fw next xs.size xs.toList 0 #[] (by simp)
 simpa[pickOrder]using this
end L2


namespace L2
open PySem PySem.Spec PyProof.Rows
section
variable{prog:Program}{w:World}{A:Around}{E:Value→Shared→Prop}{s:Shared}{b:Bool}
def dG(prog:Program)(w:World)(b:Bool)(h:Heap)(a:Addr)(S:Int→Bool)(n:Nat):Prop:=
 ∃o es ep t,h.get? a=some o∧o.ExactSet∧o.data=.set es ep t∧ElemsOf (intKind prog w) es.toList∧(∀k,S k=true↔∃e∈es.toList,(intKind prog w).is k e.2=true)∧es.size<scanBound∧t.fits es.size=true∧es.size=n∧Led b t
theorem dG.at_{h h':Heap}{a:Addr}{S:Int→Bool}{n:Nat}(x:dG prog w b h a S n)(e:∀o,h.get? a=some o→h'.get? a=some o):dG prog w b h' a S n:=
 let ⟨o,es,ep,t,ho,r⟩:=x;⟨o,es,ep,t,e o ho,r⟩
theorem dG.to{h:Heap}{a:Addr}{S S':Int→Bool}{n n':Nat}(x:dG prog w b h a S n)(e:∀k,S k=S' k)(en:n=n'):dG prog w b h a S' n':=by
 subst en
 have:S=S':=funext e
 rw[←this]
 exact x
theorem Mx{h:Heap}{a:Addr}{o:Obj}{es es':Array (Int×Value)}{ep:Nat}{t t':SetTable}{S':Int→Bool}(ho:h.get? a=some o)(hex:o.ExactSet)(hd:o.data=.set es ep t)(hel:ElemsOf (intKind prog w) es'.toList)
  (hm:∀k,S' k=true↔∃e∈es'.toList,(intKind prog w).is k e.2=true) (hz:es'.size<scanBound) (hf:t'.fits es'.size=true) (hl:Led b t') :
  (h.update a (Obj.putSet es' t')).get? a=some {o with data:=.set es' (ep+1) t'}∧dG prog w b (h.update a (Obj.putSet es' t')) a S' es'.size:=
 have g:=(SetOf_store (knd:=intKind prog w) ho hex hd hel hm hz hf).1
 ⟨g,_,es',ep+1,t',g,hex,rfl,hel,hm,hz,hf,rfl,hl⟩
theorem My{g:Bool→Sem Unit}(hg:∀(c:Bool)(s₁:Shared)(Q':Unit→Shared→Prop),Q' () s₁→wpAny (model prog w) A (g c) Q' E s₁){a:Addr}{o:Obj}{es e1:Array (Int×Value)}{ep:Nat}{t t2:SetTable}{S':Int→Bool}
  (ho:s.heap.get? a=some o) (hex:o.ExactSet) (hd:o.data=.set es ep t) (hel:ElemsOf (intKind prog w) e1.toList) (hm:∀k,S' k=true↔∃e∈e1.toList,(intKind prog w).is k e.2=true) (hz:e1.size<scanBound) (hf:t2.fits e1.size=true) (hl:Led b t2)
  {wd:Bool} {R:Option Bool→Shared→Prop} (h:∀h',Heap.SameBut a s.heap h'→dG prog w b h' a S' e1.size→R (some true) {s with heap:=h'}) :
  wpAny (model prog w) A (do
    storeSet a e1 t2
    if(!wd&&t2.tooFull)=true then do
      g (relayAll t2 e1 (SetTable.grown e1.size)).2.2
      storeSet a (relayAll t2 e1 (SetTable.grown e1.size)).1 (relayAll t2 e1 (SetTable.grown e1.size)).2.1
      pure (some true)
     else pure (some true)) R E s:=by
 obtain⟨g1,s1⟩:=Mx (prog:=prog) (w:=w) ho hex hd hel hm hz hf hl
 refine wpAny_bind (wpAny_storeSet_of ho hd ?_ (fits_of_scanBound hz))
 have sb:=Heap.SameBut.update s.heap a (Obj.putSet e1 t2)
 split
 ·have pm:=relayAll_perm t2 e1 (SetTable.grown e1.size)
  have ff:=relayAll_fits t2 e1 (SetTable.grown e1.size)
  have ll:=hl.JN e1 (SetTable.grown e1.size)
  have sz:(relayAll t2 e1 (SetTable.grown e1.size)).1.size=e1.size:=by rw[←C9,pm.length_eq,C9]
  have zz:(relayAll t2 e1 (SetTable.grown e1.size)).1.size<scanBound:=by rw[sz];exact hz
  refine wpAny_bind (hg _ _ _ (wpAny_bind (wpAny_storeSet_of g1 rfl ?_ (fits_of_scanBound zz))))
  obtain⟨_,s2⟩:=Mx (prog:=prog) (w:=w) (S':=S') g1 hex rfl (hel.perm pm) (λk=>(hm k).trans ⟨λ⟨e,he,q⟩=>⟨e,pm.mem_iff.mpr he,q⟩,λ⟨e,he,q⟩=>⟨e,pm.mem_iff.mp he,q⟩⟩) zz ff ll
  rw[sz]at s2
  exact wpAny_pure (h _ (sb.trans (Heap.SameBut.update _ a _)) s2)
 ·exact wpAny_pure (h _ sb s1)
theorem Vs{a:Addr}{S:Int→Bool}{n:Nat}{k:Int}{tk:Tok}{Q:Bool→Shared→Prop}(hS:dG prog w b s.heap a S n)(room:n+1<scanBound)
  (h:∀h',Heap.SameBut a s.heap h'→dG prog w b h' a (λj=>S j||decide (j=k)) (if S k then n else n+1)→Q (!S k) {s with heap:=h'}) :
  wpAny (model prog w) A (setAddHashed a (.int k tk) ((intKind prog w).hash k)) Q E s:=by
 obtain⟨o,es,ep,t,ho,hex,hd,hel,hm,hb,hf,hn,hl⟩:=hS
 have key:(intKind prog w).is k (.int k tk)=true:=intKind_is _ _ _ _
 have sc:(Value.int k tk).scannable=true:=rfl
 unfold setAddHashed setAddHashedIn
 refine wpAny_holding (wpAny_bind (wpAny_setState_of ho hd hf ?_))
 dsimp only
 rw[byScan_of sc hb hel]
 simp only[↓reduceIte]
 unfold setAddByScan
 refine wpAny_bind (wpAny_bind (wpAny_rule (wpAny_bind (wpAny_setScan_of key ho hd hf hel ?_))))
 cases hr:List.findIdx? (λe=>(intKind prog w).is k e.2) es.toList with
 | some j=>
  dsimp only
  obtain⟨hj,pj,_⟩:=List.findIdx?_eq_some_iff_getElem.mp hr
  have hk:S k=true:=(hm k).mpr ⟨es.toList[j],L0 hj,pj⟩
  have z:=h s.heap (Heap.SameBut.refl a s.heap) ⟨o,es,ep,t,ho,hex,hd,hel,λj=>by
   rw[M7,decide_eq_true_eq,←hm j]
   exact⟨λq=>q.elim id λe=>by rw[e];exact hk,.inl⟩,hb,hf,by rw[hk];exact hn,hl⟩
  rw[hk]at z
  exact wpAny_pure (wpAny_pure z)
 | none=>
  dsimp only
  have hk:S k=false:=by
   cases e:S k with
   | false=>rfl
   | true=>
    obtain⟨x,hx,px⟩:=(hm k).mp e
    have:=List.findIdx?_eq_none_iff.mp hr x hx
    rw[px]at this
    cases this
  have hgw:∀(c:Bool) {s₁:Shared} {Q':Unit→Shared→Prop},Q' () s₁→wpAny (model prog w) A (match c with | true=>rule "set.scan.the-table-gave-way" | false=>pure ()) Q' E s₁:=λc s₁ Q' q=>by
   cases c
   ·exact wpAny_pure q
   ·exact wpAny_rule q
  have pm:=layNew_perm t es ((intKind prog w).hash k) (.int k tk)
  have ff:=layNew_fits t es ((intKind prog w).hash k) (.int k tk)
  have ll:=hl.lay es ((intKind prog w).hash k) (.int k tk)
  generalize layNew t es ((intKind prog w).hash k) (.int k tk)=Y at pm ff ll ⊢
  obtain⟨e1,t1,wd,gave⟩:=Y
  dsimp only at pm ff ll ⊢
  rw[U4]at pm
  have sz:e1.size=n+1:=by rw[←C9,pm.length_eq,D1,C9,hn];rfl
  have zz:e1.size<scanBound:=by omega
  have YD:=(hel.push key sc).perm pm
  have m1:=mem_push_iff (k:=k) key hm pm
  refine wpAny_bind (hgw _ ?_)
  have fin:∀h',Heap.SameBut a s.heap h'→dG prog w b h' a (λj=>S j||decide (j=k)) e1.size→Q true {s with heap:=h'}:=λh' q1 q2=>by
   have z:=h h' q1
   rw[hk]at z
   rw[sz]at q2
   exact z q2
  split
  ·rw[hashByValue_scannable 8 sc]
   refine wpAny_bind (wpAny_pure ?_)
   refine My (b:=b) (λc s₁ Q' q=>hgw c q) ho hex hd YD m1 zz ?_ ?_ λh' q1 q2=>?_
   ·split
    ·exact ff
    ·exact SetTable.fits_plain_off ff
   ·split
    ·exact ll
    ·exact ll.off
   ·dsimp only
    exact wpAny_pure (fin h' q1 q2)
  ·refine wpAny_bind (wpAny_pure ?_)
   simp only[↓reduceIte]
   refine My (b:=b) (λc s₁ Q' q=>hgw c q) ho hex hd YD m1 zz ff ll λh' q1 q2=>?_
   dsimp only
   exact wpAny_pure (fin h' q1 q2)
end
section
variable{prog:Program}{w:World}{A:Around}{R:Result→Shared→Prop}{I:Addr}{fp wr:List Addr}{G:Array GenState→Array GenState→Prop}{n:Nat}{P:Nat→Value→Prop}{St:Nat→Shared→Prop}{b:Bool}
abbrev Di(prog:Program)(w:World)(b:Bool)(h:Heap)(a:Addr)(val:Nat→Int)(i:Nat):Prop:=dG prog w b h a (λk=>(firstMet val i).any (·==k)) (firstMet val i).length
theorem Zf(W:WalksS prog w A.in1 I fp wr G n P St)(a:Addr)(hf:a∉fp)(val:Nat→Int)(hval:∀i v,P i v→∃t,v=.int (val i) t)(hz:n+1<scanBound) :
  ∀(m i:Nat)(s:Shared),n-i=m→i≤n→St i s→Di prog w b s.heap a val i→(∀s',Moved (a::wr) G s s'→Di prog w b s'.heap a val n→R (.ok (.ret .none)) s') →
   codeAny (model prog w) A (.builtin "set.update.loop" ⟨[.ref a,.ref I],[]⟩) R s:=by
 have hw:a∉wr:=λz=>hf (W.sub _ z)
 have sub:∀c∈wr,c∈a::wr:=λc hc=>B4 _ hc
 intro m
 induction m with
 | zero=>
  intro i s hk hi hst hS hR
  have e:i=n:=by omega
  subst e
  refine codeAny_builtin N0 ?_
  rw[Around.under_plainId K2 _]
  show wpAny _ A.in1 (pyNext (.ref I) >>= _) _ _ s
  refine wpAny_bind (W.done s _ _ hst λs' mv=>?_)
  show wpAny _ A.in1 (ret Value.none) _ _ s'
  exact wpAny_pure (hR s' (mv.mono sub) (hS.at_ λo e=>mv.heap a o hw e))
 | succ m ih=>
  intro i s hk hi hst hS hR
  have lt:i<n:=by omega
  refine codeAny_builtin N0 ?_
  rw[Around.under_plainId K2 _]
  show wpAny _ A.in1 (pyNext (.ref I) >>= _) _ _ s
  refine wpAny_bind (W.item i s _ _ lt hst λv s1 hP st1 mv=>?_)
  obtain⟨tk,rfl⟩:=hval i v hP
  have S1:Di prog w b s1.heap a val i:=hS.at_ λo e=>mv.heap a o hw e
  show wpAny _ A.in1 (holding [Value.int (val i) tk] (setAdd a (.int (val i) tk)) >>= _) _ _ s1
  unfold setAdd
  refine wpAny_bind (wpAny_holding (wpAny_holding (wpAny_bind ((intKind prog w).pyHash (k:=val i) (intKind_is _ _ _ _) ?_))))
  have room:(firstMet val i).length+1<scanBound:=by have:=firstMet_length_le val i;omega
  refine Vs (s:={s1 with toks:=s1.toks+1}) S1 room λh' sb S2=>?_
  have S3:Di prog w b h' a val (i+1):=S2.to (λj=>by rw[firstMet_succ,step_any]) (by rw[firstMet_succ,step_length])
  refine wpAny_pure ⟨plainId_quiet K2 _,ih (i+1) _ (by omega) lt (W.frame _ s1 _ _ st1 (M5 _) λc hc o e=>?_) S3 λs2 cj S4=>?_⟩
  ·rw[sb.2 c λz=>hf (by rw[←z];exact hc)]
   exact e
  ·refine hR s2 (Moved.trans W.gtrans ((mv.mono sub).then_heap (M5 _) λc o hc e=>?_) cj) S4
   rw[sb.2 c λz=>hc (by rw[z];exact B7)]
   exact e
end
end L2


namespace L2
open PySem PySem.Spec PyProof.Rows
section
variable{prog:Program}{w:World}{A:Around}{E:Value→Shared→Prop}{s:Shared}
abbrev cN(b:Bool):Obj:={cls:=.type "set", dict:=none,data:=.set #[] 0 (.fresh 0 0 b)}
abbrev bI(w:World):Bool:=!w.params.followText "set-order"
theorem JP(a:Value){Q:Value→Shared→Prop}(h:Q (.ref s.heap.objs.size) {s with heap:=s.heap.push (cN (bI w))}) :
  codeAny (model prog w) A (.call (.builtin "set.__new__") ⟨[.type "set", a],[]⟩) (wants Q E) s:=by
 refine codeAny_of_tree ?_
 show wpAny _ A.in1 (checkBuiltinCall "set.__new__" ⟨[.type "set", a],[]⟩ >>= λ_=>again (.builtin "set.__new__" ⟨[.type "set", a],[]⟩)) _ _ s
 refine wpAny_bind (wpAny_of_eq (PySem.F.newCall_set_1 a) (wpAny_pure ⟨plainId_quiet S8 _,codeAny_builtin PySem.F.entry_set_new ?_⟩))
 rw[Around.under_plainId S8 _]
 unfold Builtin.«set.__new__» Builtin.Frozenset.newClass
 have sub:=sub_set_self
 obtain⟨hp,g,d,tk,os⟩:=s
 dsimp only
 wp_walk
 refine wpAny_askSetting (wpAny_pure ?_)
 dsimp only
 simp only[newObj]
 exact wpAny_bind (wpAny_alloc (wpAny_pure (wpAny_pure h)))
theorem Tq(b:Bool){h:Heap}{a:Addr}{val:Nat→Int}(e:h.get? a=some (cN b)):Di prog w b h a val 0:=
 ⟨_,#[],0,_,e,⟨rfl,rfl,rfl⟩,rfl,λx hx=>by simp at hx,λk=>by simp[firstMet_zero],by decide,by rfl,rfl,Led.fresh b⟩
theorem Vt{l:Addr}{its:Array Value}{ns:List Int}{Q:Value→Shared→Prop}(hh:A.handled=none)(hl:s.heap.IsList l its)(hi:IntsAre its.toList ns)(hz:its.size+1<scanBound)
  (h:∀(h':Heap)(tk:Nat),Di prog w (bI w) h' s.heap.objs.size (λi=>ns.getD i 0) its.size→(∀b o,s.heap.get? b=some o→h'.get? b=some o)→Q (.ref s.heap.objs.size) {s with heap:=h',toks:=tk}) :
  wpAny (model prog w) A (call (.type "set") [.ref l]) Q E s:=by
 obtain⟨c,tl,hmro⟩:=G1.mro
 have hmade:=G1.made
 have hsub:=G1.sub
 refine wpAny_call (codeAny_of_tree ?_)
 show wpAny _ _ (callAny (.type "set") _) _ _ _
 refine wpAny_pure ⟨Code.quiet_builtin _ (by decide +kernel),codeAny_builtin PySem.F.entry_type_call ?_⟩
 rw[Around.under_plain (weight_type_call_type "set" [.ref l] []) rfl]
 have h1:=G1.notType
 have h2:=G1.canCreate
 have hct:=PySem.F.typeCall_set_1 (.ref l)
 repeat (any_goals (first | assumption | wp_step))
 refine codeAny_mono (JP (.ref l) (E:=E) (Q:=λv s1=>v=.ref s.heap.objs.size∧s1={s with heap:=s.heap.push (cN (bI w))}) ⟨rfl,rfl⟩) λr s1 hr=>?_
 cases r with
 | error e=>exact hr
 | ok fl=>
  cases fl with
  | ret obj=>
   obtain⟨rfl,rfl⟩:=hr
   have g0:(s.heap.push (cN (bI w))).get? s.heap.objs.size=some (cN (bI w)):=Heap.get?_push_size _ rfl
   have hT:Shared.TypeIs {s with heap:=s.heap.push (cN (bI w))} (.ref s.heap.objs.size) "set" := ⟨_,g0,rfl⟩
   have hli:=G1.init.lookup
   have hbi:=G1.init.bind (.ref s.heap.objs.size)
   repeat (any_goals (first | assumption | wp_step))
   refine codeAny_mono (codeAny_call_builtin (R:=wants (λr s2=>r=.none∧∃h' tk,s2={s with heap:=h',toks:=tk}∧Di prog w (bI w) h' s.heap.objs.size (λi=>ns.getD i 0) its.size∧(∀b o,s.heap.get? b=some o→h'.get? b=some o)) E) G1.init.plain PySem.F.entry_set_init (check_set_init_1 hT ?_)) λr2 s2 hr2=>?_
   ·obtain⟨ol,hol,hcl,nl,hdl⟩:=hl
    obtain⟨ocls,odict,odata,oslots⟩:=ol
    simp only at hcl hdl
    subst hcl hdl
    have hol':(s.heap.push (cN (bI w))).get? l=some {cls:=.type "list", dict:=odict,data:=.seq its nl,slots:=oslots}:=Heap.get?_push_of_some _ hol
    have q1:=PySem.F.sub_list_set
    have q2:=PySem.F.sub_list_frozenset
    have q3:(Value.type "list" == Value.type "dict")=false:=by decide
    have L1:(s.heap.push (cN (bI w))).IsList l its:=⟨_,hol',rfl,nl,rfl⟩
    unfold Builtin.«set.__init__» noKeywords Builtin.Frozenset.updateFrom
    generalize hPI:pyIter=PI
    wp_walk
    subst hPI
    refine wpAny_pyIter_list L1 (wpAny_bind (wpAny_runValue ?_))
    have lt:=Heap.lt_size hol
    have hh3:A.in1.in1.in1.handled=none:=by simp[hh]
    have ne:l≠(s.heap.push (cN (bI w))).objs.size:=by rw[Heap.size_push];exact C6 (F6 lt)
    have nf:s.heap.objs.size∉[(s.heap.push (cN (bI w))).objs.size,l]:=by
     rw[Heap.size_push]
     intro z
     rcases B6.mp z with z | z
     ·exact absurd z (C6 (K9 _))
     ·exact absurd (B9.mp z) (J2 lt)
    have hval:∀(i:Nat)(v:Value),its[i]?=some v→∃t,v=.int ((λi=>ns.getD i 0) i) t:=λi v hv=>hi.int_at i v (by rw[F2];exact hv)
    refine Zf ((Walks.list hh3 _ l ne its).toS) s.heap.objs.size nf (λi=>ns.getD i 0) hval hz (its.size-0) 0 _ (by omega) (K0 _) ⟨⟨_,Heap.get?_push_size _ rfl,rfl,rfl⟩,(L1.push _)⟩ (Tq (bI w) (Heap.get?_push_of_some _ g0)) λs' mv S'=>?_
    obtain⟨h',g',d',tk',os'⟩:=s'
    have eg:g'=s.gens:=mv.gens
    have ed:d'=s.drawn:=mv.drawn
    have eo:os'=s.os:=mv.os
    subst eg ed eo
    show wpAny _ _ _ _ _ _
    refine wpAny_pure ?_
    show wpAny _ _ (ret Value.none) _ _ _
    refine wpAny_pure ⟨rfl,h',tk',rfl,S',λb o e=>?_⟩
    have lb:=Heap.lt_size e
    refine mv.heap b o (λz=>?_) (Heap.get?_push_of_some _ (Heap.get?_push_of_some _ e))
    rcases B6.mp z with z | z
    ·exact absurd z (C6 lb)
    ·have:=B9.mp z
     rw[Heap.size_push]at this
     exact absurd this (C6 (F6 lb))
   ·cases r2 with
    | error e=>exact hr2
    | ok f2=>
     cases f2 with
     | ret r=>
      obtain⟨rfl,h',tk,rfl,S',kp⟩:=hr2
      repeat (any_goals (first | assumption | wp_step))
      exact h _ _ S' kp
     | _=>exact hr2.elim
  | _=>exact hr.elim
end
end L2


namespace L2
open PySem PySem.Spec PyProof.Rows
theorem Mz:Manifest.owners.lookup (String.ofList ['r','o','t','a','r','e','t','i','_','t','e','s'].reverse)=some Manifest.sig_set_iterator:=by kernel_rfl
theorem cW:Slot "set_iterator" "__next__" "set_iterator.__next__" := Slot.of (owner := "set_iterator") (n := "__next__") (by rw[typeLookup_type,builtinLookup_eq_fast];kernel_rfl) (by decide +kernel) (by decide +kernel) (by decide +kernel) (by first | exact .inl (by decide +kernel) | exact .inr (by decide +kernel)) (by rw[isSubtype_type];kernel_rfl)
theorem jY:entryFor table "set_iterator.__next__" = some Builtin.«set_iterator.__next__»:=entryFor_of_tree (by kernel_rfl)
theorem jZ(a:Value):argsOk "set_iterator.__next__" ⟨[a],[]⟩:=by
 unfold argsOk;rw[signature?_of (id := "set_iterator.__next__") (n:=['_','_','t','x','e','n','_','_']) (o:=['r','o','t','a','r','e','t','i','_','t','e','s']) (by kernel_rfl) Mz];kernel_rfl
theorem Fx:Slot "set_iterator" "__iter__" "set_iterator.__iter__" := Slot.of (owner := "set_iterator") (n := "__iter__") (by rw[typeLookup_type,builtinLookup_eq_fast];kernel_rfl) (by decide +kernel) (by decide +kernel) (by decide +kernel) (by first | exact .inl (by decide +kernel) | exact .inr (by decide +kernel)) (by rw[isSubtype_type];kernel_rfl)
theorem Ir(a:Value):argsOk "set_iterator.__iter__" ⟨[a],[]⟩:=by
 unfold argsOk;rw[signature?_of (id := "set_iterator.__iter__") (n:=['_','_','r','e','t','i','_','_']) (o:=['r','o','t','a','r','e','t','i','_','t','e','s']) (by kernel_rfl) Mz];kernel_rfl
theorem Iu:entryFor table "set_iterator.__iter__" = some Builtin.«dict_keyiterator.__iter__»:=entryFor_alias (id' := "dict_keyiterator.__iter__") (by kernel_rfl) (by first | rfl | decide +kernel | (unfold String.splitOn;simp +decide [String.splitOnAux])) (by decide +kernel) (by kernel_rfl)
theorem Iv:entryFor table "set.__iter__" = some Builtin.«frozenset.__iter__»:=entryFor_alias (id' := "frozenset.__iter__") (by kernel_rfl) rfl (by decide +kernel) (by kernel_rfl)
def Fy(h:Heap)(I:Addr)(f:Value)(i:Nat)(a:Addr)(n ep:Nat):Prop:=∃o,h.get? I=some o∧o.cls=.type "set_iterator" ∧ o.data=.fields #[f,.int (i:Int) 0,.ref a,.int (n:Int) 0,.int (ep:Int) 0]
def Dj(h:Heap)(a:Addr)(es:Array (Int×Value))(ep:Nat)(t:SetTable):Prop:=∃o,h.get? a=some o∧o.cls=.type "set" ∧ o.data=.set es ep t∧t.fits es.size=true
theorem Fy.at_{h h':Heap}{I a:Addr}{f:Value}{i n ep:Nat}(x:Fy h I f i a n ep)(e:∀o,h.get? I=some o→h'.get? I=some o):Fy h' I f i a n ep:=let ⟨o,ho,r⟩:=x;⟨o,e o ho,r⟩
theorem Dj.at_{h h':Heap}{a:Addr}{es:Array (Int×Value)}{ep:Nat}{t:SetTable}(x:Dj h a es ep t)(e:∀o,h.get? a=some o→h'.get? a=some o):Dj h' a es ep t:=let ⟨o,ho,r⟩:=x;⟨o,e o ho,r⟩
section
variable{prog:Program}{w:World}{A:Around}{E:Value→Shared→Prop}{s:Shared}{I a T:Addr}{f:Value}{i n ep:Nat}{es:Array (Int×Value)}{t:SetTable}
theorem Fy.ty(x:Fy s.heap I f i a n ep):s.TypeIs (.ref I) "set_iterator" := let ⟨o,ho,hc,_⟩:=x;⟨o,ho,hc⟩
theorem Dj.ty(x:Dj s.heap a es ep t):s.TypeIs (.ref a) "set" := let ⟨o,ho,hc,_⟩:=x;⟨o,ho,hc⟩
theorem Fz{Q:Value→Shared→Prop}(x:Fy s.heap I f i a n ep)(h:Q (.ref I) s):wpAny (model prog w) A (pyIter (.ref I)) Q E s:=by
 refine wpAny_pyIter_slot x.ty Fx (wpAny_call_entry Fx x.ty Iu ?_ (Ir _))
 show wpAny _ _ (ret (.ref I)) _ _ s
 exact wpAny_pure ⟨_,rfl, "set_iterator", _,x.ty,cW.lookup,h⟩
theorem Af{α:Type}{h1:Heap}{Q0:α→Shared→Prop}{E':Value→Shared→Prop}(hh:A.handled=none)(hQ:∀(v:Value) h',Shared.TypeIs {s with heap:=h'} v "StopIteration" → (∀b o,h1.get? b=some o→h'.get? b=some o)→E' v {s with heap:=h'}) :
  wpAny (model prog w) A.in1 (newExc (.type "StopIteration") [] >>= λe=>(raiseNew e:Sem α)) Q0 E' {s with heap:=h1}:=by
 refine wpAny_bind ?_
 simp only[newExc,newTuple]
 refine wpAny_bind (wpAny_newObj_type (wpAny_bind (m:=firstArgMember _ _) (wpAny_of_eq (a:=Value.none) (by first | rfl | (simp only[firstArgMember];rfl)) (wpAny_newObj_type ?_ (by size_fits)))) (by size_fits))
 simp only[raiseNew]
 refine wpAny_bind (wpAny_handled ?_)
 rw[show A.in1.handled=none from hh]
 refine wpAny_bind (wpAny_pure (wpAny_throw ?_))
 refine hQ (.ref _) _ ?_ λb o e=>Heap.get?_push_of_some _ (Heap.get?_push_of_some _ e)
 exact⟨_,Heap.get?_push_size _ rfl,rfl⟩
theorem Tr{slot nxt:Nat}{x:Value}{Q:Option Value→Shared→Prop}(hit:Fy s.heap I (.int (slot:Int) 0) i a es.size ep)(hs:Dj s.heap a es ep t)
  (hN:∀(Q':Option (Value×Nat)→Shared→Prop) E',Q' (some (x,nxt)) s→wpAny (model prog w) A.in1 (setNext a slot i ep) Q' E' s)
  (hQ:∀h',Fy h' I (.int (nxt:Int) 0) (i+1) a es.size ep→Heap.SameBut I s.heap h'→Q (some x) {s with heap:=h'}):wpAny (model prog w) A (pyNext (.ref I)) Q E s:=by
 obtain⟨o,ho,hc,hd⟩:=id hit
 obtain⟨oa,ha,_,hda,hf⟩:=id hs
 unfold pyNext
 refine wpAny_bind (wpAny_attempt (wpAny_callSpecial?_slot (name:=Str.ofString "__next__") hit.ty cW (wpAny_call_entry cW hit.ty jY ?_ (jZ _))))
 unfold Builtin.«set_iterator.__next__»
 refine wpAny_bind (wpAny_of_eq (a:=(Value.ref I,[])) rfl ?_)
 dsimp only
 refine wpAny_bind (wpAny_fieldsOf ho hd ?_)
 dsimp only
 refine wpAny_bind (wpAny_setEntries_of ha hda hf ?_)
 rw[if_neg (by simp)]
 dsimp only[J5]
 refine wpAny_bind (hN _ _ ?_)
 dsimp only
 refine wpAny_bind (wpAny_setField ho hd (by simp) ?_)
 have g1:=Heap.get?_update_self (Obj.mapFields (·.setIfInBounds 0 (rawInt (nxt:Int)))) ho (Obj.isFreed_of_fields (Obj.data_mapFields hd _))
 have d1:=Obj.data_mapFields hd (·.setIfInBounds 0 (rawInt (nxt:Int)))
 refine wpAny_bind (wpAny_setField g1 d1 (by simp) (wpAny_pure ⟨x,rfl,wpAny_pure (hQ _ ?_ ((Heap.SameBut.update ..).trans (Heap.SameBut.update ..)))⟩))
 refine⟨_,Heap.get?_update_self _ g1 (Obj.isFreed_of_fields (Obj.data_mapFields d1 _)),(Obj.cls_mapFields ..).trans ((Obj.cls_mapFields ..).trans hc),?_⟩
 rw[Obj.data_mapFields d1]
 simp[rawInt]
theorem Zg{slot:Nat}{Q:Option Value→Shared→Prop}(hh:A.handled=none)(hit:Fy s.heap I (.int (slot:Int) 0) i a es.size ep)(hs:Dj s.heap a es ep t)
  (hN:∀(Q':Option (Value×Nat)→Shared→Prop) E',Q' none s→wpAny (model prog w) A.in1 (setNext a slot i ep) Q' E' s)
  (hQ:∀h',(∀b o,b≠I→s.heap.get? b=some o→h'.get? b=some o)→Q none {s with heap:=h'}):wpAny (model prog w) A (pyNext (.ref I)) Q E s:=by
 obtain⟨o,ho,hc,hd⟩:=id hit
 obtain⟨oa,ha,_,hda,hf⟩:=id hs
 unfold pyNext
 refine wpAny_bind (wpAny_attempt (wpAny_callSpecial?_slot (name:=Str.ofString "__next__") hit.ty cW (wpAny_call_entry cW hit.ty jY ?_ (jZ _))))
 unfold Builtin.«set_iterator.__next__»
 refine wpAny_bind (wpAny_of_eq (a:=(Value.ref I,[])) rfl ?_)
 dsimp only
 refine wpAny_bind (wpAny_fieldsOf ho hd ?_)
 dsimp only
 refine wpAny_bind (wpAny_setEntries_of ha hda hf ?_)
 rw[if_neg (by simp)]
 dsimp only[J5]
 refine wpAny_bind (hN _ _ ?_)
 dsimp only
 refine wpAny_bind (wpAny_setField ho hd (by simp) ?_)
 refine Af hh λv h' ty kp=>wpAny_bind (wpAny_isInstance ty isSubtype_stop ?_)
 exact wpAny_pure (hQ h' λb o nb e=>kp b o ((Heap.SameBut.update s.heap I _).extBut b o nb e))
theorem Tt{ps:Array Value}{c p:Nat}{tk:Tok}{hx:Int}{x:Value}{oT:Obj}{Q:Option Value→Shared→Prop}(hit:Fy s.heap I (.ref T) i a es.size ep)(hs:Dj s.heap a es ep t)(hT:s.heap.get? T=some oT)(hTd:oT.data=.seq ps c)(hp:ps[i]?=some (.int (p:Int) tk))(he:es[p]?=some (hx,x))
  (hQ:∀h',Fy h' I (.ref T) (i+1) a es.size ep→Heap.SameBut I s.heap h'→Q (some x) {s with heap:=h'}):wpAny (model prog w) A (pyNext (.ref I)) Q E s:=by
 obtain⟨o,ho,hc,hd⟩:=id hit
 obtain⟨oa,ha,_,hda,hf⟩:=id hs
 unfold pyNext
 refine wpAny_bind (wpAny_attempt (wpAny_callSpecial?_slot (name:=Str.ofString "__next__") hit.ty cW (wpAny_call_entry cW hit.ty jY ?_ (jZ _))))
 unfold Builtin.«set_iterator.__next__»
 refine wpAny_bind (wpAny_of_eq (a:=(Value.ref I,[])) rfl ?_)
 dsimp only
 refine wpAny_bind (wpAny_fieldsOf ho hd ?_)
 dsimp only
 refine wpAny_bind (wpAny_setEntries_of ha hda hf ?_)
 rw[if_neg (by simp)]
 dsimp only[J5]
 refine wpAny_bind (wpAny_seqItems hT hTd ?_)
 dsimp only
 rw[hp]
 dsimp only[J5]
 unfold setNextDrawn
 refine wpAny_bind (wpAny_bind (wpAny_setState_of ha hda hf ?_))
 dsimp only
 rw[if_neg (by simp),he]
 dsimp only
 refine wpAny_pure (wpAny_bind (wpAny_setField ho hd (by simp) (wpAny_pure ⟨x,rfl,wpAny_pure (hQ _ ?_ (Heap.SameBut.update ..))⟩)))
 refine⟨_,Heap.get?_update_self _ ho (Obj.isFreed_of_fields (Obj.data_mapFields hd _)),(Obj.cls_mapFields ..).trans hc,?_⟩
 rw[Obj.data_mapFields hd]
 simp[rawInt]
theorem Zh{ps:Array Value}{c:Nat}{oT:Obj}{Q:Option Value→Shared→Prop}(hh:A.handled=none)(hit:Fy s.heap I (.ref T) i a es.size ep)(hs:Dj s.heap a es ep t)(hT:s.heap.get? T=some oT)(hTd:oT.data=.seq ps c)(hp:ps[i]?=none)
  (hQ:∀h',(∀b o,b≠I→s.heap.get? b=some o→h'.get? b=some o)→Q none {s with heap:=h'}):wpAny (model prog w) A (pyNext (.ref I)) Q E s:=by
 obtain⟨o,ho,hc,hd⟩:=id hit
 obtain⟨oa,ha,_,hda,hf⟩:=id hs
 unfold pyNext
 refine wpAny_bind (wpAny_attempt (wpAny_callSpecial?_slot (name:=Str.ofString "__next__") hit.ty cW (wpAny_call_entry cW hit.ty jY ?_ (jZ _))))
 unfold Builtin.«set_iterator.__next__»
 refine wpAny_bind (wpAny_of_eq (a:=(Value.ref I,[])) rfl ?_)
 dsimp only
 refine wpAny_bind (wpAny_fieldsOf ho hd ?_)
 dsimp only
 refine wpAny_bind (wpAny_setEntries_of ha hda hf ?_)
 rw[if_neg (by simp)]
 dsimp only[J5]
 refine wpAny_bind (wpAny_seqItems hT hTd ?_)
 dsimp only
 rw[hp]
 dsimp only
 refine wpAny_bind (wpAny_setField ho hd (by simp) ?_)
 have g1:=Heap.get?_update_self (Obj.mapFields (·.setIfInBounds 0 (rawInt 0))) ho (Obj.isFreed_of_fields (Obj.data_mapFields hd _))
 have d1:=Obj.data_mapFields hd (·.setIfInBounds 0 (rawInt 0))
 refine wpAny_bind (wpAny_setField g1 d1 (by simp) ?_)
 refine Af hh λv h' ty kp=>wpAny_bind (wpAny_isInstance ty isSubtype_stop ?_)
 exact wpAny_pure (hQ h' λb o nb e=>kp b o (((Heap.SameBut.update s.heap I _).trans (Heap.SameBut.update _ I _)).extBut b o nb e))
theorem Zi{slot:Nat}{Q:Option (Value×Nat)→Shared→Prop}(hb:bI w=false)(hs:Dj s.heap a es ep t)(h:Q (((pickOrder (w.params.setOrder a ep) es)[i]?).map λe=>(e.2,slot)) s):wpAny (model prog w) A (setNext a slot i ep) Q E s:=by
 obtain⟨oa,ha,_,hda,hf⟩:=id hs
 have ft:w.params.followText "set-order" = true:=by simpa using hb
 unfold setNext
 refine wpAny_bind (wpAny_setState_of ha hda hf ?_)
 dsimp only
 unfold setsByText
 refine wpAny_bind (wpAny_bind (wpAny_askSetting (wpAny_pure ?_)))
 dsimp only
 rw[show (model prog w).w.params.followText "set-order" = true from ft,if_pos rfl,if_neg (by simp)]
 unfold setWalk setsByText
 refine wpAny_bind (wpAny_bind (wpAny_setState_of ha hda hf ?_))
 dsimp only
 refine wpAny_bind (wpAny_bind (wpAny_askSetting (wpAny_pure ?_)))
 dsimp only
 rw[show (model prog w).w.params.followText "set-order" = true from ft,if_pos rfl]
 refine wpAny_bind (wpAny_askSetting (wpAny_pure (wpAny_pure ?_)))
 exact h
def nF(t:SetTable):Nat→Nat
 | 0=>0
 | i+1=>t.place.getD i 0+1
theorem Dk(up:t.place.toList.Pairwise (·<·))(hi:i≤t.place.size):SetTable.below t.place (nF t i)=i:=by
 obtain⟨b1,b2,b3⟩:=below_at up (nF t i)
 have mono:∀a b,a<b→b<t.place.size→t.place.getD a 0<t.place.getD b 0:=λa b q q'=>by
  have:=M8.mp up a b (by simp;omega) (by simpa using q') q
  simp only[N9]at this
  simpa[K6,q',show a<t.place.size by omega]using this
 rcases Nat.lt_trichotomy (SetTable.below t.place (nF t i)) i with z | z | z
 ·cases i with
  | zero=>omega
  | succ i=>
   have h1:=b3 i (by omega) (by omega)
   rw[show nF t (i+1)=t.place.getD i 0+1 from rfl]at h1
   omega
 ·exact z
 ·have h1:=b2 i z
  cases i with
  | zero=>exact absurd h1 (M9 _)
  | succ i=>
   rw[show nF t (i+1)=t.place.getD i 0+1 from rfl]at h1
   have:=mono i (i+1) (by omega) (by omega)
   omega
theorem Zj{Q:Option (Value×Nat)→Shared→Prop}(hb:bI w=true)(hs:Dj s.heap a es ep t)(hl:Led (bI w) t)(hdr:(!t.plain&&decide (es.size > 1))=false)(hi:i≤es.size)(h:Q ((es[i]?).map λe=>(e.2,nF t (i+1))) s):wpAny (model prog w) A (setNext a (nF t i) i ep) Q E s:=by
 obtain⟨oa,ha,_,hda,hf⟩:=id hs
 have ft:w.params.followText "set-order" = false:=by simpa using hb
 have hz:t.place.size=es.size:=by
  simp only[SetTable.fits,D6,beq_iff_eq]at hf
  exact hf.1
 have up:t.place.toList.Pairwise (·<·):=by
  cases e:t.plain with
  | true=>exact(hl.2 e).1
  | false=>
   rw[e]at hdr
   have:es.size≤1:=by simpa using hdr
   match h:t.place.toList with
   | []=>exact .nil
   | [x]=>simp
   | x::y::r=>
    have:=congrArg List.length h
    simp at this
    omega
 unfold setNext
 refine wpAny_bind (wpAny_setState_of ha hda hf ?_)
 dsimp only
 unfold setsByText
 refine wpAny_bind (wpAny_bind (wpAny_askSetting (wpAny_pure ?_)))
 dsimp only
 rw[show (model prog w).w.params.followText "set-order" = false from ft,if_neg (by simp)]
 refine wpAny_ite_split (λq=>?_) λ_=>?_
 ·exfalso
  have q':(!t.plain&&decide (es.size > 1))=true:=q
  rw[hdr]at q'
  cases q'
 ·refine wpAny_bind ?_
  refine wpAny_ite_split (λq=>?_) λ_=>wpAny_pure ?_
  ·exfalso
   have:t.led=true:=by rw[hl.1,hb]
   rw[this]at q
   simp at q
  ·rw[Dk up (by omega)]
   refine wpAny_pure ?_
   rcases G7 i es.size with z | z
   ·rw[J1 z]at h ⊢
    rw[J1 (by omega)]
    have e:t.place[i]'(by omega)=t.place.getD i 0:=by simp[K6,show i<t.place.size by omega]
    simpa[nF,e]using h
   ·rw[S5 z]at h ⊢
    exact h
end
end L2


namespace L2
open PySem PySem.Spec PyProof.Rows
section
variable{prog:Program}{w:World}{A:Around}{E:Value→Shared→Prop}{s:Shared}{I a T:Addr}{f:Value}{i n ep:Nat}{es:Array (Int×Value)}{t:SetTable}
theorem Tu{M:Model}{src:Source}{m:Nat}{Q:Nat→Shared→Prop}(hm:m≠0)(h:∀i dr,i<m→Q i {s with drawn:=dr}):wpAny M A (choose src m) Q E s:=λ_ _ _=>⟨hm,h _ _ (W3 _ (Nat.pos_of_ne_zero hm))⟩
theorem oZ{M:Model}{α:Type}:∀(m:Nat)(xs:List α)(s:Shared)(Q:List α→Shared→Prop),xs.length=m→(∀ys dr,ys.Perm xs→Q ys {s with drawn:=dr})→wpAny M A (drawOrder m xs) Q E s
 | 0,xs,s,Q,hn,h=>by
  have:xs=[]:=F9 hn
  subst this
  unfold drawOrder
  exact wpAny_pure (h [] s.drawn (J9 _))
 | m+1,[],s,Q,hn,h=>absurd hn (by simp)
 | m+1,x::xs,s,Q,hn,h=>by
  unfold drawOrder
  refine wpAny_bind (Tu (by simp) λi dr hi=>?_)
  rw[B3 hi]
  dsimp only
  refine wpAny_bind (oZ m ((x::xs).eraseIdx i) _ _ (by rw[O8 hi];omega) λys cu pm=>wpAny_pure ?_)
  exact h _ cu ((pm.cons _).trans (mH _ _ hi))
def Ord(S:Int→Bool)(n:Nat)(ord:List Value):Prop:=ord.length=n∧∃ns,IntsAre ord ns∧∀k,S k=true↔k∈ns
theorem Dl{S:Int→Bool}{l:List (Int×Value)}{ord:List Value}(hel:ElemsOf (intKind prog w) l)(hm:∀k,S k=true↔∃e∈l,(intKind prog w).is k e.2=true)(hn:l.length=n)(pm:ord.Perm (l.map (·.2))):Ord S n ord:=by
  refine⟨by rw[pm.length_eq,B0,hn],?_⟩
  have allI:∀v∈ord,∃k t,v=Value.int k t:=λv hv=>by
    obtain⟨e,he,rfl⟩:=G0.mp (pm.mem_iff.mp hv)
    obtain⟨⟨k,hk,_⟩,_⟩:=hel e he
    obtain⟨t,ht⟩:=Value.isInt_shape hk
    exact⟨k,t,ht⟩
  have mk:∀vs:List Value,(∀v∈vs,∃k t,v=Value.int k t)→∃ns,IntsAre vs ns∧∀k,k∈ns↔∃t,Value.int k t∈vs:=by
    intro vs
    induction vs with
    | nil=>exact λ_=>⟨[],.nil,λk=>by simp⟩
    | cons v vs ih=>
      intro hv
      obtain⟨ns,h1,h2⟩:=ih λv q=>hv v (B4 _ q)
      obtain⟨k,t,rfl⟩:=hv v B7
      refine⟨k::ns,.cons k t h1,λj=>?_⟩
      rw[B6,h2]
      constructor
      · rintro(rfl | ⟨t',q⟩)
        · exact⟨t,B7⟩
        · exact⟨t',B4 _ q⟩
      · rintro⟨t',q⟩
        rcases B6.mp q with q | q
        · injection q with q
          exact .inl q
        · exact .inr ⟨t',q⟩
  obtain⟨ns,h1,h2⟩:=mk ord allI
  refine⟨ns,h1,λk=>?_⟩
  rw[hm,h2]
  constructor
  · rintro⟨e,he,hk⟩
    obtain⟨t,ht⟩:=Value.isInt_shape hk
    exact⟨t,pm.mem_iff.mpr (G0.mpr ⟨e,he,ht⟩)⟩
  · rintro⟨t,q⟩
    obtain⟨e,he,q⟩:=G0.mp (pm.mem_iff.mp q)
    exact⟨e,he,by rw[q];exact intKind_is _ _ _ _⟩
theorem rT(hh:A.handled=none)(ne:a≠I){slot:Nat→Nat}{ord:List Value}(hz:ord.length=es.size)
  (hN:∀(s:Shared)(i:Nat)(Q':Option (Value×Nat)→Shared→Prop) E',i≤es.size→Dj s.heap a es ep t→Q' ((ord[i]?).map λv=>(v,slot (i+1))) s→wpAny (model prog w) A.in1 (setNext a (slot i) i ep) Q' E' s) :
  Walks prog w A I [I,a] [I] es.size (λi v=>ord[i]?=some v) (λi h=>Fy h I (.int (slot i:Int) 0) i a es.size ep∧Dj h a es ep t) where
 sub:=λb hb=>by simp at hb;simp[hb]
 frame:=λ_ _ _ x kp=>⟨x.1.at_ λo e=>kp I (by simp) o e,x.2.at_ λo e=>kp a (by simp) o e⟩
 item:=λi s Q E hi x hQ=>by
  have e:ord[i]?=some (ord[i]'(by omega)):=B3 (by omega)
  refine Tr (x:=ord[i]'(by omega)) (nxt:=slot (i+1)) x.1 x.2 (λQ' E' q=>hN s i Q' E' (by omega) x.2 (by rw[e];exact q)) λh' st sb=>?_
  exact hQ _ h' s.toks e ⟨st,x.2.at_ λo eo=>sb.extBut a o ne eo⟩ λb o hb eo=>sb.extBut b o (λz=>hb (by simp[z])) eo
 done:=λs Q E x hQ=>Zg hh x.1 x.2 (λQ' E' q=>hN s es.size Q' E' (A9 _) x.2 (by rw[F8 (by omega)];exact q)) λh' kp=>hQ h' s.toks λb o hb e=>kp b o (λz=>hb (by simp[z])) e
 self:=λ_ _ _ _ x hQ=>Fz x.1 hQ
theorem Dm(hh:A.handled=none)(ne:a≠I)(neT:T≠I){ps:List Nat}(hz:ps.length=es.size)(hp:∀p∈ps,p<es.size) :
  Walks prog w A I [I,a,T] [I] es.size (λi v=>(ps.map λp=>(es.getD p (0,.none)).2)[i]?=some v) (λi h=>Fy h I (.ref T) i a es.size ep∧Dj h a es ep t∧∃o c,h.get? T=some o∧o.data=.seq (ps.map λ(p:Nat)=>rawInt p).toArray c) where
 sub:=λb hb=>by simp at hb;simp[hb]
 frame:=λ_ _ _ x kp=>⟨x.1.at_ λo e=>kp I (by simp) o e,x.2.1.at_ λo e=>kp a (by simp) o e,let ⟨o,c,ho,hd⟩:=x.2.2;⟨o,c,kp T (by simp) o ho,hd⟩⟩
 item:=λi s Q E hi x hQ=>by
  obtain⟨h1,h2,oT,c,hT,hTd⟩:=x
  have lt:i<ps.length:=by omega
  have lp:=hp ps[i] (L0 lt)
  refine Tt (p:=ps[i]) (tk:=0) (hx:=es[ps[i]].1) (x:=es[ps[i]].2) h1 h2 hT hTd (by simp[lt,rawInt]) (by rw[J1 lp]) λh' st sb=>?_
  exact hQ _ h' s.toks (by simp[lt,K6,lp]) ⟨st,h2.at_ λo eo=>sb.extBut a o ne eo,oT,c,sb.extBut T oT neT hT,hTd⟩ λb o hb eo=>sb.extBut b o (λz=>hb (by simp[z])) eo
 done:=λs Q E x hQ=>by
  obtain⟨h1,h2,oT,c,hT,hTd⟩:=x
  exact Zh hh h1 h2 hT hTd (by simp[hz]) λh' kp=>hQ h' s.toks λb o hb e=>kp b o (λz=>hb (by simp[z])) e
 self:=λ_ _ _ _ x hQ=>Fz x.1 hQ
theorem Nb{S:Int→Bool}{Q:Value→Shared→Prop}(hh:A.handled=none)(hs:dG prog w (bI w) s.heap a S n)
    (h:∀(h1:Heap)(dr:Drawn)(I:Addr)(fp:List Addr)(ord:List Value)(St:Nat→Heap→Prop),(∀b o,s.heap.get? b=some o→h1.get? b=some o)→Walks prog w A I fp [I] n (λi v=>ord[i]?=some v) St→St 0 h1→(∀x∈fp,x=a∨s.heap.objs.size≤x)→s.heap.objs.size≤I→Ord S n ord→Q (.ref I) {s with heap:=h1,drawn:=dr}) :
    wpAny (model prog w) A (pyIter (.ref a)) Q E s:=by
  obtain⟨o,es,ep,t,ho,hex,hd,hel,hm,hz,hf,hn,hl⟩:=hs
  have sat:Dj s.heap a es ep t:=⟨o,ho,hex.1,hd,hf⟩
  have lt:=Heap.lt_size ho
  subst hn
  refine wpAny_pyIter_slot sat.ty S9 (wpAny_call_entry S9 sat.ty Iv ?_ (PySem.F.args_set_iter_1 _))
  unfold Builtin.«frozenset.__iter__» Builtin.Frozenset.slot0
  refine wpAny_bind (wpAny_bind (wpAny_of_eq (a:=(Value.ref a,[])) rfl ?_))
  unfold Builtin.Frozenset.addrOf Builtin.Frozenset.sizeOf
  refine wpAny_pure (wpAny_bind (wpAny_bind (wpAny_setEntries_of ho hd hf (wpAny_pure ?_))))
  unfold setDrawn setsByText
  refine wpAny_bind (wpAny_bind (wpAny_setState_of ho hd hf ?_))
  dsimp only
  refine wpAny_bind (wpAny_bind (wpAny_askSetting (wpAny_pure ?_)))
  refine wpAny_pure ?_
  refine wpAny_ite_split (λc=>?_) λc=>?_
  · have c':(bI w&&(!t.plain&&decide (es.size > 1)))=true:=c
    rw[D6]at c'
    refine wpAny_bind (oZ es.size (D3 es.size) s _ (by simp) λps dr pm=>?_)
    have YF:ps.length=es.size:=by rw[pm.length_eq,L6]
    have hp:∀p∈ps,p<es.size:=λp hp=>D9.mp (pm.mem_iff.mp hp)
    refine wpAny_bind (wpAny_newTuple ?_ (by rw[B0,YF];exact fits_of_scanBound hz))
    have g1:(s.heap.push {cls:=.type "tuple", data:=.seq (ps.map λ(i:Nat)=>rawInt i).toArray}).get? a=some o:=Heap.get?_push_of_some _ ho
    refine wpAny_bind (wpAny_setEpoch_of g1 hd hf ?_)
    refine wpAny_bind (wpAny_newObj_type (wpAny_pure ⟨_,rfl, "set_iterator", _,⟨_,Heap.get?_push_size _ rfl,rfl⟩,cW.lookup,?_⟩))
    refine h _ dr _ _ (ps.map λp=>(es.getD p (0,.none)).2) _ (λb o e=>Heap.get?_push_of_some _ (Heap.get?_push_of_some _ e)) (Dm (T:=s.heap.objs.size) (t:=t) (ep:=ep) hh ?_ ?_ YF hp) ⟨⟨_,Heap.get?_push_size _ rfl,rfl,rfl⟩,sat.at_ λo e=>Heap.get?_push_of_some _ (Heap.get?_push_of_some _ e),_,_,Heap.get?_push_of_some _ (Heap.get?_push_size _ rfl),rfl⟩ ?_ ?_ ?_
    · show a≠(s.heap.push _).objs.size
      rw[Heap.size_push]
      exact C6 (F6 lt)
    · show s.heap.objs.size≠(s.heap.push _).objs.size
      rw[Heap.size_push]
      exact C6 (K9 _)
    · intro x hx
      rcases B6.mp hx with z | z
      · rw[z]
        show _∨s.heap.objs.size≤(s.heap.push _).objs.size
        rw[Heap.size_push]
        exact .inr (M5 _)
      · rcases B6.mp z with z | z
        · exact .inl z
        · rw[B9.mp z]
          exact .inr (A9 _)
    · show s.heap.objs.size≤(s.heap.push _).objs.size
      rw[Heap.size_push]
      exact M5 _
    · refine Dl (prog:=prog) (w:=w) hel hm (by simp) ?_
      have e:es.toList.map (·.2)=(D3 es.size).map λp=>(es.getD p (0,.none)).2:=by
        refine P8 (by simp) λk k1 k2=>?_
        simp at k1
        simp[K6,k1]
      rw[e]
      exact pm.map _
  · refine wpAny_bind (wpAny_pure ?_)
    refine wpAny_bind (wpAny_setEpoch_of ho hd hf ?_)
    refine wpAny_bind (wpAny_newObj_type (wpAny_pure ⟨_,rfl, "set_iterator", _,⟨_,Heap.get?_push_size _ rfl,rfl⟩,cW.lookup,?_⟩))
    have ne:a≠s.heap.objs.size:=C6 lt
    have fp':∀x∈[s.heap.objs.size,a],x=a∨s.heap.objs.size≤x:=λx hx=>by
      rcases B6.mp hx with z | z
      · exact .inr (Nat.le_of_eq z.symm)
      · exact .inl (B9.mp z)
    cases hb:bI w with
    | false=>
      have pm:=vG (w.params.setOrder a ep) es
      refine h _ s.drawn _ _ ((pickOrder (w.params.setOrder a ep) es).toList.map (·.2)) _ (λb o e=>Heap.get?_push_of_some _ e) (rT (t:=t) (ep:=ep) (slot:=λ_=>0) hh ne (by rw[B0,pm.length_eq,C9]) λs i Q' E' hi x q=>?_) ⟨⟨_,Heap.get?_push_size _ rfl,rfl,rfl⟩,sat.at_ λo e=>Heap.get?_push_of_some _ e⟩ fp' (A9 _) (Dl (prog:=prog) (w:=w) hel hm (by simp) (pm.map _))
      refine Zi hb x ?_
      rw[C8,F2,W9]at q
      exact q
    | true=>
      have c':(!t.plain&&decide (es.size > 1))=false:=by
        have c2:¬(bI w&&(!t.plain&&decide (es.size > 1)))=true:=c
        rw[hb,X3]at c2
        simpa using c2
      refine h _ s.drawn _ _ (es.toList.map (·.2)) _ (λb o e=>Heap.get?_push_of_some _ e) (rT (t:=t) (ep:=ep) (slot:=nF t) hh ne (by simp) λs i Q' E' hi x q=>?_) ⟨⟨_,Heap.get?_push_size _ rfl,rfl,rfl⟩,sat.at_ λo e=>Heap.get?_push_of_some _ e⟩ fp' (A9 _) (Dl (prog:=prog) (w:=w) hel hm (by simp) (J9 _))
      refine Zj hb x hl c' hi ?_
      rw[C8,F2,W9]at q
      exact q
end
end L2


namespace L2
open PySem PySem.Spec PySem.Calls PyProof.Rows PyProof.V
section
variable{prog:Program}{w:World}{A:Around}{E:Value→Shared→Prop}{s:Shared}{I a T:Addr}{n:Nat}{S:Int→Bool}
theorem Nf{Q:Bool→Shared→Prop}(hT:s.TypeIs (.ref a) "set") (h:Q false s):wpAny (model prog w) A (Builtin.List.listLengthHint (.ref a)) Q E s:=by
 unfold Builtin.List.listLengthHint
 refine wpAny_bind (wpAny_specialOf hT PySem.F.slot_set_len.lookup ?_)
 generalize hid:("set.__len__" : String)=id0
 wp_delta
 rw[show splitId id0=some ("set", "__len__")from by subst hid;decide +kernel]
 subst hid
 refine wpAny_bind (wpAny_isInstance (T := "set") (b:=true) hT (by rw[isSubtype_type];kernel_rfl) (wpAny_ite_split (λz=>absurd z (by decide)) λ_=>wpAny_ite_split (λ_=>?_) λz=>absurd (by decide +kernel) z))
 exact wpAny_bind (wpAny_typeOf hT (wpAny_pure h))
theorem Tv{R:Result→Shared→Prop}(hh:A.handled=none)(hs:dG prog w (bI w) s.heap a S n)(hz:n≤sizeLine)(L:Addr)(ne:L≠a)(hL:s.heap.get? L=some {cls:=.type "list", data:=.seq #[] 0})
    (hR:∀h' dr tk acc c,(∀b o,b≠L→s.heap.get? b=some o→h'.get? b=some o)→h'.get? L=some {cls:=.type "list", dict:=none,data:=.seq acc c,slots:=#[]}→Ord S n acc.toList→R (.ok (.ret (.ref L))) {s with heap:=h',drawn:=dr,toks:=tk}) :
    wpAny (model prog w) A.in1 (Builtin.List.listExtendWith (.ref L) (.ref a) (.ref L)) (λfin s'=>match fin with | .done f=>R (.ok f) s' | .again c'=>c'.quiet=true∧codeAny (model prog w) A c' R s') (λe s'=>R (.error e) s') s:=by
  have lt:L<s.heap.objs.size:=Heap.lt_size hL
  have ty:s.TypeIs (.ref a) "set" := let ⟨o,_,_,_,ho,hex,_⟩:=hs;⟨o,ho,hex.1⟩
  unfold Builtin.List.listExtendWith
  refine wpAny_bind (wpAny_typeOf (T := "set") ty ?_)
  have h1:Builtin.List.listSameRef (.ref L) (.ref a)=false:=by simp[Builtin.List.listSameRef,ne]
  have h2:(Value.type "set" == Value.type "list")=false:=by decide
  have h3:(Value.type "set" == Value.type "tuple")=false:=by decide
  simp only[h1,h2,h3,X1,T9,if_false]
  refine wpAny_bind (Nb (A:=A.in1) hh hs λh0 dr I fp ord St kp W st cz lI od=>?_)
  have hL1:=kp _ _ hL
  have nf:L∉fp:=λz=>by
    rcases cz L z with z | z
    · exact ne z
    · exact absurd lt (Nat.not_lt.mpr z)
  have nI:∀b o,s.heap.get? b=some o→b≠I:=λb o e=>C6 (C4 (Heap.lt_size e) lI)
  have key:∀(h:Heap)(c1 tk:Nat),St 0 h→(∀b o,b≠L→s.heap.get? b=some o→h.get? b=some o)→h.get? L=some {cls:=.type "list", data:=.seq #[] c1}→codeAny (model prog w) A (.builtin "list.extend.loop" ⟨[.ref L,.ref I,.ref L],[]⟩) R {s with heap:=h,drawn:=dr,toks:=tk}:=by
    intro h c1 tk st0 k0 g0
    refine codeAny_extend_loopS W.toS hz L nf (.ref L) n 0 _ #[] c1 rfl (K0 _) st0 g0 (ItemsOf.nil _) λs' acc c mv g' it=>?_
    rw[Moved.eq_with mv]
    refine hR s'.heap dr s'.toks acc c (λb o nb e=>mv.heap b o (λz=>?_) (k0 b o nb e)) g' ?_
    · rcases B6.mp z with z | z
      · exact nb z
      · exact nI b o e (B9.mp z)
    · have e:acc.toList=ord:=by
        refine N1 λj=>?_
        rcases G7 j acc.size with z | z
        · have e1:acc[j]?=some acc[j]:=J1 z
          rw[F2,e1,it.2 j _ e1]
        · rw[F8 (by simpa using z),F8 (by have:=it.1;have:=od.1;omega)]
      rw[e]
      exact od
  refine wpAny_bind (wpAny_holding (Nf (hT:=let ⟨o,ho,hc⟩:=ty;⟨o,kp _ _ ho,hc⟩) ?_))
  refine wpAny_ite_split (λ_=>?_) λ_=>wpAny_pure ⟨plainId_quiet P5 _,key _ 0 _ st (λb o _ e=>kp b o e) hL1⟩
  refine wpAny_bind (wpAny_rule (wpAny_bind ?_))
  show wpAny _ _ (updateSeq L (·.push .none) >>= λ_=>updateSeq L (·.pop)) _ _ _
  refine wpAny_bind (wpAny_updateSeq hL1 rfl ?_)
  have g2:=Heap.get?_update_self (Obj.mapSeq (·.push Value.none)) hL1 rfl
  refine wpAny_updateSeq (hz:=by seq_fits) g2 rfl ?_
  have g3:=Heap.get?_update_self (Obj.mapSeq (·.pop)) g2 rfl
  refine wpAny_pure ⟨plainId_quiet P5 _,key _ _ _ (W.frame 0 _ _ st λb hb o e=>?_) (λb o hb e=>?_) g3⟩
  · have nb:b≠L:=λz=>nf (z▸hb)
    exact(Heap.get?_update_other _ _ (Ne.symm nb)).trans ((Heap.get?_update_other _ _ (Ne.symm nb)).trans e)
  · exact(Heap.get?_update_other _ _ (Ne.symm hb)).trans ((Heap.get?_update_other _ _ (Ne.symm hb)).trans (kp b o e))
theorem Ag{R:List Value→Shared→Prop}(hh:A.handled=none)(hs:dG prog w (bI w) s.heap a S n)(hz:n≤sizeLine)
  (h:∀(h':Heap)(dr:Drawn)(tk:Nat)(acc:List Value),(∀b o,s.heap.get? b=some o→h'.get? b=some o)→Ord S n acc→R acc {s with heap:=h',drawn:=dr,toks:=tk}):wpAny (model prog w) A (collect (.ref a)) R E s:=by
 have lt:a<s.heap.objs.size:=let ⟨o,_,_,_,ho,_⟩:=hs;Heap.lt_size ho
 unfold collect
 refine wpAny_bind (wpAny_runValue (codeAny_builtin entry_proto_collect' ?_))
 rw[Around.under_plainId PySem.F.plain_proto_collect _]
 show wpAny _ A.in1 (newList [] >>= λl=>again (.builtin "list.__iadd__" ⟨[l,.ref a],[]⟩)) _ _ s
 refine wpAny_bind (wpAny_newObj_type (wpAny_pure ⟨plainId_quiet Q7 _,codeAny_builtin entry_list_iadd' ?_⟩))
 rw[Around.under_plainId Q7 _]
 have g1:(s.heap.push {cls:=.type "list", data:=.seq ([]:List Value).toArray}).get? s.heap.objs.size=some {cls:=.type "list", data:=.seq #[]}:=Heap.get?_push_size _ rfl
 show wpAny _ A.in1 (Builtin.List.listExtendWith (.ref s.heap.objs.size) (.ref a) (.ref s.heap.objs.size)) _ _ _
 have key:=Tv (A:=A) (s:={s with heap:=s.heap.push {cls:=.type "list", data:=.seq ([]:List Value).toArray}})
  (R:=λ(q:Result) (s':Shared)=>∃(h':Heap)(dr:Drawn)(tk:Nat)(acc:Array Value)(c:Nat),q=.ok (.ret (.ref s.heap.objs.size))∧s'={s with heap:=h',drawn:=dr,toks:=tk}∧(∀b o,s.heap.get? b=some o→h'.get? b=some o)∧h'.get? s.heap.objs.size=some {cls:=.type "list", dict:=none,data:=.seq acc c,slots:=#[]}∧Ord S n acc.toList)
  hh (hs.at_ λo e=>Heap.get?_push_of_some _ e) hz s.heap.objs.size (J2 lt) g1 λh' dr tk acc c kp g od=>⟨h',dr,tk,acc,c,rfl,rfl,λb o e=>kp b o (C6 (Heap.lt_size e)) (Heap.get?_push_of_some _ e),g,od⟩
 refine wpAny_mono key (λfin s' x=>?_) λe s' x=>?_
 ·cases fin with
  | done f=>
   obtain⟨h',dr,tk,acc,c,e,rfl,kp,g,od⟩:=x
   cases e
   show wpAny _ A (load s.heap.objs.size >>= _) _ _ _
   exact wpAny_bind (wpAny_load g (wpAny_pure (h h' dr tk acc.toList kp od)))
  | again c1=>
   refine⟨x.1,codeAny_mono x.2 λq s2 y=>?_⟩
   obtain⟨h',dr,tk,acc,c,rfl,rfl,kp,g,od⟩:=y
   show wpAny _ A (load s.heap.objs.size >>= _) _ _ _
   exact wpAny_bind (wpAny_load g (wpAny_pure (h h' dr tk acc.toList kp od)))
 ·obtain⟨_,_,_,_,_,e',_⟩:=x
  cases e'
end
end L2


namespace L2
open PySem PySem.Spec PySem.Calls PyProof.Rows PyProof.V
def Ah(k:Int):List Int→List Int
 | []=>[k]
 | a::l=>if k<a then k::a::l else if k=a then a::l else a::Ah k l
theorem rU(k j:Int):∀l:List Int,j∈Ah k l↔j=k∨j∈l
  | []=>by simp[Ah]
  | a::l=>by
    unfold Ah
    split
    · simp
    · split
      · rename_i e
        subst e
        simp
      · rw[B6,rU k j l,B6]
        constructor
        · rintro(h | h | h)
          · exact .inr (.inl h)
          · exact .inl h
          · exact .inr (.inr h)
        · rintro(h | h | h)
          · exact .inr (.inl h)
          · exact .inl h
          · exact .inr (.inr h)
theorem Ga(k:Int):∀l:List Int,l.Pairwise (·<·)→(Ah k l).Pairwise (·<·)
 | [],_=>by simp[Ah]
 | a::l,h=>by
  obtain⟨h1,h2⟩:=E3.mp h
  unfold Ah
  split
  ·rename_i c
   refine E3.mpr ⟨λx hx=>?_,h⟩
   rcases B6.mp hx with z | z
   ·omega
   ·have:=h1 x z
    omega
  ·split
   ·exact h
   ·refine E3.mpr ⟨λx hx=>?_,Ga k l h2⟩
    rcases(rU k x l).mp hx with z | z
    ·omega
    ·exact h1 x z
def Bv:List Int→List Int
 | []=>[]
 | a::l=>Ah a (Bv l)
theorem pZ(j:Int):∀ns:List Int,j∈Bv ns↔j∈ns
 | []=>Iff.rfl
 | a::l=>by
  rw[Bv,rU,pZ j l,B6]
theorem xX:∀ns:List Int,(Bv ns).Pairwise (·<·)
 | []=>.nil
 | a::l=>Ga a _ (xX l)
theorem Dn{ns ms:List Int}(h:ms.Pairwise (·<·))(m:∀k,k∈ms↔k∈ns):ms=Bv ns:=fQ h (xX ns) λj=>(m j).trans (pZ j ns).symm
theorem rW{α:Type} [DecidableEq α]:∀{l m:List α},l.Nodup→(∀x∈l,x∈m)→m.length≤l.length→l.Perm m
 | [],m,_,_,h=>by
  have:m=[]:=F9 (by simpa using h)
  subst this
  exact J9 _
 | a::l,m,hn,hs,hl=>by
  obtain⟨h1,h2⟩:=E5.mp hn
  have ha:=hs a B7
  have e:=List.perm_cons_erase ha
  refine List.Perm.trans (List.Perm.cons a (rW h2 (λx hx=>?_) ?_)) e.symm
  ·have ne:x≠a:=λz=>by
    rw[z]at hx
    exact h1 hx
   exact(T2 ne).mpr (hs x (B4 _ hx))
  ·rw[Q3 ha]
   simp only[D7]at hl
   omega
theorem jN(val:Nat→Int):∀i,(firstMet val i).Nodup
 | 0=>by rw[firstMet_zero];exact L8
 | i+1=>by
  rw[firstMet_succ]
  unfold step_dedup
  have ih:=jN val i
  split
  ·exact ih
  ·rename_i c
   refine N2.mpr ⟨ih,by simp,λx hx y hy=>?_⟩
   rw[B9.mp hy]
   intro z
   subst z
   exact c (J7.mpr ⟨_,hx,by simp⟩)
section
variable{X:Cx}{e:Expr}{t:TE}{x y:Str}{p p2 pos pos2:Pos}
theorem Inv.drew{pins:List (Addr×Obj)}{σ:St}{H:Hp}{s:Shared}(J:Inv X pins σ H s)(dr:Drawn):Inv X pins σ H {s with drawn:=dr}:=⟨J.ok,J.os,J.bare,J.base,J.loc,J.cell,J.free,J.fY,J.pin,J.hok,J.len⟩
end
end L2


namespace L2
open PySem PySem.Spec PySem.Calls PyProof.Rows PyProof.V
section
variable{prog:Program}{w:World}{A:Around}{E:Value→Shared→Prop}{s:Shared}{I l:Addr}
end
section
variable{K:aA}{X:Cx}{e:Expr}{t:TE}{f:FE}{x y:Str}{p p2 pos pos2:Pos}
end
end L2


namespace L2
open PySem PySem.Spec PySem.Calls PyProof.Rows PyProof.V PySem.W Att
abbrev Small(k:Int):Prop:=Builtin.Int.intBits k≤1048576
theorem Ng{ns:List Int}(h:WData.layableAll [WData.list (ns.map WData.int)]=true):∀k∈ns,Small k:=λk hk=>by
 have h1:(WData.list (ns.map WData.int)).layable=true:=by simpa[WData.layableAll]using h
 obtain⟨c,_,w⟩:=layableW_iff.mp h1
 have c':WData.canLayAll (ns.map WData.int)=true:=by simpa[WData.canLay]using c
 have w':WData.weightAll (ns.map WData.int)≤2 ^ 20:=by simpa[WData.weight]using w
 have:=(items_part (G0.mpr ⟨k,hk,rfl⟩) c').2.2
 have e:(WData.int k).weight=Builtin.Int.intBits k:=by simp only[WData.weight,Builtin.Int.intBits]
 rw[e]at this
 exact F1 this w'
theorem Ai{l:OpenLaw}{n:Nat}{q:Program}{loose:List Str}{XP:(Str→Option Value)→Heap→Prop}{YP:World→Heap→Prop}{d:DefRec}(hn:l.most=some n)(hdf:d.params.defaults=[])
  (call:∀(w:World)(s₀ s₁:Shared)(mg mb:Str→Option Value)(fa:Addr)(o:Obj)(pm cd doc:Value)(a:Addr)(vs:List Value)(ns:List Int),Ground q loose [] XP w s₀ mg mb s₁.heap→YP w s₁.heap →
   s₁.heap.get? fa=some o→o.data=.func (docDef d.name d.params d.body d.scope pm cd doc)→s₁.heap.CodeRec cd d.name→mg d.name=some (.ref fa) →
   s₁.heap.get? a=some {cls:=.type "list", data:=.seq vs.toArray}→IntsAre vs ns→ns.length≤n→(∀k∈ns,Small k)→s₁.gens=#[] →
   codeAny (model l.prog w) callerA (.call (.ref fa) ⟨[.ref a],[]⟩) (λr s'=>r=.ok (.ret (.bool true))∧OldK s₁.heap s'.heap∧s'.os=s₁.os∧AllBare s'.gens) s₁) :
  WalkO q loose XP YP l.row.toRowW d [] (λf vs=>W6 f vs):=by
 intro w s₀ s₁ mg mb G Y fa o pm cd doc dV kV ho hd hcd hD hmg hg args vals as hpre hlay hrd hwl hlo
 obtain rfl:dV=.none:=Dflts.none hD hdf
 obtain rfl:kV=.none:=Dflts.noKw hD
 obtain⟨a,vs,ns,rfl,rfl,hobj,hints,hlen⟩:=Hy hn hpre hwl
 refine enter_call (codeAny_mono (call w s₀ s₁ mg mb fa o pm cd doc a vs ns G Y ho (fd_plain hd) hcd hmg hobj hints hlen (Ng hlay) hg) λr s' hq=>?_)
 obtain⟨rfl,h2,h3,h4⟩:=hq
 exact⟨.inl ⟨.bool true,.bool true,[],rfl,λ_=>rfl,.bool true,Hz l _,λ_=>⟨List.Pairwise.nil,λ_ hm=>(nomatch hm)⟩⟩,h2,h3,h4⟩
theorem Iw{l:W7}{n k:Nat}{q:Program}{loose:List Str}{XP:(Str→Option Value)→Heap→Prop}{YP:World→Heap→Prop}{d:DefRec}{K:Params→aA}{CX:World→Hs}{sp:World→Sp}{x:Str}(hn:l.most=some n)(hn2:n≤sizeLine)(hdf:d.params.defaults=[])(hr:eV k callerA)
  (hY:∀(w:World)(h:Heap),YP w h→(K w.params).In h)
  (F:∀(w:World)(mg:Str→Option Value)(fa:Addr)(h:Heap),(K w.params).In h→h.Ns mainGlobals mg→mg d.name=some (.ref fa)→∃fd:FuncData,(∀(s:Shared)(u:Value),BindsTo s fd ⟨[u],[]⟩ [(x,u)])∧∀base:Heap,(K w.params).In base→base.Ns mainGlobals mg→oE l.prog w (K w.params) mg base (CX w) k fa fd [x] (sp w))
  (hsp:∀(w:World)(H:Hp)(a:Addr)(ns:List Int),ns.length≤n→(∀k∈ns,Small k)→Only H→eN (K w.params) H a (ns.map V.int)→sp w [.ref a] H (λv _=>v=.bl true) λ_ _ _=>False)
  (RD:∀(w:World)(H:Hp)(s:Shared)(e:Value)(s':Shared),CX w [] H s (λ_ _ _=>False) e s'→False) :
  X4 q loose XP YP l.row.toRowW d [] (λf vs=>W6 f vs):=by
 refine Ai hn hdf λw s₀ s₁ mg mb fa o pm cd doc a vs ns G Y ho hd hcd hmg hobj hints hlen hsm hg=>?_
 have KX:=hY w _ Y
 obtain⟨fd,hb,hF⟩:=F w mg fa _ KX G.T.g hmg
 exact Ld KX G.T.g G.T.b G.T.builtins G.T.nolimit hg hobj hints (F1 hlen hn2) hr hF hb (λH hO hS=>hsp w H a ns hlen hsm hO hS) λH e s'=>RD w H s₁ e s'
def RX(K:aA):Sp:=λvs H Q _=>∃(a:Addr)(ns:List Int),vs=[.ref a]∧eN K H a (ns.map V.int)∧ns.length≤63∧(∀k∈ns,Small k)∧∀H',Q (.bl true) H'
theorem Qg.dg{P:Program}{w:World}{K:aA}{mg:Str→Option Value}{base:Heap}{x:Str}{st:Stmt}{N:List Str}{k:Nat}{g:GS}{f:Addr}{fd:FuncData}(F:Qg K x x st f fd)(S:bJ N ["script"] (aJ st))
  (hbody:∀(cdv:Value)(A:Around)(outer:List Env)(s:Shared)(H:Hp)(E:XK),eV k (A.deeper (envOfC x (aJ st) s.heap.objs.size f cdv))→∃t,YB K (wA Jp P w K mg base N x (aJ st) f cdv A outer s H E).Wt (bG st) t g)
  (Zk:∀ns:List Int,ns.length≤63→(∀k∈ns,Small k)→iG N.length 1 g [.lst (ns.map D.int)]=some (.bl true)):oE P w K mg base Jp (k+1) f fd ["script"] (RX K):=by
 refine F.ok S (λvs H Q E h=>?_) (λcdv A outer s H vs Q E hr h=>?_)
 ·obtain⟨a,ns,rfl,_⟩:=h
  rfl
 obtain⟨a,ns,rfl,hS,hl,hb,q⟩:=h
 obtain⟨t,yb⟩:=hbody cdv A outer s H E hr
 have h3:=Zk ns hl hb
 have rv:bA K H [.lst (ns.map D.int)] [.ref a]:=by
  unfold bA
  exact⟨_,_,rfl,by unfold Rv;exact⟨a,_,rfl,hS,dJ.mpr rfl⟩,by unfold bA;rfl⟩
 refine⟨t,yb.ps,yb.ev H _ _ H ([D.lst (ns.map D.int)].map SD.fro++E8 (N.length-1) SD.no) (vB rv) ?_⟩
 unfold iG at h3
 rw[if_pos (show [D.lst (ns.map D.int)].length=1 from rfl)]at h3
 cases qq:g ([D.lst (ns.map D.int)].map SD.fro++E8 (N.length-1) SD.no)with
 | ret d'=>
  rw[qq]at h3
  cases h3
  refine λv H' A' s' o=>?_
  have:=Ow.rv _ _ _ o
  unfold Rv at this
  subst this
  exact q _
 | _=>
  rw[qq]at h3
  cases h3
section
variable{K:aA}{X:Cx}{e a b c:Expr}{es:List Expr}{t ta tb te:TE}{f g:FE}{pos:Pos}
def Nh(i j:Int):Prop:=Builtin.Int.intBits i≤4000000∧Builtin.Int.intBits j≤4000000
instance (i j:Int):Decidable (Nh i j):=by unfold Nh;exact inferInstance
def YG:D→D→Option D:=yN Nh λi j=>.int (i*j)
variable{lo hi:Option Expr}{tl th:TO}{fl fh:FO}{p2:Pos}
end
end L2


namespace L2
open PySem PySem.Spec PySem.Calls PyProof.Rows PyProof.V
section
variable{K:aA}{X:Cx}
def YH:List D→Option D
 | [.bl c]=>some (.int (if c then 1 else 0))
 | _=>none
end
end L2


namespace L2
open PySem PySem.Spec PySem.Calls PyProof.Rows PyProof.V
section
variable{X:Cx}{pins:List (Addr×Obj)}{σ:St}{H:Hp}{s:Shared}{h':Heap}
end
section
variable{K:aA}{X:Cx}{e a b c:Expr}{es:List Expr}{t ta tb te:TE}{f g fe:FE}{tc:TT}{fc:FT}{pos p p2:Pos}{x:Str}
end
end L2


namespace L2
open PySem PySem.Spec PySem.Calls PyProof.Rows PyProof.V
section
variable{K:aA}{B H:Hp}{env:EN}{σ:St}{i:Nat}{v:V}{d:D}
end
section
variable{K:aA}{X:Cx}{st:Stmt}{sts:List Stmt}{t u tb:TS}{g g1 g2:GS}{e a b c:Expr}{es:List Expr}{te ta t0:TE}{f f0 fa fb:FE}{gk:FE}{tA:TA}{fs:FA}{tc:TT}{fc:FT}{pos:Pos}{i:Nat}{π:FP}
end
end L2


namespace L2
open PySem PySem.Spec PySem.Calls PyProof.Rows PyProof.V
section
variable{α β:Type}{R:α→Fp→β→Prop}
end
section
variable{K:aA}{B H H':Hp}{env:EN}{σ:St}{i:Nat}{v:V}{d:D}
end
section
variable{K:aA}{X:Cx}{st:Stmt}{sts:List Stmt}{t u tb:TS}{g g1 g2:GS}{e a b c o:Expr}{es:List Expr}{te ta t0 tv:TE}{f f0 fa fb:FE}{gk:FE}{tA:TA}{fs:FA}{tc:TT}{fc:FT}{pos apos:Pos}{i:Nat}{π:FP}
structure dh(K:aA)(C:Addr)(nm:List Str):Prop where
 cl:WK K C
 no:∀f∈nm,Xb K C f
end
section
variable{K:aA}{B H:Hp}{env:EN}{σ:St}
end
section
variable{K:aA}{X:Cx}{st:Stmt}{sts:List Stmt}{t u tb:TS}{g g1 g2:GS}{e a b c o:Expr}{es:List Expr}{te ta t0 tv:TE}{f f0 fa fb:FE}{gk:FE}{tA:TA}{fs:FA}{tc:TT}{fc:FT}{pos apos:Pos}{i:Nat}{π:FP}
end
end L2


namespace L2
open PySem PySem.Spec PySem.Calls PyProof.Rows PyProof.V
section
variable{K:aA}{B H H':Hp}{env:EN}{σ:St}{i:Nat}{p:List Step}{d0 d:D}
end
abbrev GM:=EN→Option (D×EN)
def di(K:aA)(t:TE)(g:GM):Prop:=∀(B:Hp)(σ:St)(H:Hp)(env:EN)(d:D)(env':EN)(Q:VK),Rel K B env σ H→g env=some (d,env')→(∀v H',Rel K B (env'++[.own d]) (σ++[some v]) H'→Q v H')→t σ H Q
structure XM(K:aA)(X:Cx)(e:Expr)(t:TE)(g:GM):Prop where
 hk:X.K=K
 pe:PE X e t
 ev:di K t g
abbrev GB:=EN→Option (Bool×EN)
def JQ(K:aA)(t:TT)(g:GB):Prop:=∀(B:Hp)(σ:St)(H:Hp)(env:EN)(b:Bool)(env':EN)(Q:Bool→Hp→Prop),Rel K B env σ H→g env=some (b,env')→(∀H',Rel K B env' σ H'→Q b H')→t σ H Q
structure lu(K:aA)(X:Cx)(e:Expr)(t:TT)(g:GB):Prop where
 hk:X.K=K
 pt:PT X e t
 ev:JQ K t g
structure lz(K:aA)(X:Cx)(e:Expr)(t:TT)(g:GB):Prop where
 hk:X.K=K
 pw:PW X e t
 ev:JQ K t g
abbrev FA2:=DE→DE→Option (List D)
def RZ(K:aA)(t:TA)(fs:FA2):Prop:=∀(A1:Fp)(σ:St)(H:Hp)(eF eZ:DE)(ds:List D)(Q:List V→Hp→Prop),(∀x,A1 x→jF H x)→lF K H eF σ→lF K (out H A1) eZ σ→fs eF eZ=some ds →
 (∀vs H',aD H H'→bA K (out H' A1) ds vs→Q vs H')→t σ H Q
structure mj(K:aA)(X:Cx)(es:List Expr)(t:TA)(fs:FA2):Prop where
 hk:X.K=K
 pa:PA X es t
 ev:RZ K t fs
section
variable{K:aA}{X:Cx}{st:Stmt}{sts:List Stmt}{t u tb:TS}{g:GM}{g1 g2:GS}{e a b c o:Expr}{es rest:List Expr}{te ta t0 tv:TE}{f f0 fa fb:FE}{tA:TA}{fs:FA2}{tc td:TT}{fc:FT}{gb gc:GB}{pos apos:Pos}{i:Nat}{π:FP}
structure dj(P:Program)(w:World)(K:aA)(mg:Str→Option Value)(base:Heap)(C:Addr)(m:Str)(k n:Nat)(df:Bool)(sp:Sp):Prop where
 ex:∃f fd ps,ps.length=n∧oE P w K mg base Jp k f fd ps sp∧Binds K fd ps []∧(df=true→Binds K fd ps [Value.none])∧Meth K C m f
structure dm(P:Program)(w:World)(K:aA)(mg:Str→Option Value)(base:Heap)(x:Str)(C:Addr)(k n:Nat)(sp:Sp):Prop where
 ex:∃f fd ps,ps.length=n∧oE P w K mg base Jp k f fd ps sp∧Binds K fd ps []∧Mk K C f∧mg x=some (.ref C)
end
end L2


namespace L2
open PySem PySem.Spec PySem.Calls PyProof.Rows PyProof.V
def SJ(K:aA)(dN:Bool)(dV:Value):Prop:=match dN with
 | false=>dV=.none
 | true=>∃T o n,dV=.ref T∧K.lookup T=some o∧o.data=.seq #[.none] n
structure JR(K:aA)(f:Addr)(m q:Str)(st:Stmt)(dN:Bool):Prop where
 ex:∃(oc:Value)(od:Option Addr)(dV kV doc pm:Value)(an:Option Addr)(cdv ct:Value)(osl:Array (Option Value)),
  K.lookup f=some ⟨oc,od,.func (F0 m q (cB st) (bG st) (aJ st) dV kV doc pm an cdv ct),osl⟩∧L7 K cdv q=true∧SJ K dN dV
structure dq(K:aA)(C:Addr)(m q:Str)(st:Stmt)(dN:Bool):Prop where
 ex:∃f,JR K f m q st dN∧Meth K C m f
structure du(K:aA)(mg:Str→Option Value)(x:Str)(C:Addr)(q:Str)(st:Stmt):Prop where
 ex:∃f,JR K f "__init__" q st false∧Mk K C f∧mg x=some (.ref C)
def HB(x q:Str)(st:Stmt)(ps:List Str):Prop:=∀(kV doc pm:Value)(an:Option Addr)(cdv ct:Value)(us:List Value),us.length=ps.length→bindArgs (F0 x q (cB st) (bG st) (aJ st) .none kV doc pm an cdv ct) ⟨us,[]⟩=pure (ps.zip us)
def dw(x q:Str)(st:Stmt)(ps:List Str):Prop:=∀(T:Addr)(kV doc pm:Value)(an:Option Addr)(cdv ct:Value)(us:List Value),(us.length=ps.length→∃k,bindArgs (F0 x q (cB st) (bG st) (aJ st) (.ref T) kV doc pm an cdv ct) ⟨us,[]⟩=seqItems? (Value.ref T) >>= k∧k (some #[Value.none])=pure (ps.zip us)) ∧
 (us.length+1=ps.length→∃k,bindArgs (F0 x q (cB st) (bG st) (aJ st) (.ref T) kV doc pm an cdv ct) ⟨us,[]⟩=seqItems? (Value.ref T) >>= k∧k (some #[Value.none])=pure (ps.zip (us++[Value.none])))
def mq(dN:Bool)(x q:Str)(st:Stmt)(ps:List Str):Prop:=match dN with
 | false=>HB x q st ps
 | true=>dw x q st ps
section
variable{P:Program}{w:World}{K:aA}{mg:Str→Option Value}{base:Heap}
end
section
variable{K:aA}{X:Cx}{st:Stmt}{g g1 g2 gb:GS}{e a b c o:Expr}{es rest:List Expr}{te ta tb tc t0 tv:TE}{f f0 fa fb fc:FE}{tA:TA}{fs:FA}{pos apos:Pos}{i j:Nat}{π:FP}{YJ:TS}
end
end L2


namespace L2
open PySem PySem.Spec PySem.Calls PyProof.Rows PyProof.V
section
variable{K:aA}{B H:Hp}{env:EN}{σ:St}
end
abbrev FK:=DE→Option (List Key)
def dz(K:aA)(t:TE)(fk:FK):Prop:=∀(σ:St)(H:Hp)(e:DE)(k:List Key)(Q:VK),lF K H e σ→fk e=some k→(∀b H',aD H H'→H' b=some (.tup (k.map kV))→Q (.ref b) H')→t σ H Q
structure my(K:aA)(X:Cx)(e:Expr)(t:TE)(fk:FK):Prop where
 hk:X.K=K
 pe:PE X e t
 ev:dz K t fk
section
variable{K:aA}{X:Cx}{st:Stmt}{e a b c o:Expr}{es rest:List Expr}{te ta tb tc t0 tv:TE}{f fa fb:FE}{g:FK}{gd:FE}{tA:TA}{fs:FA}{pos apos:Pos}{i j:Nat}{π:FP}{YJ:TS}
def nG:List Key→Option (List Int)
 | []=>some []
 | .inl k::ks=>(nG ks).map λr=>k::r
 | .inr _::_=>none
theorem Aj:∀{ks:List Key} {ns:List Int},nG ks=some ns→ks=ns.map D8
 | [],ns,h=>by unfold nG at h;cases h;rfl
 | .inl k::ks,ns,h=>by
  unfold nG at h
  obtain⟨r,h1,rfl⟩:=dB h
  rw[Aj h1]
  rfl
 | .inr _::ks,ns,h=>by unfold nG at h;cases h
theorem vH:∀ns:List Int,nG (ns.map D8)=some ns
 | []=>rfl
 | n::ns=>by rw[B8];unfold nG;rw[vH ns];rfl
def nH:List D→Option D
 | [.dk ks _]=>(nG ks).bind λns=>if ns.length<64 then some (.lst ((sortI ns).map D.int))else none
 | _=>none
theorem Dp:lR K (λxs H Q=>∃(p:Addr)(kvs:List (Key×V))(ks:List Int),xs=[.ref p]∧Rd H p (.dK kvs)∧kvs.map (·.1)=ks.map D8∧ks.length<64∧∀l ms,H l=none→rising ks ms→Q (.ref l) (upd H l (.lst (ms.map V.int)))) nH:=λvs H ds d Q rs q k=>by
 unfold nH at q
 split at q
 ·rename_i ks es
  obtain⟨ns,q1,q2⟩:=aO q
  split at q2
  ·rename_i hl
   cases q2
   obtain⟨v,rfl,r⟩:=fU rs
   unfold Rv at r
   obtain⟨p,xs,rfl,r2,r3,r4⟩:=r
   refine⟨p,_,ns,rfl,r2,?_,hl,λl ms hl hr=>?_⟩
   ·rw[←Aj q1]
    exact V1 (by omega)
   rw[xK hr]
   exact k _ _ (bC hl _) (mY (aD.refl _) (.bU (bY _) (dJ.mpr rfl)) hl)
  ·cases q2
 ·cases q
def SM(K:aA)(t:TA)(fs:FA)(i:Nat):Prop:=∀(σ:St)(H:Hp)(e:DE)(ds:List D)(v:V)(Q:List V→Hp→Prop),lF K H e σ→fs e=some ds→σ[i]?=some (some v)→(∀vs H',aD H H'→uC K H H' ds vs→Q (vs++[v]) H')→t σ H Q
structure mz(K:aA)(X:Cx)(es:List Expr)(t:TA)(fs:FA)(i:Nat):Prop where
 hk:X.K=K
 pa:PA X es t
 ev:SM K t fs i
end
end L2


namespace L2
open PySem PySem.Spec PySem.Calls PyProof.Rows PyProof.V
section
variable{K:aA}{X:Cx}{st:Stmt}{e a b c o:Expr}{es rest:List Expr}{te ta tb tc t0 tv:TE}{f fa fb g:FE}{gk:FK}{gd:FE}{tA:TA}{fs:FA}{pos apos:Pos}{i j:Nat}{π:FP}{YJ:TS}{gm:GM}
end
end L2
namespace L2
open PySem PySem.Spec PySem.Calls PyProof.Rows PyProof.V
end L2


namespace L2
open PySem PySem.Spec PySem.Calls PyProof.Rows PyProof.V
section
variable{K:aA}{X:Cx}{e stx:Expr}{te ts:TE}{f g:FE}{pos p2:Pos}
end
end L2


namespace L2
open PySem PySem.Spec PySem.Calls PyProof.Rows PyProof.V
abbrev FE2:=DE→DE→Option D
def fj(K:aA)(t:TE)(f:FE2):Prop:=∀{N:Fp}(σ:St)(H Z:Hp)(eF eZ:DE)(d:D)(Q:VK),Zn K N Z H→lF K H eF σ→lF K Z eZ σ→f eF eZ=some d →
 (∀v H' Z',aD H H'→aD Z Z'→Zn K N Z' H'→Rv K Z' d v→Q v H')→t σ H Q
def SN(K:aA)(t:TA)(f:FA2):Prop:=∀{N:Fp}(σ:St)(H Z:Hp)(eF eZ:DE)(ds:List D)(Q:List V→Hp→Prop),Zn K N Z H→lF K H eF σ→lF K Z eZ σ→f eF eZ=some ds →
 (∀vs H' Z',aD H H'→aD Z Z'→Zn K N Z' H'→bA K Z' ds vs→Q vs H')→t σ H Q
structure XZ(K:aA)(X:Cx)(e:Expr)(t:TE)(f:FE2):Prop where
 hk:X.K=K
 pe:PE X e t
 ev:fj K t f
structure ni(K:aA)(X:Cx)(es:List Expr)(t:TA)(f:FA2):Prop where
 hk:X.K=K
 pa:PA X es t
 ev:SN K t f
section
variable{K:aA}{X:Cx}{e a b:Expr}{es:List Expr}{te ta tb:TE}{f:FE}{g h:FE2}{tA:TA}{fs:FA2}{pos:Pos}{i:Nat}
end
end L2


namespace L2
open PySem PySem.Spec PySem.Calls PyProof.Rows PyProof.V
inductive Ar where
  | ch (i:Nat) | rd (f:FE) | nw (f:FE)
def PB:List Ar→List Nat
 | []=>[]
 | .ch i::as=>i::PB as
 | .rd _::as=>PB as
 | .nw _::as=>PB as
def PJ:List Ar→DE→DE→Option (List D)
 | [],_,_=>some []
 | .ch _::as,eF,eZ=>PJ as eF eZ
 | .rd f::as,eF,eZ=>(f eZ).bind λd=>(PJ as eF eZ).map λr=>d::r
 | .nw f::as,eF,eZ=>(f eF).bind λd=>(PJ as eF eZ).map λr=>d::r
def Gb(K:aA)(Z:Hp)(σ:St):List Ar→List D→List V→Prop
 | [],ds,vs=>ds=[]∧vs=[]
 | .ch i::as,ds,vs=>∃v r,vs=v::r∧σ[i]?=some (some v)∧Gb K Z σ as ds r
 | .rd _::as,ds,vs=>∃d dr v r,ds=d::dr∧vs=v::r∧Rv K Z d v∧Gb K Z σ as dr r
 | .nw _::as,ds,vs=>∃d dr v r,ds=d::dr∧vs=v::r∧Rv K Z d v∧Gb K Z σ as dr r
def YK(σ:St):List Nat→List V→Prop
 | [],vs=>vs=[]
 | j::js,vs=>∃v r,vs=v::r∧σ[j]?=some (some v)∧YK σ js r
section
variable{K:aA}{X:Cx}{e:Expr}{es:List Expr}{te:TE}{f:FE}{tA:TA}{as:List Ar}{pos:Pos}{i:Nat}
def SQ(K:aA)(t:TA)(as:List Ar):Prop:=∀(A1:Fp)(σ:St)(H:Hp)(eF eZ:DE)(ds:List D)(cv:List V)(Q:List V→Hp→Prop),(∀x,A1 x→jF H x)→lF K H eF σ→lF K (out H A1) eZ σ→YK σ (PB as) cv→PJ as eF eZ=some ds →
 (∀vs H',aD H H'→Gb K (out H' A1) σ as ds vs→Q vs H')→t σ H Q
structure nq(K:aA)(X:Cx)(es:List Expr)(t:TA)(as:List Ar):Prop where
 hk:X.K=K
 pa:PA X es t
 ev:SQ K t as
end
section
variable{K:aA}{H H' Z Z' B:Hp}{σ:St}
end
section
variable{K:aA}{X:Cx}{e:Expr}{es:List Expr}{tA:TA}{as:List Ar}{pos pf:Pos}
end
section
variable{P:Program}{w:World}{K:aA}{mg:Str→Option Value}{base:Heap}
end
section
variable{K:aA}{X:Cx}{a b:Expr}{rest:List Expr}{ta tb:TE}{g h:GM}{f:FE}{pos:Pos}
end
end L2


namespace L2
open PySem PySem.Spec PySem.Calls PyProof.Rows PyProof.V
section
variable{prog:Program}{w:World}{A:Around}{R:Result→Shared→Prop}{I:Addr}{fp wr:List Addr}{n:Nat}{P:Nat→Value→Prop}{St:Nat→Heap→Prop}{kw:List (Str×Value)}
end
section
variable{prog:Program}{w:World}{A:Around}{E:Value→Shared→Prop}{s:Shared}
end
section
variable{K:aA}{X:Cx}{e e2:Expr}{te t2:TE}{f g:FE}{x:Str}{p pos kp:Pos}
end
end L2


namespace L2
open PySem PySem.Spec PySem.Calls PyProof.Rows PyProof.V
section
variable{X:Cx}
end
section
variable{K:aA}{X:Cx}{a b e:Expr}{ta tb te:TE}{f g:FE}{i:Nat}{π:FP}{pos apos cpos:Pos}{m:Str}
end
end L2


namespace L2
open PySem PySem.Spec PySem.Calls PyProof.Rows PyProof.V
def Zm(ks:List Key)(vs:List V):List (V×V):=(ks.zip vs).map λkv=>(kV kv.1,kv.2)
def SX(K:aA)(t:List (TE×TE))(ks:List Key)(is:List Nat)(fs:FA):Prop:=∀(σ:St)(H:Hp)(e:DE)(ds:List D)(xs:List V)(Q:List (V×V)→Hp→Prop),lF K H e σ→fs e=some ds→xs.length=is.length →
 (∀(k i:Nat),is[k]?=some i→∃x,xs[k]?=some x∧σ[i]?=some (some x))→(∀vs H',aD H H'→uC K H H' ds vs→Q (Zm ks (xs++vs)) H')→wL t σ H Q
structure nu(K:aA)(X:Cx)(p:Pos)(keys:List (Option Expr))(vals:List Expr)(t:List (TE×TE))(ks:List Key)(is:List Nat)(fs:FA):Prop where
 hk:X.K=K
 oh:HS X p keys vals t
 ev:SX K t ks is fs
section
variable{K:aA}{X:Cx}{st:Stmt}{e:Expr}{vals:List Expr}{keys:List (Option Expr)}{te:TE}{f:FE}{fs:FA}{pos p p1:Pos}{i j:Nat}{t:List (TE×TE)}{ks:List Key}{is:List Nat}{x:Str}
end
section
variable{X:Cx}{K:aA}{x y:Str}{p p2 pos pos2:Pos}{a b:Expr}{t:TA}{fs:FA}
end
end L2


namespace L2
open PySem PySem.Spec PySem.Calls PyProof.Rows PyProof.V
section
variable{K:aA}{X:Cx}{a e:Expr}{ta te:TE}{f:FE}{π:FP}{i:Nat}{m:Str}{apos cpos pos:Pos}
end
end L2


namespace L2
open PySem PySem.Spec PySem.Calls PyProof.Rows PyProof.V
section
variable{K:aA}{X:Cx}{a b e:Expr}{es:List Expr}{ta tb te t:TE}{f g:FE}{tA:TA}{fs:FA}{pos apos cpos p2:Pos}{m:Str}
structure YL(mg:Str→Option Value)(x:Str)(i:Str):Prop where
 ex:∃t,mg x=some (.str i t)
def Vu(i j:Int):Prop:=0<j∧j.natAbs.log2<9000
instance:∀i j,Decidable (Vu i j):=λi j=>by unfold Vu;exact inferInstance
end
section
variable{P:Program}{w:World}{K:aA}{tg:Expr}
end
section
variable{K:aA}{X:Cx}{tg e l:Expr}{t tl:TE}{f:FE}
end
end L2


namespace L2
open PySem PySem.Spec PySem.Calls PyProof.Rows PyProof.V
section
variable{K:aA}{X:Cx}{a b c e:Expr}{ta tb tc te t:TE}{f g fa fb fc:FE}{pos apos cpos:Pos}{m:Str}
end
end L2


namespace L2
open PySem PySem.Spec PySem.Calls PyProof.Rows PyProof.V
section
variable{K:aA}{B H H':Hp}{env:EN}{σ:St}{i j:Nat}{v:V}{d:D}
end
end L2


namespace L2
open PySem PySem.Spec PySem.Calls PyProof.Rows PyProof.V
abbrev JS(h:Heap)(l:List Env):Heap:=V6 h (frs l)
structure Fl(l:List Env)(s1:Shared)(e:Addr)(cls:Value)(s':Shared):Prop where
 ou:∃a0,Heap.FlyingW (JS s1.heap l) l e cls a0 s'.heap
 up:s1.heap.UpToSlots s'.heap
 os:s'.os=s1.os
 bare:AllBare s'.gens
def PK(P:Program)(w:World):Hs:=λouter H s E ev s'=>∃e cls H' s1,ev=.ref e∧s1.os=s.os∧AllBare s1.gens∧Un (frs outer) [] H H' s.heap s1.heap∧lV P w H' s1.heap∧Fl outer s1 e cls s'∧E cls none H'
section
variable{P:Program}{w:World}{l:List Env}{s1 s':Shared}{e:Addr}{cls:Value}{H:Hp}{base:Heap}
end
section
variable{X:Cx}{pins:List (Addr×Obj)}{σ:St}{H:Hp}{s s1 s':Shared}{e:Addr}{cls ev:Value}{E:XK}
end
section
variable{P:Program}{w:World}{env:Env}{outer:List Env}{L e:Addr}{cls a0:Value}{s0 s1:Shared}{H0 H:Hp}{E:XK}{base h':Heap}{s2:Shared}
end
section
variable{P:Program}{w:World}{K:aA}{mg:Str→Option Value}{base:Heap}{N:List Str}{qual:Str}{scope:Scope}{f:Addr}{cd:Value}{A:Around}{outer:List Env}{s0:Shared}{H0:Hp}{E:XK}
end
end L2


namespace L2
open PySem PySem.Spec PySem.Calls PyProof.Rows PyProof.V
abbrev GZ:=EN→Option Nat
def DZ(K:aA)(κ:Nat→Addr)(E:XK)(t:TS)(z:GZ):Prop:=∀(B:Hp)(D:Ends)(σ:St)(H:Hp)(env:EN)(i:Nat),Rel K B env σ H→z env=some i→(∀H',aD B H'→E (.ref (κ i)) none H')→t D σ H
structure YZ(K:aA)(κ:Nat→Addr)(X:Cx)(E:XK)(st:Stmt)(t:TS)(z:GZ):Prop where
 ps:PS X st t
 ev:DZ K κ E t z
structure ph(K:aA)(κ:Nat→Addr)(X:Cx)(E:XK)(st:List Stmt)(t:TS)(z:GZ):Prop where
 ps:yU X st t
 ev:DZ K κ E t z
structure fu(P:Program)(w:World)(K:aA)(mg:Str→Option Value)(base:Heap)(x:Str)(k:Nat)(n:Nat)(sp:Sp):Prop where
 ex:∃f fd ps,ps.length=n∧oE P w K mg base (PK P w) k f fd ps sp∧Binds K fd ps []∧G2 K (.ref f)=true∧mg x=some (.ref f)
structure YM(P:Program)(w:World)(K:aA)(mg:Str→Option Value)(base:Heap)(C:Addr)(m:Str)(k n:Nat)(df:Bool)(sp:Sp):Prop where
 ex:∃f fd ps,ps.length=n∧oE P w K mg base (PK P w) k f fd ps sp∧Binds K fd ps []∧(df=true→Binds K fd ps [Value.none])∧Meth K C m f
section
variable{K:aA}{κ:Nat→Addr}{X:Cx}{E:XK}{st:Stmt}{sts rest:List Stmt}{t u:TS}{z z1 z2:GZ}{g:GS}{c e o:Expr}{es:List Expr}{te ta:TE}{tA:TA}{tc:TT}{fc:FT}{f:FE}{fs:FA}{pos apos:Pos}{m:Str}
def gf(X:Cx)(pins:List (Addr×Obj))(σ:St)(e:Expr)(t:TE):Prop:=∀(s:Shared)(H:Hp)(Q:VK),Inv X pins σ H s→t σ H Q→wpAny (model X.prog X.w) X.A (eval e X.env) (EP X pins σ Q) X.xe s
def gj(X:Cx)(pins:List (Addr×Obj))(σ:St)(st:Stmt)(t:TS):Prop:=∀(s:Shared)(H:Hp)(D:Ends),Inv X pins σ H s→t D σ H→wpAny (model X.prog X.w) X.A (exec st X.env) (SP X pins D) X.xe s
def Vv(CX:Hs)(X:Cx)(pins:List (Addr×Obj))(σ:St)(E:XK):Prop:=∀(H:Hp)(s:Shared)(e:Value)(s':Shared),Inv X pins σ H s→CX X.stack H s E e s'→X.xe e s'
structure pq(K:aA)(κ:Nat→Addr)(X:Cx)(E:XK)(e:Expr)(t:TE)(z:DE→Option Nat):Prop where
 pe:∀(pins:List (Addr×Obj))(σ:St),Vv (PK X.prog X.w) X pins σ E→gf X pins σ e t
 ev:∀(σ:St)(H:Hp)(de:DE)(i:Nat)(Q:VK),lF K H de σ→z de=some i→(∀H',aD H H'→E (.ref (κ i)) none H')→t σ H Q
end
section
variable{P:Program}{w:World}{K:aA}{mg:Str→Option Value}{base:Heap}{κ:Nat→Addr}
end
section
variable{K:aA}{κ:Nat→Addr}{X:Cx}{E:XK}{z:GZ}{g:GS}{pos:Pos}
end
end L2


namespace L2
open PySem PySem.Spec PySem.Calls PyProof.Rows PyProof.V
abbrev JT:List Value:=[.type "ValueError", .type "Exception", .type "BaseException", .type "object"]
structure qd(K:aA)(mg:Str→Option Value)(x:Str)(C:Addr):Prop where
 mg:mg x=some (.ref C)
 ok:PySem.W.excIn K C JT "ValueError.__new__" = true
section
variable{P:Program}{w:World}{K:aA}{mg:Str→Option Value}{base:Heap}{N:List Str}{qual:Str}{scope:Scope}{f:Addr}{cd:Value}{A:Around}{outer:List Env}{s0:Shared}{H0:Hp}{E:XK}{κ:Nat→Addr}
 {x:Str} {C:Addr} {np cpos pos:Pos} {e:Expr} {es:List Expr} {tA:TA}
end
abbrev Cx.tr(X:Cx)(pn:List (Addr×Obj))(Ex:Value→Shared→Prop):Cx:={X with pn:=pn,xe:=Ex}
abbrev Cx.hand(X:Cx)(pn:List (Addr×Obj))(e:Addr):Cx:={X with pn:=pn,A:=X.A.mark (some (.ref e)),calm:=false,xe:=λ_ _=>False}
section
variable{X:Cx}{pins Jv pn:List (Addr×Obj)}{σ:St}{H:Hp}{s s':Shared}{Ex:Value→Shared→Prop}{e:Addr}{D:Ends}{fl:Flow}
end
abbrev JV:=Nat→Nat→Bool
section
variable{K:aA}{κ:Nat→Addr}{X:Cx}{sub:JV}{n nj:Nat}{z:GZ}{g:GS}{st:Stmt}{pos:Pos}
def gn(k:Nat)(g:GS):GS:=λenv=>if k<env.length then(match g (env.set k .no)with
 | .next env'=>if k<env'.length then .next (env'.set k .no)else .bad
 | _=>.bad)else .bad
structure YE(K:aA)(X:Cx)(k:Nat)(e:Addr)(sts:List Stmt)(t:TS)(g:GS):Prop where
 ps:yU X sts t
 ev:∀(B:Hp)(D:Ends)(σ:St)(H:Hp)(env:EN),Rel K B env σ H→σ[k]?=some (some (.ref e))→rO K B D (g env)→t D σ H
inductive HK(K:aA)(κ:Nat→Addr)(X:Cx)(n i:Nat):List ExceptHandler→List (Nat×GS)→Prop
 | nil:HK K κ X n i [] []
 | cons {x:Str} {np hp:Pos} {b₀:Stmt} {suite:List Stmt} {rest:List ExceptHandler} {j:Nat} {gh:GS} {r:List (Nat×GS)} (hm:X.mg x=some (.ref (κ j))) (hg:Gl X x) (hd:(x==("__debug__" : Str))=false)
   (hs:∀(pn:List (Addr×Obj))(e:Addr),∃t,YB K (X.hand pn e) (b₀::suite) t gh) (hr:HK K κ X n i rest r):HK K κ X n i (.ExceptHandler (some (.Name x np)) none (b₀::suite) hp::rest) ((j,gh)::r)
 | as {x nm:Str} {np hp:Pos} {b₀:Stmt} {suite:List Stmt} {rest:List ExceptHandler} {j k:Nat} {gh:GS} {r:List (Nat×GS)} (hm:X.mg x=some (.ref (κ j))) (hg:Gl X x) (hd:(x==("__debug__" : Str))=false) (hN:X.N.Nodup) (hk:X.N[k]?=some nm) (hl:X.env.scope.names.lookup nm=some .local)
   (hs:∀(pn:List (Addr×Obj))(e:Addr)(oe:Obj),i<n→oe.cls=.ref (κ i)→(e,oe)∈pn→∃t,YE K (X.hand pn e) k e (b₀::suite) t gh) (hr:HK K κ X n i rest r):HK K κ X n i (.ExceptHandler (some (.Name x np)) (some nm) (b₀::suite) hp::rest) ((j,gn k gh)::r)
structure ZS(K:aA)(κ:Nat→Addr)(X:Cx)(E:XK)(st:Stmt)(t:TS)(z:GZ):Prop where
 ps:∀(pins:List (Addr×Obj))(σ:St),Vv (PK X.prog X.w) X pins σ E→gj X pins σ st t
 ev:∀(B:Hp)(D:Ends)(σ:St)(H:Hp)(env:EN)(i:Nat),Rel K B env σ H→z env=some i→(∀H',aD H H'→E (.ref (κ i)) none H')→t D σ H
end
end L2


namespace L2
open PySem PySem.Spec PySem.Calls PyProof.Rows PyProof.V
section
variable{K:aA}{X:Cx}{κ:Nat→Addr}{pos p:Pos}
structure XE(K:aA)(X:Cx)(k:Nat)(ea:Addr)(e:Expr)(t:TE)(d:D):Prop where
 pe:PE X e t
 ev:∀(σ:St)(H:Hp)(Q:VK),σ[k]?=some (some (.ref ea))→(∀v H',aD H H'→Br K H H' d v→Q v H')→t σ H Q
end
section
variable{K:aA}{X:Cx}{g:GS}{pos:Pos}
end
end L2


namespace L2
open PySem PySem.Spec PySem.Calls PyProof.Rows PyProof.V
section
variable{K:aA}{X:Cx}{pos p0:Pos}
end
end L2


namespace L2
open PySem PySem.Spec PySem.Calls PyProof.Rows PyProof.V Builtin Builtin.ObjectAttr Builtin.Getset_descriptor
section
variable{P:Program}{w:World}{A:Around}{E:Value→Shared→Prop}{s:Shared}{K:aA}{x D:Addr}{ox:Obj}{od:Option Obj}
structure gq(K:aA)(D:Addr):Prop where
 ga:I0 K (.ref D) "__getattribute__" = some (some (.builtin "BaseException.__getattribute__"))
 gt:I0 K (.ref D) "__getattr__" = some none
 cl:I0 K (.ref D) "__class__" = some (some (.builtin "object.__class__"))
 sp:P0 K (.builtin "object.__class__") "__get__" = some (some (.builtin "getset_descriptor.__get__"))
 tk:V7 K (.builtin "object.__class__")=some true
 mr:X0 K D (.type "object")=some true
 bx:PySem.W.subIn K (.ref D) (.type "BaseException")=some true
 ct:(PySem.W.clsIn K D).isSome=true
end
section
variable{K:aA}{X:Cx}{κ:Nat→Addr}{pos p:Pos}
structure qe(K:aA)(X:Cx)(k:Nat)(ea:Addr)(e:Expr)(t:TE)(f:FE):Prop where
 hk:X.K=K
 pe:PE X e t
 ev:∀(σ:St)(H:Hp)(de:DE)(d:D)(Q:VK),lF K H de σ→σ[k]?=some (some (.ref ea))→f de=some d→(∀v H',aD H H'→Br K H H' d v→Q v H')→t σ H Q
structure qg(K:aA)(X:Cx)(k:Nat)(ea:Addr)(es:List Expr)(t:TA)(fs:FA):Prop where
 hk:X.K=K
 pa:PA X es t
 ev:∀(σ:St)(H:Hp)(de:DE)(ds:List D)(Q:List V→Hp→Prop),lF K H de σ→σ[k]?=some (some (.ref ea))→fs de=some ds→(∀vs H',aD H H'→uC K H H' ds vs→Q vs H')→t σ H Q
end
end L2


namespace L2
open PySem PySem.Spec PySem.Calls PyProof.Rows PyProof.V
section
variable{P:Program}{w:World}{K:aA}{mg:Str→Option Value}{base:Heap}{κ:Nat→Addr}
end
section
variable{K:aA}{κ:Nat→Addr}{X:Cx}{E:XK}{pos:Pos}
end
end L2


namespace L2
open PySem PySem.Spec PySem.Calls PyProof.Rows PyProof.V
section
variable{K:aA}{X:Cx}{e:Expr}{t:TE}{f:FE}{pos:Pos}
end
end L2


set_option maxHeartbeats 1000000
namespace L2
open PySem PySem.Spec PySem.Calls PyProof.Rows PyProof.V
section
variable{K:aA}{X:Cx}{e:Expr}{t:TE}{f:FE}{pos p2:Pos}
def JW(z:Str)(lo hi:Option Int):Prop:=(∀i∈lo.toList,0≤i)∧(∀j∈hi.toList,0≤j)∧HT.qL z.length 0 lo≤HT.qL z.length z.length hi∧z.length≤100000
instance:∀z lo hi,Decidable (JW z lo hi):=λz lo hi=>by unfold JW;exact inferInstance
end
end L2


namespace L2
open PySem PySem.Spec PySem.Calls PyProof.Rows PyProof.V
section
variable{K:aA}{X:Cx}{pos:Pos}
variable{κ:Nat→Addr}{sub:JV}{n nj:Nat}
end
end L2


namespace L2
open PySem PySem.Spec PySem.Calls PyProof.Rows PyProof.V
section
variable{K:aA}{X:Cx}
end
end L2


namespace L2
open PySem PySem.Spec PySem.Calls PyProof.Rows PyProof.V
section
variable{K:aA}{X:Cx}{a e0 eM:Expr}{es:List Expr}{t0 tM:TE}{f0:FE}{gM:GM}{tA:TA}{fs:FA}{pos:Pos}{i:Nat}
end
end L2


namespace L2
open PySem PySem.Spec PySem.Calls PyProof.Rows PyProof.V
section
variable{K:aA}{X:Cx}{e1 e2:Expr}{t1 t2 te:TE}{f g fe:FE}{tc:TT}{fc:FT}{pos p p2:Pos}{x:Str}
end
end L2


namespace L2
open PySem PySem.Spec PySem.Calls PyProof.Rows PyProof.V
inductive Ap where
  | ch (i:Nat) (π:FP) | rd (f:FE) | nw (f:FE)
def PL:List Ap→DE→Option (List (Nat×List Step))
 | [],_=>some []
 | .ch i π::as,e=>(π e).bind λp=>(PL as e).map λr=>(i,p)::r
 | .rd _::as,e=>PL as e
 | .nw _::as,e=>PL as e
def PN:List Ap→DE→DE→Option (List D)
 | [],_,_=>some []
 | .ch _ _::as,eF,eZ=>PN as eF eZ
 | .rd f::as,eF,eZ=>(f eZ).bind λd=>(PN as eF eZ).map λr=>d::r
 | .nw f::as,eF,eZ=>(f eF).bind λd=>(PN as eF eZ).map λr=>d::r
def Gd(K:aA)(Z:Hp):List Ap→List V→List D→List V→Prop
 | [],cv,ds,vs=>cv=[]∧ds=[]∧vs=[]
 | .ch _ _::as,cv,ds,vs=>∃v cr r,cv=v::cr∧vs=v::r∧Gd K Z as cr ds r
 | .rd _::as,cv,ds,vs=>∃d dr v r,ds=d::dr∧vs=v::r∧Rv K Z d v∧Gd K Z as cv dr r
 | .nw _::as,cv,ds,vs=>∃d dr v r,ds=d::dr∧vs=v::r∧Rv K Z d v∧Gd K Z as cv dr r
def YQ(σ:St)(H:Hp):List (Nat×List Step)→List V→Prop
 | [],vs=>vs=[]
 | (j,p)::js,vs=>∃v0 v r,vs=v::r∧σ[j]?=some (some v0)∧Io H p v0=some v∧YQ σ H js r
section
variable{K:aA}{X:Cx}{e:Expr}{es:List Expr}{te:TE}{f:FE}{tA:TA}{as:List Ap}{pos:Pos}{i:Nat}{π:FP}
def TF(K:aA)(t:TA)(as:List Ap):Prop:=∀(A1:Fp)(σ:St)(H:Hp)(eF eZ:DE)(ds:List D)(ps:List (Nat×List Step))(cv:List V)(Q:List V→Hp→Prop),(∀x,A1 x→jF H x)→lF K H eF σ→lF K (out H A1) eZ σ→PL as eF=some ps→YQ σ H ps cv→PN as eF eZ=some ds →
 (∀vs H',aD H H'→Gd K (out H' A1) as cv ds vs→Q vs H')→t σ H Q
structure qi(K:aA)(X:Cx)(es:List Expr)(t:TA)(as:List Ap):Prop where
 hk:X.K=K
 pa:PA X es t
 ev:TF K t as
end
section
variable{K:aA}{H H' Z Z' B:Hp}{σ:St}
end
section
variable{K:aA}{X:Cx}{e:Expr}{es:List Expr}{tA:TA}{as:List Ap}{pos pf:Pos}
end
section
variable{K:aA}{X:Cx}{a b e:Expr}{ta tb te:TE}{g:FE}{gm:GM}{i:Nat}{π:FP}{pos pos':Pos}
end
end L2


namespace L2
open PySem PySem.Spec PySem.Calls PyProof.Rows PyProof.V
section
variable{K:aA}{te:TE}{f:FE}{i:Nat}{c:Int}
end
end L2


namespace L2
open PySem PySem.Spec PySem.Calls PyProof.Rows PyProof.V HT
section
variable{X:Cx}{K:aA}{e:Expr}{t:TE}{f:FE}{x y:Str}{p p2 pos pos2:Pos}
end
end L2


namespace L2
open PySem PySem.Spec PySem.Calls PyProof.Rows PyProof.V
def JX(base:Heap)(l:List Env)(e:Addr)(cls a0:Value)(h:Heap):Prop:=base.StaysIn h∧base.get? e=none∧h.FunFrames base l∧∃fl,h.TracedAtW base e cls a0 fl
section
variable{M:Model}{A:Around}{E:Value→Shared→Prop}{s:Shared}{base:Heap}{env:Env}{outer l:List Env}{L e:Addr}{cls a0:Value}
end
structure Hl(l:List Env)(s1:Shared)(e:Addr)(cls:Value)(s':Shared):Prop where
 held:∃a0,JX (JS s1.heap l) l e cls a0 s'.heap
 up:s1.heap.UpToSlots s'.heap
 os:s'.os=s1.os
 bare:AllBare s'.gens
section
variable{P:Program}{w:World}{K:aA}{mg:Str→Option Value}{base:Heap}{N:List Str}{qual:Str}{scope:Scope}{f:Addr}{cd:Value}{A:Around}{outer:List Env}{s0:Shared}{H0:Hp}{E:XK}
end
section
variable{X:Cx}{EE:XK}
end
section
variable{K:aA}{κ:Nat→Addr}{X:Cx}{E:XK}
end
section
variable{K:aA}{κ:Nat→Addr}{X:Cx}{E:XK}{a e:Expr}{ta tz:TE}{f:FE}{z:DE→Option Nat}{pos:Pos}
end
end L2


namespace L2
open PySem PySem.Spec PySem.Calls PyProof.Rows PyProof.V
section
variable{K:aA}{te:TE}{f:FE}{tc:TT}{c:FT}{i j:Nat}
end
end L2


namespace L2
open PySem PySem.Spec PySem.Calls PyProof.Rows PyProof.V
section
variable{M:Model}{A:Around}{E:Value→Shared→Prop}{s:Shared}
end
structure CV(nY scope:Scope)(oN N:List Str)(k:Nat)(fr:List Nat):Prop where
 kind:scope.kind=.function
 loc:∀y∈scope.names,y.2=.local→scope.names.lookup y.1=some .local
 free:∀y∈scope.names,y.2=.free→nY.names.lookup y.1=some .cell∨nY.names.lookup y.1=some .free
 len:N.length=k+fr.length
 slots:∀j∈D3 fr.length,oN[fr.getD j 0]?=N[k+j]?
 from_:∀x∈N.drop k,(x,NameKind.free)∈scope.names∧((cR scope nY).names.lookup x=some .cell∨(cR scope nY).names.lookup x=some .free)
 apart:∀y∈scope.names,y.2=.free→(y.1,NameKind.cell)∉scope.names
def TJ(nY scope:Scope)(oN N:List Str)(k:Nat)(fr:List Nat):Bool:=
 decide (scope.kind=.function)&&decide (∀y∈scope.names,y.2=.local→scope.names.lookup y.1=some .local) &&
 decide (∀y∈scope.names,y.2=.free→nY.names.lookup y.1=some .cell∨nY.names.lookup y.1=some .free)&&decide (N.length=k+fr.length) &&
 decide (∀j∈D3 fr.length,oN[fr.getD j 0]?=N[k+j]?) &&
 decide (∀x∈N.drop k,(x,NameKind.free)∈scope.names∧((cR scope nY).names.lookup x=some .cell∨(cR scope nY).names.lookup x=some .free)) &&
 decide (∀y∈scope.names,y.2=.free→(y.1,NameKind.cell)∉scope.names)
section
variable{X:Cx}
end
section
variable{K:aA}{X:Cx}{tc:TT}{fc:FT}{pos:Pos}
end
end L2


namespace L2
open PySem PySem.Spec PySem.Calls PyProof.Rows PyProof.V
section
variable{prog:Program}{w:World}{A:Around}{E:Value→Shared→Prop}{s:Shared}{it d:Addr}{i ep:Nat}{es:Array DictEntry}{od:Obj}
end
section
variable{X:Cx}
end
end L2


namespace L2
open PySem PySem.Spec PySem.Calls PyProof.Rows PyProof.V
section
variable{K:aA}{B H:Hp}{env:EN}{σ:St}
end
section
variable{K:aA}{t h:Nat}{tb:TS}{tb':Int→TS}{body:Int→GS}
end
section
variable{K:aA}{t h j:Nat}{tA:TA}{fs:FA}
end
section
variable{K:aA}{X:Cx}{t h j c i:Nat}{π:FP}{ta qj:TE}{g:FE}{tA:TA}{fs:FA}{tg o o2 hn cn two a b val:Expr}{es:List Expr}{st1 st2:Stmt}{pos pos' p1 p2 p3 p4:Pos}{x1:Nat}
end
end L2


namespace L2
open PySem PySem.W PyProof.Rows
section
variable{N:Nat}(key:Nat→Int)
end
end L2


namespace L2
open PySem PySem.W PySem.Spec PyProof.Rows
def gr(h:Heap):List Value→List (Int×Int)→Prop
 | [],ps=>ps=[]
 | v::vs,ps=>∃p qs,ps=p::qs∧(∃a t u,v=.ref a∧IsTup h a #[.int p.1 t,.int p.2 u])∧gr h vs qs
section
variable{prog:Program}{w:World}{A:Around}{E:Value→Shared→Prop}{s:Shared}{vs:List Value}{ps:List (Int×Int)}
end
end L2


namespace L2
open PySem PySem.W PySem.Spec PyProof.Rows
section
variable{X:Cx}{pins:List (Addr×Obj)}{σ:List (Option V)}{H H':Hp}{s:Shared}{h':Heap}
end
section
variable{K:aA}{X:Cx}{pins:List (Addr×Obj)}{σ:St}{H:Hp}{s:Shared}
end
end L2


namespace L2
open PySem PySem.W PySem.Spec PyProof.Rows
theorem Ge{α:Type} [DecidableEq α] {k:α}:∀{ks:List α} {i:Nat},ks.Nodup→ks[i]?=some k→posK ks k=some i
 | [],i,_,h=>by simp at h
 | a::ks,0,hn,h=>by
  have h:a=k:=by simpa using h
  unfold posK
  rw[if_pos h]
 | a::ks,i+1,hn,h=>by
  have h:ks[i]?=some k:=by simpa using h
  rw[E5]at hn
  have ne:a≠k:=λz=>hn.1 (z▸E9 h)
  unfold posK
  rw[if_neg ne,Ge hn.2 h]
  rfl
theorem nJ{α:Type} [DecidableEq α] {k:α}:∀{ks:List α} {i:Nat},posK ks k=some i→ks[i]?=some k
 | [],i,h=>by unfold posK at h;cases h
 | a::ks,i,h=>by
  unfold posK at h
  by_cases c:a=k
  ·rw[if_pos c]at h;cases h;rw[c];rfl
  ·rw[if_neg c]at h
   obtain⟨j,h1,rfl⟩:=dB h
   have:=nJ h1
   simpa using this
section
variable{K:aA}{X:Cx}{pins:List (Addr×Obj)}{σ:St}{H:Hp}{s:Shared}
end
structure M0(X:Cx)(o:Expr)(m:Str)(apos:Pos)(cpos:Pos):Prop where
 base:attributeBase o m X.env (eval o X.env)=eval o X.env
 few:((backTo cpos (starEach [] X.env)).all (λx=>!x.1)&&(backToKw cpos (keywordEach [] X.env)).all (λx=>x.1.isSome)
  && decide (([]:List Expr).length+([]:List Keyword).length+(if([]:List Keyword).isEmpty then 0 else 1)<30))=true
 line:(apos.endLine==cpos.line)=true
 trees:backTo cpos (starEach [] X.env)=[]
section
variable{K:aA}{X:Cx}{o:Expr}{t:TE}{f:FE}{x:Str}{p pos apos cpos:Pos}
end
end L2


namespace L2
open PySem PySem.W PySem.Spec PyProof.Rows
section
variable{prog:Program}{w:World}{A:Around}{R:Result→Shared→Prop}{I:Addr}{fp wr:List Addr}{G:Array GenState→Array GenState→Prop}{n:Nat}{P:Nat→Value→Prop}{St:Nat→Shared→Prop}
variable{E:Value→Shared→Prop}{s:Shared}
end
end L2


namespace L2
open PySem PySem.W PySem.Spec PyProof.Rows
mutual
def gw:D→Nat→Bool
 | .int _,_=>true
 | .str _,_=>true
 | .lst ds,n+1=>Zo ds n
 | .tup ds,n+1=>Zo ds n
 | _,_=>false
def Zo:List D→Nat→Bool
 | [],_=>true
 | d::ds,n=>gw d n&&Zo ds n
end
section
open SeqAt
variable{X:Cx}{pins:List (Addr×Obj)}{σ:St}{H:Hp}{s:Shared}
end
section
open SeqAt
variable{K:aA}{X:Cx}
end
section
variable{K:aA}{X:Cx}
end
end L2


namespace L2
open PySem PySem.W PySem.Spec PyProof.Rows
section
variable{K:aA}{X:Cx}{e a b c:Expr}{ta tb te:TE}{f g:FE}{pos:Pos}{i j:Nat}{π:FP}{tc:TT}{fc:FT}
theorem Ni{H:Hp}:∀{ks:List Key} {xs:List V},ks.length=xs.length→bA K H (ks.map kD) ((ks.zip xs).map λkv=>kV kv.1)
 | [],xs,_=>by rw[E2,List.zip_nil_left,E2];unfold bA;rfl
 | k::ks,[],h=>by simp at h
 | k::ks,x::xs,h=>by
  rw[B8,L5,B8]
  unfold bA
  refine⟨_,_,rfl,?_,Ni (by simpa using h)⟩
  cases k with
  | inl i=>unfold kD Rv;rfl
  | inr x=>unfold kD Rv;rfl
end
end L2


namespace L2
open PySem PySem.W PySem.Spec PyProof.Rows
section
open SeqAt
variable{K:aA}{X:Cx}
end
end L2


namespace L2
open PySem PySem.W PySem.Spec PyProof.Rows
section
variable{K:aA}{X:Cx}{a b c:Expr}{ta tb tc:TE}{fa fb fc:FE}{pos:Pos}
end
end L2


namespace L2
open PySem PySem.W PySem.Spec PyProof.Rows
def TQ(M x:Nat):Nat:=(x*5+1)%M
def Gf(M:Nat):Nat→Nat→Nat
 | 0,x=>x
 | n+1,x=>Gf M n (TQ M x)
theorem nM(M:Nat):∀(a b x:Nat),Gf M (a+b) x=Gf M b (Gf M a x)
 | 0,b,x=>by rw[F3];rfl
 | a+1,b,x=>by
  rw[show a+1+b=(a+b)+1 by omega]
  exact nM M a b (TQ M x)
def JZ(M:Nat):Nat→Nat→List Nat
 | 0,_=>[]
 | n+1,x=>x::JZ M n (TQ M x)
theorem Gg{M y:Nat}:∀{n x:Nat},y∈JZ M n x→∃k,k<n∧Gf M k x=y
 | 0,x,h=>by unfold JZ at h;cases h
 | n+1,x,h=>by
  unfold JZ at h
  rcases B6.mp h with rfl | z
  ·exact⟨0,Nat.succ_pos _,rfl⟩
  ·obtain⟨k,h1,h2⟩:=Gg z
   exact⟨k+1,by omega,h2⟩
def Full(M:Nat):Prop:=0<M∧Gf M M 0=0∧∀y,y<M→∃k,k<M∧Gf M k 0=y
theorem iH{M:Nat}(h0:0<M)(h1:Gf M M 0=0)(h2:((D3 M).all λy=>(JZ M M 0).contains y)=true):Full M:=⟨h0,h1,λy hy=>by
 rw[G9]at h2
 exact Gg (List.contains_iff_mem.mp (h2 y (D9.mpr hy)))⟩
theorem Vw:Full 8:=iH (by decide) (by decide +kernel) (by decide +kernel)
theorem Zq:Full 16:=iH (by decide) (by decide +kernel) (by decide +kernel)
theorem Zr:Full 32:=iH (by decide) (by decide +kernel) (by decide +kernel)
theorem Zt:Full 64:=iH (by decide) (by decide +kernel) (by decide +kernel)
theorem Tw:Full 128:=iH (by decide) (by decide +kernel) (by decide +kernel)
theorem Tz:Full 256:=iH (by decide) (by decide +kernel) (by decide +kernel)
theorem Ua:Full 512:=iH (by decide) (by decide +kernel) (by decide +kernel)
theorem Full.any{M x y:Nat}(h:Full M)(hx:x<M)(hy:y<M):∃n,n≤M∧Gf M n x=y:=by
 obtain⟨s,s1,s2⟩:=h.2.2 x hx
 obtain⟨t,t1,t2⟩:=h.2.2 y hy
 rcases G7 t s with z | z
 ·refine⟨(M-s)+t,by omega,?_⟩
  rw[nM]
  have e:Gf M (s+(M-s)) 0=Gf M (M-s) x:=by rw[nM,s2]
  rw[show s+(M-s)=M by omega,h.2.1]at e
  rw[←e]
  exact t2
 ·refine⟨t-s,by omega,?_⟩
  have e:Gf M (s+(t-s)) 0=Gf M (t-s) x:=by rw[nM,s2]
  rw[show s+(t-s)=t by omega,t2]at e
  exact e.symm
theorem Ak:∀w,w<512→SetTable.sizeAbove w=8∨SetTable.sizeAbove w=16∨SetTable.sizeAbove w=32∨SetTable.sizeAbove w=64∨SetTable.sizeAbove w=128∨SetTable.sizeAbove w=256∨SetTable.sizeAbove w=512:=by decide +kernel
theorem Al:∀w,w<512→w<SetTable.sizeAbove w:=by decide +kernel
theorem rY{w:Nat}(h:w<512):Full (SetTable.sizeAbove w):=by
 rcases Ak w h with e | e | e | e | e | e | e<;>rw[e]
 ·exact Vw
 ·exact Zq
 ·exact Zr
 ·exact Zt
 ·exact Tw
 ·exact Tz
 ·exact Ua
abbrev Ub(owner:Array (Option Nat))(j:Nat):Prop:=(owner.getD j (some 0)).isNone=true
theorem Gh{mask:Nat}{owner:Array (Option Nat)}:∀(fuel i perturb:Nat),(∃j,SetTable.layClean.free mask owner fuel i perturb=some j∧Ub owner j)∨(SetTable.layClean.free mask owner fuel i perturb=none∧∀n,n<fuel→¬Ub owner ((Nat.repeat (λp:Nat×Nat=>SetTable.leap mask p.1 p.2) n (i,perturb)).1))
 | 0,i,perturb=>.inr ⟨rfl,λn h=>absurd h (M9 _)⟩
 | fuel+1,i,perturb=>by
  unfold SetTable.layClean.free
  cases q:(D3 (SetTable.runEnd mask i+1-i)).find? λk=>(owner.getD (i+k) (some 0)).isNone with
  | some k=>
   refine .inl ⟨i+k,rfl,?_⟩
   have:=List.find?_some q
   exact this
  | none=>
   have hq:=List.find?_eq_none.mp q
   have h0:¬Ub owner i:=λz=>by
    refine hq 0 (D9.mpr ?_) (by rw[Nat.add_zero];exact z)
    unfold SetTable.runEnd
    split<;>omega
   dsimp only
   rcases Gh (mask:=mask) (owner:=owner) fuel (SetTable.leap mask i perturb).1 (SetTable.leap mask i perturb).2 with ⟨j,h1,h2⟩ | ⟨h1,h2⟩
   ·exact .inl ⟨j,h1,h2⟩
   ·refine .inr ⟨h1,λn hn=>?_⟩
    cases n with
    | zero=>exact h0
    | succ n=>
     have rep:∀(f:Nat×Nat→Nat×Nat)(n:Nat)(x:Nat×Nat),Nat.repeat f (n+1) x=Nat.repeat f n (f x):=λf n=>by
      induction n with
      | zero=>intro x;rfl
      | succ n ih=>
       intro x
       show f (Nat.repeat f (n+1) x)=f (Nat.repeat f n (f x))
       rw[ih]
     rw[rep]
     exact h2 n (by omega)
theorem Gi{mask:Nat}:∀(n i p:Nat),p<32→(Nat.repeat (λp:Nat×Nat=>SetTable.leap mask p.1 p.2) n (i,p)).1=Gf (mask+1) n i∧(Nat.repeat (λp:Nat×Nat=>SetTable.leap mask p.1 p.2) n (i,p)).2<32
 | 0,i,p,h=>⟨rfl,h⟩
 | n+1,i,p,h=>by
  obtain⟨h1,h2⟩:=Gi (mask:=mask) n i p h
  show (SetTable.leap mask (Nat.repeat (λp:Nat×Nat=>SetTable.leap mask p.1 p.2) n (i,p)).1 (Nat.repeat (λp:Nat×Nat=>SetTable.leap mask p.1 p.2) n (i,p)).2).1=_∧(SetTable.leap mask (Nat.repeat (λp:Nat×Nat=>SetTable.leap mask p.1 p.2) n (i,p)).1 (Nat.repeat (λp:Nat×Nat=>SetTable.leap mask p.1 p.2) n (i,p)).2).2<32
  generalize Nat.repeat (λp:Nat×Nat=>SetTable.leap mask p.1 p.2) n (i,p)=x at *
  unfold SetTable.leap
  dsimp only
  rw[h1,Nat.div_eq_of_lt h2]
  refine⟨?_,by decide⟩
  rw[nM (mask+1) n 1 i]
  rfl
theorem Uc{mask h:Nat}{owner:Array (Option Nat)}{js:Nat}(hM:Full (mask+1))(hh:h<1024)(hj:js≤mask)(hf:Ub owner js):∃j,SetTable.layClean.free mask owner (SetTable.turns mask) (h%(mask+1)) h=some j∧Ub owner j:=by
 rcases Gh (mask:=mask) (owner:=owner) (SetTable.turns mask) (h%(mask+1)) h with r | ⟨_,r⟩
 ·exact r
 ·exfalso
  have hi:(SetTable.leap mask (h%(mask+1)) h).1<mask+1:=W3 _ (Nat.succ_pos _)
  obtain⟨n,hn,e⟩:=hM.any hi (Nat.lt_succ_of_le hj)
  have rep:∀(f:Nat×Nat→Nat×Nat)(n:Nat)(x:Nat×Nat),Nat.repeat f (n+1) x=Nat.repeat f n (f x):=λf n=>by
   induction n with
   | zero=>intro x;rfl
   | succ n ih=>
    intro x
    show f (Nat.repeat f (n+1) x)=f (Nat.repeat f n (f x))
    rw[ih]
  refine r (n+1) (by unfold SetTable.turns;omega) ?_
  rw[rep]
  have:=(Gi (mask:=mask) n (SetTable.leap mask (h%(mask+1)) h).1 (SetTable.leap mask (h%(mask+1)) h).2 (by unfold SetTable.leap;dsimp only;omega)).1
  rw[show SetTable.leap mask (h%(mask+1),h).1 (h%(mask+1),h).2=((SetTable.leap mask (h%(mask+1)) h).1,(SetTable.leap mask (h%(mask+1)) h).2)from rfl,this,e]
  exact hf
def rZ(mask:Nat)(owner:Array (Option Nat))(sl:List Nat):Prop:=owner.size=mask+1∧sl.Nodup∧(∀j∈sl,j≤mask)∧∀j,j≤mask→owner[j]?=some (posK sl j)
theorem Iz{α:Type} [DecidableEq α] {k:α} {ks:List α} (h:posK ks k=none):k∉ks:=λz=>by
 induction ks with
 | nil=>cases z
 | cons a ks ih=>
  unfold posK at h
  by_cases c:a=k
  ·rw[if_pos c]at h;cases h
  ·rw[if_neg c,R9]at h
   rcases B6.mp z with z | z
   ·exact c z.symm
   ·exact ih h z
theorem Nj{α:Type} [DecidableEq α] {k:α} {ks:List α} (h:k∉ks):posK ks k=none:=by
 cases z:posK ks k with
 | none=>rfl
 | some j=>exact absurd (E9 (nJ z)) h
theorem Ja{ks:List Nat}{k j:Nat}(h:k∉ks):posK (ks++[k]) j=if j=k then some ks.length else posK ks j:=by
 induction ks with
 | nil=>
  show (if k=j then some 0 else _)=_
  by_cases c:j=k
  ·rw[if_pos c,if_pos c.symm];rfl
  ·rw[if_neg c,if_neg (Ne.symm c)];rfl
 | cons a ks ih=>
  rw[J8]
  unfold posK
  rw[ih λz=>h (B4 _ z)]
  have hk:a≠k:=λz=>h (z▸B7)
  by_cases c:a=j
  ·rw[if_pos c,if_pos c,if_neg (λz=>hk (c.trans z))]
  ·rw[if_neg c,if_neg c]
   by_cases d:j=k
   ·rw[if_pos d,if_pos d];rfl
   ·rw[if_neg d,if_neg d]
theorem Nk:∀(n:Nat)(l:List Nat),l.Nodup→l.length<n→∃j,j<n∧j∉l
 | 0,l,_,h=>absurd h (M9 _)
 | n+1,l,hn,h=>by
  by_cases c:n∈l
  ·obtain⟨j,h1,h2⟩:=Nk n (l.erase n) (hn.erase n) (by rw[Q3 c];have:=N3 c;omega)
   exact⟨j,by omega,λz=>h2 ((T2 (by omega)).mpr z)⟩
  ·exact⟨n,by omega,c⟩
theorem rZ.fr{mask:Nat}{owner:Array (Option Nat)}{sl:List Nat}(o:rZ mask owner sl){j:Nat}(h:Ub owner j):j≤mask∧j∉sl:=by
 unfold Ub at h
 rw[M3]at h
 rcases G7 mask j with z | z
 ·rw[S5 (by rw[o.1];omega)]at h
  cases h
 ·rw[o.2.2.2 j z]at h
  refine⟨z,Iz ?_⟩
  exact Option.isNone_iff_eq_none.mp h
theorem rZ.free{mask:Nat}{owner:Array (Option Nat)}{sl:List Nat}(o:rZ mask owner sl){j:Nat}(h1:j≤mask)(h2:j∉sl):Ub owner j:=by
 unfold Ub
 rw[M3,o.2.2.2 j h1,Nj h2]
 rfl
theorem rZ.put{mask:Nat}{owner:Array (Option Nat)}{sl:List Nat}(o:rZ mask owner sl){j:Nat}(h1:j≤mask)(h2:j∉sl):rZ mask (owner.setIfInBounds j (some sl.length)) (sl++[j]):=by
  refine⟨by rw[Array.size_setIfInBounds];exact o.1,?_,λx hx=>?_,λx hx=>?_⟩
  · rw[N2]
    exact⟨o.2.1,E5.mpr ⟨L3,L8⟩,λa ha b hb z=>h2 (by rw[←B9.mp hb,←z];exact ha)⟩
  · rcases D4.mp hx with z | z
    · exact o.2.2.1 x z
    · rw[B9.mp z];exact h1
  · rw[Ja h2,Array.getElem?_setIfInBounds]
    by_cases c:x=j
    · rw[if_pos c.symm,if_pos c,if_pos (by rw[o.1];omega)]
    · rw[if_neg (Ne.symm c),if_neg c]
      exact o.2.2.2 x hx
theorem Nm{n:Nat}(h:n<1024):SetTable.bits (n:Int)=n:=by
 unfold SetTable.bits
 rw[U5 (by omega) (by omega)]
 rfl
theorem Gj{mask:Nat}(hM:Full (mask+1)):∀(hs:List Int)(owner:Array (Option Nat))(sl:List Nat),rZ mask owner sl→sl.length+hs.length≤mask→(∀h∈hs,0≤h∧h<1024) →
  ∃xY sl',hs.foldl (λ(acc:Option (Array (Option Nat)×Nat)) h=>do
   let (owner,k) ←acc
   let j ←SetTable.layClean.free mask owner (SetTable.turns mask) (SetTable.bits h%(mask+1)) (SetTable.bits h)
   pure (owner.setIfInBounds j (some k),k+1)) (some (owner,sl.length))=some (xY,sl'.length)∧rZ mask xY sl'∧sl'.length=sl.length+hs.length
 | [],owner,sl,o,_,_=>⟨owner,sl,rfl,o,rfl⟩
 | h::hs,owner,sl,o,hl,hb=>by
  rw[D7]at hl
  obtain⟨h0,h1⟩:=hb h B7
  obtain⟨n,rfl⟩:∃n:Nat,h=n:=⟨h.toNat,by omega⟩
  obtain⟨js,j1,j2⟩:=Nk (mask+1) sl o.2.1 (by omega)
  obtain⟨j,e1,e2⟩:=Uc (h:=n) hM (by omega) (U6 j1) (o.free (U6 j1) j2)
  obtain⟨f1,f2⟩:=o.fr e2
  obtain⟨xY,sl',g1,g2,g3⟩:=Gj hM hs _ _ (o.put f1 f2) (by rw[D1,K3];omega) λx hx=>hb x (B4 _ hx)
  refine⟨xY,sl',?_,g2,by rw[g3,D1,K3,D7];omega⟩
  rw[List.foldl_cons]
  rw[D1,K3]at g1
  rw[←g1]
  congr 1
  show (SetTable.layClean.free mask owner (SetTable.turns mask) (SetTable.bits (n:Int)%(mask+1)) (SetTable.bits (n:Int))).bind (λj=>some (owner.setIfInBounds j (some sl.length),sl.length+1))=_
  rw[Nm (by omega),e1]
  rfl
theorem Np{mask:Nat}(hM:Full (mask+1)){hs:Array Int}(hl:hs.size≤mask)(hb:∀h∈hs.toList,0≤h∧h<1024):∃owner sl,SetTable.layClean mask hs=some owner∧rZ mask owner sl∧sl.length=hs.size:=by
 have o0:rZ mask (Array.replicate (mask+1) none) []:=⟨Array.size_replicate,L8,λj hj=>(by cases hj),λj hj=>by rw[Array.getElem?_replicate,if_pos (by omega)];rfl⟩
 obtain⟨owner,sl,h1,h2,h3⟩:=Gj hM hs.toList _ [] o0 (by rw[M6,C9];omega) hb
 refine⟨owner,sl,?_,h2,by rw[h3,M6,C9,F3]⟩
 unfold SetTable.layClean
 rw[←Array.foldl_toList]
 rw[M6]at h1
 rw[h1]
 rfl
theorem sE{α:Type}:∀{l m:List α},l.Nodup→m.Nodup→(∀x,x∈l↔x∈m)→l.Perm m
  | [],m,_,_,h=>by
    cases m with
    | nil=>exact J9 _
    | cons a m=>exact absurd ((h a).mpr B7) (by simp)
  | a::l,m,h1,h2,h=>by
    obtain⟨s,t,rfl⟩:=List.append_of_mem ((h a).mp B7)
    rw[E5]at h1
    have h3:(a::(s++t)).Nodup:=(V2.nodup_iff).mp h2
    rw[E5]at h3
    refine((sE h1.2 h3.2 λx=>?_).cons a).trans V2.symm
    constructor
    · intro z
      have:=(h x).mp (B4 _ z)
      rcases D4.mp this with w | w
      · exact E1 _ w
      · rcases B6.mp w with w | w
        · rw[w]at z;exact absurd z h1.1
        · exact C5 _ w
    · intro z
      have hx:x∈a::l:=(h x).mpr (by
        rcases D4.mp z with w | w
        · exact E1 _ w
        · exact C5 _ (B4 _ w))
      rcases B6.mp hx with w | w
      · rw[w]at z;exact absurd z h3.1
      · exact w
theorem Am{α β:Type}{f g:α→Option β}:∀{l:List α},(∀x∈l,f x=g x)→l.filterMap f=l.filterMap g
 | [],_=>rfl
 | a::l,h=>by rw[G5,G5,h a B7,Am λx hx=>h x (B4 _ hx)]
theorem Gk{mask f mv:Nat}{led plain:Bool}(hM:Full (mask+1)){hs:Array Int}(hl:hs.size≤mask)(hb:∀h∈hs.toList,0≤h∧h<1024):∃t order,SetTable.laid mask f mv led plain hs=some (t,order)∧order.toList.Perm (D3 hs.size)∧t.mask=mask∧t.place.size=hs.size∧t.dummies=#[]∧t.led=led∧t.plain=plain∧t.place.toList.Pairwise (·<·):=by
 obtain⟨owner,sl,h1,o,h3⟩:=Np hM hl hb
 have e:SetTable.laid mask f mv led plain hs=some ({mask,place:=(((D3 (mask+1)).filterMap λj=>(owner.getD j none).map (j,·)).map (·.1)).toArray,dummies:=#[],finger:=f,led,moves:=mv,plain},(((D3 (mask+1)).filterMap λj=>(owner.getD j none).map (j,·)).map (·.2)).toArray):=by
  unfold SetTable.laid
  rw[h1]
  rfl
 have hf:((D3 (mask+1)).filterMap λj=>(owner.getD j none).map (j,·))=(D3 (mask+1)).filterMap λj=>(posK sl j).map (j,·):=by
  refine Am λj hj=>?_
  rw[M3,o.2.2.2 j (by have:=D9.mp hj;omega)]
  rfl
 rw[hf]at e
 generalize hL:((D3 (mask+1)).filterMap λj=>(posK sl j).map (j,·))=L at e
 obtain⟨u1,u2⟩:=Mw (λj=>posK sl j) (D3 (mask+1)) S0
 rw[hL]at u1
 have mem:∀a b,(a,b)∈L↔a≤mask∧posK sl a=some b:=λa b=>by
  rw[←hL,O3]
  constructor
  ·rintro⟨j,hj,e⟩
   obtain⟨i,h4,h5⟩:=dB e
   cases h5
   exact⟨by have:=D9.mp hj;omega,h4⟩
  ·rintro⟨h4,h5⟩
   exact⟨a,D9.mpr (by omega),by rw[h5];rfl⟩
 have hperm:(L.map (·.2)).Perm (D3 hs.size):=by
  refine sE ?_ List.nodup_range λi=>?_
  ·rw[List.nodup_iff_pairwise_ne,U7]
   rw[U7]at u1
   refine List.Pairwise.imp_of_mem (λ{x y} hx hy hlt z=>?_) u1
   obtain⟨x1,x2⟩:=x
   obtain⟨y1,y2⟩:=y
   have z:x2=y2:=z
   subst z
   have a1:=nJ ((mem _ _).mp hx).2
   have a2:=nJ ((mem _ _).mp hy).2
   rw[a1]at a2
   cases a2
   exact absurd hlt (F5 _)
  ·rw[D9,G0]
   constructor
   ·rintro⟨⟨a,b⟩,h4,rfl⟩
    have:=(C3.mp (nJ ((mem a b).mp h4).2)).1
    show b<hs.size
    omega
   ·intro hi
    have hi':i<sl.length:=by omega
    exact⟨(sl[i],i),(mem _ _).mpr ⟨o.2.2.1 _ (L0 hi'),Ge o.2.1 (B3 hi')⟩,rfl⟩
 refine⟨_,_,e,hperm,rfl,?_,rfl,rfl,rfl,u1⟩
 show ((L.map (·.1)).toArray).size=hs.size
 have:=hperm.length_eq
 rw[B0,L6]at this
 rw[B5,B0]
 exact this
end L2


namespace L2
open PySem PySem.W PySem.Spec PyProof.Rows
section
variable{prog:Program}{w:World}{A:Around}{E:Value→Shared→Prop}{s:Shared}{b:Bool}
def pQ(prog:Program)(w:World)(b:Bool)(h:Heap)(a:Addr)(S:Int→Bool)(n:Nat)(P:SetTable→Prop):Prop:=
 ∃o es ep t,h.get? a=some o∧o.ExactSet∧o.data=.set es ep t∧ElemsOf (intKind prog w) es.toList∧(∀k,S k=true↔∃e∈es.toList,(intKind prog w).is k e.2=true)∧es.size<scanBound∧t.fits es.size=true∧es.size=n∧Led b t∧P t
def Vx(S:Int→Bool):Prop:=∀k,S k=true→0≤k∧k<1024
theorem Vy{es:Array (Int×Value)}{order:Array Nat}(h:order.toList.Perm (D3 es.size)):(order.filterMap (es[·]?)).toList.Perm es.toList:=by
 rw[Array.toList_filterMap]
 refine(h.filterMap _).trans (List.Perm.of_eq ?_)
 apply N1
 intro i
 have e:∀(n:Nat),n≤es.size→(D3 n).filterMap (λx=>es[x]?)=es.toList.take n:=λn=>by
  induction n with
  | zero=>intro _;rfl
  | succ n ih=>
   intro hn
   rw[List.range_succ,List.filterMap_append,ih (by omega),P2]
   congr 1
   rw[G5,F2]
   cases es[n]?<;>rfl
 rw[e es.size (A9 _),N4 (by rw[C9];exact A9 _)]
theorem An{S:Int→Bool}{es:Array (Int×Value)}(hel:ElemsOf (intKind prog w) es.toList)(hm:∀k,S k=true↔∃e∈es.toList,(intKind prog w).is k e.2=true)(hf:Vx S):∀h∈(es.map (·.1)).toList,0≤h∧h<1024:=λh hh=>by
 rw[Array.toList_map]at hh
 obtain⟨e,he,rfl⟩:=G0.mp hh
 obtain⟨⟨k,hk,hhash⟩,_⟩:=hel e he
 obtain⟨h0,h1⟩:=hf k ((hm k).mpr ⟨e,he,hk⟩)
 have:e.1=hashInt k:=hhash
 rw[this]
 have e:rawHash k=k:=by
  obtain⟨n,rfl⟩:∃n:Nat,k=n:=⟨k.toNat,by omega⟩
  unfold rawHash
  dsimp only
  rw[if_neg (show ¬((n:Int)<0) by omega),Int.natAbs_natCast,U5 (by omega) (by omega),if_neg (by simpa using (by omega:(n:Int)≠-1))]
 unfold hashInt
 rw[e,if_neg (by simpa using (by omega:k≠-1))]
 exact⟨h0,h1⟩
theorem Ud{a:Addr}{S:Int→Bool}{n wanted:Nat}{P:SetTable→Prop}{Q:Unit→Shared→Prop}(hS:pQ prog w b s.heap a S n P)(hf:Vx S)(hw:wanted<512)(hn:n≤SetTable.sizeAbove wanted-1)
  (h:∀h',Heap.SameBut a s.heap h'→pQ prog w b h' a S n (λt=>t.mask=SetTable.sizeAbove wanted-1∧t.dummies=#[])→Q () {s with heap:=h'}):wpAny (model prog w) A (setRelay a wanted) Q E s:=by
 obtain⟨o,es,ep,t,ho,hex,hd,hel,hm,hb,hfi,hz,hl,hP⟩:=hS
 unfold setRelay
 refine wpAny_bind (wpAny_setState_of ho hd hfi ?_)
 dsimp only
 have hge:=Al wanted hw
 have hle:SetTable.sizeAbove wanted≤512:=by rcases Ak wanted hw with e | e | e | e | e | e | e<;>rw[e]<;>decide
 rw[if_neg (by rw[sizeLine_eq];omega)]
 have KC:Full (SetTable.sizeAbove wanted-1+1):=by
  rw[show SetTable.sizeAbove wanted-1+1=SetTable.sizeAbove wanted by omega]
  exact rY hw
 obtain⟨t',order,e1,e2,e3,e4,e5,e6,e7,e8⟩:=Gk (f:=t.finger) (mv:=t.movedTo (SetTable.sizeAbove wanted-1)) (led:=t.led) (plain:=t.plain) KC (hs:=es.map (·.1)) (by rw[O2,hz];exact hn) (An hel hm hf)
 rw[O2]at e2 e4
 have RG:t.relaid (Array.map (λx=>x.1) es) wanted=some (t',order):=e1
 rw[RG]
 have hp:=Vy e2
 have hsz:(order.filterMap (es[·]?)).size=es.size:=by
  have:=hp.length_eq
  rw[C9,C9]at this
  exact this
 refine wpAny_bind ?_
 show wpAny (model prog w) A (if((order.filterMap (es[·]?)).size != es.size)=true then(do unsupported "internal:set-table-lost-an-element"; pure (order.filterMap (es[·]?),t'))else pure (order.filterMap (es[·]?),t')) _ _ _
 rw[if_neg (by rw[hsz];simp)]
 refine wpAny_pure (wpAny_storeSet_of ho hd ?_ (by rw[hsz];exact fits_of_scanBound hb))
 have hfit:t'.fits (order.filterMap (es[·]?)).size=true:=by
  unfold SetTable.fits SetTable.fill
  rw[hsz,e4,e5,e3,D6]
  exact⟨beq_self_eq_true _,decide_eq_true (by show es.size+0≤_;omega)⟩
 have sb:=Heap.SameBut.update s.heap a (Obj.putSet (order.filterMap (es[·]?)) t')
 have g1:=(SetOf_store (knd:=intKind prog w) (S':=S) ho hex hd (hel.perm hp) (λk=>(hm k).trans ⟨λ⟨e,he,q⟩=>⟨e,hp.mem_iff.mpr he,q⟩,λ⟨e,he,q⟩=>⟨e,hp.mem_iff.mp he,q⟩⟩) (by rw[hsz];exact hb) hfit).1
 refine h _ sb ⟨_,_,ep+1,t',g1,hex,rfl,hel.perm hp,λk=>(hm k).trans ⟨λ⟨e,he,q⟩=>⟨e,hp.mem_iff.mpr he,q⟩,λ⟨e,he,q⟩=>⟨e,hp.mem_iff.mp he,q⟩⟩,by rw[hsz];exact hb,hfit,hsz.trans hz,⟨e6.trans hl.1,λ_=>⟨e8,e5⟩⟩,e3,e5⟩
theorem pQ.imp{h:Heap}{a:Addr}{S:Int→Bool}{n:Nat}{P P':SetTable→Prop}(x:pQ prog w b h a S n P)(k:∀t,P t→P' t):pQ prog w b h a S n P':=
 let ⟨o,es,ep,t,h1,h2,h3,h4,h5,h6,h7,h8,h9,h10⟩:=x;⟨o,es,ep,t,h1,h2,h3,h4,h5,h6,h7,h8,h9,k t h10⟩
theorem pQ.toL{h:Heap}{a:Addr}{S:Int→Bool}{n:Nat}{P:SetTable→Prop}(x:pQ prog w b h a S n P):dG prog w b h a S n:=
 let ⟨o,es,ep,t,h1,h2,h3,h4,h5,h6,h7,h8,h9,_⟩:=x;⟨o,es,ep,t,h1,h2,h3,h4,h5,h6,h7,h8,h9⟩
theorem Zu{a:Addr}{S:Int→Bool}{n more:Nat}{Q:Unit→Shared→Prop}(hS:pQ prog w b s.heap a S n λt=>n=0→t.mask=7∧t.dummies=#[])(hf:Vx S)(hn:n+more≤250)
  (h:∀h',Heap.SameBut a s.heap h'→pQ prog w b h' a S n (λt=>n=0→Full (t.mask+1)∧more≤t.mask∧t.dummies=#[])→Q () {s with heap:=h'}):wpAny (model prog w) A (setRoomFor a more) Q E s:=by
 have hS':=hS
 obtain⟨o,es,ep,t,ho,hex,hd,hel,hm,hb,hfi,hz,hl,hP⟩:=hS
 unfold setRoomFor
 refine wpAny_bind (wpAny_setState_of ho hd hfi ?_)
 dsimp only
 have hpl:t.place.size=n:=by
  unfold SetTable.fits at hfi
  rw[D6]at hfi
  rw[←hz]
  exact beq_iff_eq.mp hfi.1
 by_cases c:(t.fill+more)*5≥t.mask*3
 ·have e:t.roomFor more=some ((n+more)*2):=by
   unfold SetTable.roomFor
   rw[if_pos c,hpl]
  rw[e]
  have hgt:=Al ((n+more)*2) (by omega)
  refine Ud (wanted:=(n+more)*2) hS' hf (by omega) (by omega) λh' sb x=>h h' sb (x.imp λt' ht _=>?_)
  rw[ht.1]
  refine⟨?_,by omega,ht.2⟩
  rw[show SetTable.sizeAbove ((n+more)*2)-1+1=SetTable.sizeAbove ((n+more)*2) by omega]
  exact rY (by omega)
 ·have e:t.roomFor more=none:=by
   unfold SetTable.roomFor
   rw[if_neg c]
  rw[e]
  refine wpAny_pure (h s.heap (Heap.SameBut.refl _ _) ⟨o,es,ep,t,ho,hex,hd,hel,hm,hb,hfi,hz,hl,λhn0=>?_⟩)
  obtain⟨m7,d0⟩:=hP hn0
  rw[m7]
  refine⟨Vw,?_,d0⟩
  rw[m7]at c
  unfold SetTable.fill at c
  omega
theorem pA{body:Int×Value→Option Bool×Unit→Sem (ForInStep (Option Bool×Unit))}(hb:∀(x:Int×Value)(k:Int)(tk:Tok),x.2=.int k tk→body x (none,())=pure (ForInStep.yield (none,()))):∀(l:List (Int×Value))(Q:Option Bool×Unit→Shared→Prop),(∀x∈l,∃k tk,x.2=Value.int k tk)→Q (none,()) s→wpAny (model prog w) A (forIn l (none,()) body) Q E s
 | [],Q,_,h=>by rw[T0];exact wpAny_pure h
 | x::l,Q,hx,h=>by
  obtain⟨k,tk,e⟩:=hx x B7
  rw[N8,hb x k tk e]
  refine wpAny_bind (wpAny_pure ?_)
  exact pA hb l Q (λy hy=>hx y (B4 _ hy)) h
theorem vI{l:List (Int×Value)}(h:ElemsOf (intKind prog w) l):∀x∈l,∃k tk,x.2=Value.int k tk:=λx hx=>by
 obtain⟨⟨k,hk,_⟩,_⟩:=h x hx
 obtain⟨t,e⟩:=Value.isInt_shape hk
 exact⟨k,t,e⟩
theorem Jb{a r:Addr}{oa or':Obj}{ea er:Array (Int×Value)}{pa pr:Nat}{ta tr:SetTable}{Q:Bool→Shared→Prop}(ha:s.heap.get? a=some oa)(hda:oa.data=.set ea pa ta)(hfa:ta.fits ea.size=true)(Vz:ElemsOf (intKind prog w) ea.toList)
  (hr:s.heap.get? r=some or') (hdr:or'.data=.set er pr tr) (hfr:tr.fits er.size=true) (CW:ElemsOf (intKind prog w) er.toList) (h:Q true s):wpAny (model prog w) A (setsQuiet [a,r]) Q E s:=by
 unfold setsQuiet setEntries
 simp only[N8,T0]
 refine wpAny_bind (wpAny_bind (wpAny_bind (wpAny_bind (wpAny_setState_of ha hda hfa (wpAny_pure ?_)))))
 dsimp only
 refine wpAny_bind ?_
 rw[←O5]
 refine pA (λx k tk e=>by rw[e]) _ _ (vI Vz) ?_
 dsimp only
 refine wpAny_pure ?_
 dsimp only
 refine wpAny_bind (wpAny_bind (wpAny_bind (wpAny_setState_of hr hdr hfr (wpAny_pure ?_))))
 dsimp only
 refine wpAny_bind ?_
 rw[←O5]
 refine pA (λx k tk e=>by rw[e]) _ _ (vI CW) ?_
 dsimp only
 refine wpAny_pure (wpAny_pure ?_)
 dsimp only
 exact wpAny_pure h
theorem Nq{a r:Addr}{S:Int→Bool}{n:Nat}{oa:Obj}{es:Array (Int×Value)}{ep:Nat}{t:SetTable}{Q:Array (Int×Value)→Shared→Prop}(ne:r≠a)(ha:s.heap.get? a=some oa)(hda:oa.data=.set es ep t)(hfa:t.fits es.size=true)(Vz:ElemsOf (intKind prog w) es.toList)(hla:Led (bI w) t)
  (hR:dG prog w (bI w) s.heap r S n)
  (h:∀arr dr h',arr.toList.Perm es.toList→Heap.SameBut r s.heap h'→dG prog w (bI w) h' r S n→Q arr {s with heap:=h',drawn:=dr}):wpAny (model prog w) A (setWalkUnseen a [r] (some r)) Q E s:=by
 have hR':=hR
 obtain⟨or',er,pr,tr,hr,Dq,hdr,CW,hmr,hbr,hfr,KD,hlr⟩:=hR
 have walk:wpAny (model prog w) A (setWalk a) Q E s:=by
  unfold setWalk setsByText
  refine wpAny_bind (wpAny_setState_of ha hda hfa ?_)
  dsimp only
  refine wpAny_bind (wpAny_bind (wpAny_askSetting (wpAny_pure ?_)))
  dsimp only
  by_cases ft:w.params.followText "set-order" = true
  ·rw[show (model prog w).w.params.followText "set-order" = true from ft,if_pos rfl]
   exact wpAny_bind (wpAny_askSetting (wpAny_pure (h _ s.drawn s.heap (vG _ _) (Heap.SameBut.refl _ _) hR')))
  ·have YT:w.params.followText "set-order" = false:=by simpa using ft
   have TV:t.led=true:=by rw[hla.1];unfold bI;rw[YT];rfl
   rw[show (model prog w).w.params.followText "set-order" = false from YT,if_neg C7]
   by_cases c:(!t.plain&&decide (es.size > 1))=true
   ·show wpAny (model prog w) A (if(!t.plain&&decide (es.size > 1))=true then(drawOrder es.size es.toList >>= λx=>pure x.toArray)else((if(!t.led&&decide (es.size > 1))=true then unsupported "set:maker-not-led" else pure ()) >>= λ_=>pure es)) Q E s
    rw[if_pos c]
    refine wpAny_bind (oZ es.size es.toList s _ (C9 ..) λys dr pm=>wpAny_pure ?_)
    exact h _ dr s.heap (by simpa using pm) (Heap.SameBut.refl _ _) hR'
   ·show wpAny (model prog w) A (if(!t.plain&&decide (es.size > 1))=true then(drawOrder es.size es.toList >>= λx=>pure x.toArray)else((if(!t.led&&decide (es.size > 1))=true then unsupported "set:maker-not-led" else pure ()) >>= λ_=>pure es)) Q E s
    rw[if_neg c,TV,if_neg (by simp)]
    exact wpAny_bind (wpAny_pure (wpAny_pure (h es s.drawn s.heap (J9 _) (Heap.SameBut.refl _ _) hR')))
 unfold setWalkUnseen setsByText
 refine wpAny_bind (wpAny_setState_of ha hda hfa ?_)
 dsimp only
 refine wpAny_bind (wpAny_bind (wpAny_askSetting (wpAny_pure ?_)))
 dsimp only
 by_cases c:((model prog w).w.params.followText "set-order" || (t.led&&t.plain)||decide (es.size≤1))=true
 ·rw[if_pos c]
  exact walk
 ·rw[if_neg c]
  refine wpAny_bind (Jb ha hda hfa Vz hr hdr hfr CW ?_)
  rw[if_neg (by simp)]
  refine wpAny_bind (wpAny_rule ?_)
  refine wpAny_bind (wpAny_setState_of hr hdr hfr ?_)
  dsimp only
  split
  ·refine wpAny_bind (wpAny_storeSet_of hr hdr ?_ (fits_of_scanBound hbr))
   have hfit:({tr with led:=tr.led&&t.led,plain:=tr.plain&&t.plain}:SetTable).fits er.size=true:=by cases tr;exact hfr
   have sb:=Heap.SameBut.update s.heap r (Obj.putSet er {tr with led:=tr.led&&t.led,plain:=tr.plain&&t.plain})
   obtain⟨_,x⟩:=Mx (prog:=prog) (w:=w) (b:=bI w) (S':=S) hr Dq hdr CW hmr hbr hfit ⟨by show (tr.led&&t.led)=_;rw[hlr.1,hla.1,T4],λq=>hlr.2 (by have:(tr.plain&&t.plain)=true:=q;rw[D6]at this;exact this.1)⟩
   rw[KD]at x
   exact wpAny_pure (h es s.drawn _ (J9 _) sb x)
  ·exact wpAny_bind (wpAny_pure (wpAny_pure (h es s.drawn s.heap (J9 _) (Heap.SameBut.refl _ _) hR')))
def Jr(S:Int→Bool)(n:Nat):Prop:=∃L:List Int,L.Nodup∧L.length=n∧∀k,S k=true↔k∈L
theorem Jr.add{S:Int→Bool}{n:Nat}(h:Jr S n)(k:Int):Jr (λj=>S j||decide (j=k)) (if S k then n else n+1):=by
 obtain⟨L,h1,h2,h3⟩:=h
 by_cases c:S k=true
 ·rw[if_pos c]
  refine⟨L,h1,h2,λj=>?_⟩
  rw[M7,decide_eq_true_iff,←h3]
  exact⟨λz=>z.elim id λz=>by rw[z];exact c,.inl⟩
 ·rw[if_neg c]
  refine⟨L++[k],?_,by rw[D1,h2];rfl,λj=>?_⟩
  ·rw[N2]
   exact⟨h1,E5.mpr ⟨L3,L8⟩,λa ha b hb z=>c ((h3 k).mpr (by rw[←B9.mp hb,←z];exact ha))⟩
  ·rw[M7,decide_eq_true_iff,D4,B9,h3]
theorem Ao{r o:Addr}{oo:Obj}{es:Array (Int×Value)}{ep:Nat}{t:SetTable}{each:Sem Unit}(ne:r≠o)(hd:oo.data=.set es ep t)(hfi:t.fits es.size=true)
    (Gm:∀(s1:Shared),s1.heap.get? o=some oo→∀(Q:Unit→Shared→Prop),Q () s1→wpAny (model prog w) A each Q E s1) :
    ∀(l:List (Int×Value))(s:Shared)(S:Int→Bool)(n:Nat)(Q:PUnit→Shared→Prop),ElemsOf (intKind prog w) l→s.heap.get? o=some oo→dG prog w (bI w) s.heap r S n→Jr S n→n+l.length<4000 →
      (∀h' Nr Jc,Heap.SameBut r s.heap h'→dG prog w (bI w) h' r Nr Jc→Jr Nr Jc→(∀k,Nr k=true↔S k=true∨∃e∈l,(intKind prog w).is k e.2=true)→n≤Jc→Jc≤n+l.length→Q PUnit.unit {s with heap:=h'}) →
      wpAny (model prog w) A (forIn l PUnit.unit λx __s=>do
              let _ ←holding [x.snd] (setAddHashed r x.snd x.fst)
              each
              let __do_lift ←setState o
              if(__do_lift.snd.fst != ep)=true then do
                  unsupported "set.changed-during-merge"
                  pure (ForInStep.yield PUnit.unit)
                else pure (ForInStep.yield PUnit.unit)) Q E s
  | [],s,S,n,Q,_,_,hS,hcn,_,h=>by
    rw[T0]
    exact wpAny_pure (h s.heap S n (Heap.SameBut.refl _ _) hS hcn (λk=>⟨.inl,λz=>z.elim id λ⟨e,he,_⟩=>by cases he⟩) (A9 _) (A9 _))
  | x::l,s,S,n,Q,hel,ho,hS,hcn,hn,h=>by
    rw[D7]at hn
    rw[N8]
    obtain⟨⟨k,hk,hh⟩,_⟩:=hel.head
    obtain⟨tk,e⟩:=Value.isInt_shape hk
    obtain⟨x1,x2⟩:=x
    have e:x2=.int k tk:=e
    have hh:x1=(intKind prog w).hash k:=hh
    subst e hh
    refine wpAny_bind (wpAny_bind (wpAny_holding (Vs hS (by unfold scanBound;omega) λh' sb S1=>?_)))
    have ho1:h'.get? o=some oo:=(sb.2 o (Ne.symm ne)).trans ho
    refine wpAny_bind (Gm {s with heap:=h'} ho1 _ ?_)
    refine wpAny_bind (wpAny_setState_of ho1 hd hfi ?_)
    dsimp only
    rw[if_neg (by simp)]
    refine wpAny_pure ?_
    dsimp only
    have hn1:(if S k=true then n else n+1)≤n+1:=by split<;>omega
    have hn2:n≤(if S k=true then n else n+1):=by split<;>omega
    refine Ao ne hd hfi Gm l {s with heap:=h'} _ _ Q hel.tail ho1 S1 (hcn.add k) (by omega) λh2 S2 n2 CZ x2 y2 q2 m1 m2=>h h2 S2 n2 (sb.trans CZ) x2 y2 (λj=>?_) (by omega) (by rw[D7];omega)
    rw[q2,M7,decide_eq_true_iff]
    constructor
    · rintro((z | rfl) | ⟨e,he,q⟩)
      · exact .inl z
      · exact .inr ⟨_,B7,hk⟩
      · exact .inr ⟨e,B4 _ he,q⟩
    · rintro(z | ⟨e,he,q⟩)
      · exact .inl (.inl z)
      · rcases B6.mp he with rfl | he
        · exact .inl (.inr ((intKind prog w).inj _ _ _ q hk))
        · exact .inr ⟨e,he,q⟩
theorem Gn{r o:Addr}{S S':Int→Bool}{n n':Nat}{each:Sem Unit}{Q:Unit→Shared→Prop}(ne:r≠o)(hR:pQ prog w (bI w) s.heap r S n λt=>n=0→t.mask=7∧t.dummies=#[])(hO:dG prog w (bI w) s.heap o S' n')(hf:Vx S)(hf':Vx S')(hcS:Jr S n)(hcS':Jr S' n')(hn:n+n'≤250)
  (Gm:∀(s1:Shared),s1.heap.get? o=s.heap.get? o→∀(Q:Unit→Shared→Prop),Q () s1→wpAny (model prog w) A each Q E s1)
  (h:∀h' dr Nr Jc,Heap.SameBut r s.heap h'→pQ prog w (bI w) h' r Nr Jc (λt=>Jc=0→t.mask=7∧t.dummies=#[])→Jr Nr Jc→(∀k,Nr k=true↔S k=true∨S' k=true)→Jc≤n+n'→Q () {s with heap:=h',drawn:=dr}):wpAny (model prog w) A (setMerge r o each) Q E s:=by
 obtain⟨oo,es,ep,t,ho,hex,hd,hel,hm,hb,hfi,hz,hl⟩:=hO
 unfold setMerge
 rw[if_neg (by simpa using ne)]
 refine wpAny_bind (wpAny_setState_of ho hd hfi ?_)
 dsimp only
 by_cases c0:es.isEmpty=true
 ·rw[if_pos c0]
  have e0:es.toList=[]:=by
   have:es=#[]:=by simpa using c0
   rw[this]
  refine wpAny_pure (h s.heap s.drawn S n (Heap.SameBut.refl _ _) hR hcS (λk=>⟨.inl,λz=>z.elim id λz=>?_⟩) (by omega))
  obtain⟨e,he,_⟩:=(hm k).mp z
  rw[e0]at he
  cases he
 rw[if_neg c0]
 have hpos:0<n':=by
  rw[←hz]
  rcases U1 es.size with z | z
  ·exact absurd (by simpa using z) c0
  ·exact z
 refine wpAny_bind (Zu (more:=es.size) hR hf (by omega) λh1 DG R1=>?_)
 have ho1:h1.get? o=some oo:=(DG.2 o (Ne.symm ne)).trans ho
 obtain⟨or',er,pr,tr,hr,Dq,hdr,CW,hmr,hbr,hfr,KD,hlr,ie⟩:=R1
 have hpl:tr.place.size=n:=by
  have z:=hfr
  unfold SetTable.fits at z
  rw[D6]at z
  rw[←KD]
  exact beq_iff_eq.mp z.1
 have ig:t.place.size=n':=by
  have z:=hfi
  unfold SetTable.fits at z
  rw[D6]at z
  rw[←hz]
  exact beq_iff_eq.mp z.1
 refine wpAny_bind (wpAny_setState_of hr hdr hfr ?_)
 dsimp only
 by_cases c1:n=0
 ·obtain⟨hF,hmo,hdm⟩:=ie c1
  have hemp:∀k,S k=true→False:=λk z=>by
   obtain⟨e,he,_⟩:=(hmr k).mp z
   have:er.toList=[]:=F9 (by rw[C9,KD,c1])
   rw[this]at he
   cases he
  have hor:∀k,S' k=true↔S k=true∨S' k=true:=λk=>⟨.inr,λz=>z.elim (λz=>(hemp k z).elim) id⟩
  have hfill:(tr.fill != 0)=false:=by
   unfold SetTable.fill
   rw[hpl,hdm,c1]
   rfl
  by_cases c2:(tr.mask==t.mask&&t.dummies.isEmpty)=true
  ·have hroad:tr.road t=.slotForSlot:=by
    unfold SetTable.road
    rw[hfill,if_neg C7,if_pos c2]
   rw[hroad]
   dsimp only
   refine wpAny_storeSet_of hr hdr ?_ (fits_of_scanBound hb)
   have hfit:({t with finger:=tr.finger,led:=tr.led&&t.led,moves:=tr.moves,plain:=tr.plain&&t.plain}:SetTable).fits es.size=true:=by cases t;exact hfi
   have g1:=(SetOf_store (knd:=intKind prog w) (S':=S') hr Dq hdr hel hm hb hfit).1
   refine h _ s.drawn S' n' (DG.trans (Heap.SameBut.update h1 r _)) ⟨_,es,pr+1,_,g1,Dq,rfl,hel,hm,hb,hfit,hz,⟨by show (tr.led&&t.led)=_;rw[hlr.1,hl.1,T4],λq=>hl.2 (by have:(tr.plain&&t.plain)=true:=q;rw[D6]at this;exact this.2)⟩,λz=>absurd z (by omega)⟩ hcS' hor (by omega)
  ·have hroad:tr.road t=.clean:=by
    unfold SetTable.road
    rw[hfill,if_neg C7,if_neg c2]
   rw[hroad]
   dsimp only
   obtain⟨t',order,e1,e2,e3,e4,e5,e6,e7,e8⟩:=Gk (f:=tr.finger) (mv:=tr.moves) (led:=tr.led&&t.led) (plain:=tr.plain&&t.plain) hF (hs:=es.map (·.1)) (by rw[O2];exact hmo) (An hel hm hf')
   rw[O2]at e2 e4
   rw[e1]
   have hp:=Vy e2
   have hsz:(order.filterMap (es[·]?)).size=es.size:=by
    have:=hp.length_eq
    rw[C9,C9]at this
    exact this
   refine wpAny_bind ?_
   show wpAny (model prog w) A (if((order.filterMap (es[·]?)).size != es.size)=true then(do unsupported "internal:set-table-lost-an-element"; pure (order.filterMap (es[·]?),t'))else pure (order.filterMap (es[·]?),t')) _ _ _
   rw[if_neg (by rw[hsz];simp)]
   refine wpAny_pure (wpAny_storeSet_of hr hdr ?_ (by rw[hsz];exact fits_of_scanBound hb))
   have hfit:t'.fits (order.filterMap (es[·]?)).size=true:=by
    unfold SetTable.fits SetTable.fill
    rw[hsz,e4,e5,e3,D6]
    exact⟨beq_self_eq_true _,decide_eq_true (by show es.size+0≤_;omega)⟩
   have hm':∀k,S' k=true↔∃e∈(order.filterMap (es[·]?)).toList,(intKind prog w).is k e.2=true:=λk=>(hm k).trans ⟨λ⟨e,he,q⟩=>⟨e,hp.mem_iff.mpr he,q⟩,λ⟨e,he,q⟩=>⟨e,hp.mem_iff.mp he,q⟩⟩
   have g1:=(SetOf_store (knd:=intKind prog w) (S':=S') hr Dq hdr (hel.perm hp) hm' (by rw[hsz];exact hb) hfit).1
   exact h _ s.drawn S' n' (DG.trans (Heap.SameBut.update h1 r _)) ⟨_,_,pr+1,t',g1,Dq,rfl,hel.perm hp,hm',by rw[hsz];exact hb,hfit,hsz.trans hz,⟨by rw[e6,hlr.1,hl.1,T4],λ_=>⟨e8,e5⟩⟩,λz=>absurd z (by omega)⟩ hcS' hor (by omega)
 ·have hroad:tr.road t=.oneByOne:=by
   unfold SetTable.road
   rw[if_pos]
   unfold SetTable.fill
   rw[hpl]
   have:n+tr.dummies.size≠0:=by omega
   simpa using this
  rw[hroad]
  dsimp only
  refine wpAny_bind (Nq ne ho1 hd hfi hel hl ⟨or',er,pr,tr,hr,Dq,hdr,CW,hmr,hbr,hfr,KD,hlr⟩ λarr dr h2 pm CZ R2=>?_)
  have ho2:h2.get? o=some oo:=(CZ.2 o (Ne.symm ne)).trans ho1
  refine wpAny_bind ?_
  rw[←O5]
  have hlen:arr.toList.length=n':=by rw[pm.length_eq,C9,hz]
  refine Ao (s:={s with heap:=h2,drawn:=dr}) ne hd hfi (λs1 q Q' hq=>Gm s1 (q.trans ho.symm) Q' hq) arr.toList S n _ (hel.perm pm) ho2 R2 hcS (by omega) λh3 S3 n3 il R3 c3 q3 m1 m2=>?_
  obtain⟨o3,e3,p3,t3,y1,y2,y3,y4,y5,y6,y7,y8,y9⟩:=R3
  refine wpAny_pure (h h3 dr S3 n3 (DG.trans (CZ.trans il)) ⟨o3,e3,p3,t3,y1,y2,y3,y4,y5,y6,y7,y8,y9,λz=>absurd z (by omega)⟩ c3 (λk=>?_) (by omega))
  rw[q3]
  refine or_congr_right ?_
  rw[hm]
  exact⟨λ⟨e,he,q⟩=>⟨e,pm.mem_iff.mp he,q⟩,λ⟨e,he,q⟩=>⟨e,pm.mem_iff.mpr he,q⟩⟩
end
end L2


namespace L2
open PySem PySem.W PySem.Spec PyProof.Rows
theorem Nt:entryFor table "set.__or__" = some Builtin.«frozenset.__or__»:=entryFor_alias (id' := "frozenset.__or__") (by kernel_rfl) rfl (by decide +kernel) (by kernel_rfl)
section
variable{prog:Program}{w:World}{A:Around}{E:Value→Shared→Prop}{s:Shared}
theorem TX{a o:Addr}{S S':Int→Bool}{n n':Nat}{Q:PySem.Fin→Shared→Prop}(hA:dG prog w (bI w) s.heap a S n)(hO:dG prog w (bI w) s.heap o S' n')(ne:a≠o)(hf:Vx S)(hf':Vx S')(hcS:Jr S n)(hcS':Jr S' n')(hn:n+n'≤250)
  (h:∀h' dr tk Nr Jc,(∀b ob,s.heap.get? b=some ob→h'.get? b=some ob)→dG prog w (bI w) h' s.heap.objs.size Nr Jc→Jr Nr Jc→(∀k,Nr k=true↔S k=true∨S' k=true)→Jc≤n+n'→Q (.done (.ret (.ref s.heap.objs.size))) {s with heap:=h',drawn:=dr,toks:=tk}) :
  wpAny (model prog w) A (Builtin.«frozenset.__or__» ⟨[.ref a,.ref o],[]⟩) Q E s:=by
 have hA':=hA
 have ir:=hO
 obtain⟨oa,ea,pa,ta,ha,TY,hda,iu,hma,hba,hfa,ql,hla⟩:=hA
 obtain⟨oo,eo,po,to,ho,KH,hdo,iw,hmo,hbo,hfo,qm,hlo⟩:=hO
 have tA:s.TypeIs (.ref a) "set" := ⟨oa,ha,TY.1⟩
 have tO:s.TypeIs (.ref o) "set" := ⟨oo,ho,KH.1⟩
 unfold Builtin.«frozenset.__or__»
 show wpAny (model prog w) A (do
  let (self,other) ←Builtin.Frozenset.slot1 "__or__" ⟨[.ref a,.ref o],[]⟩
  let (l,r):=(self,other)
  if !(←Builtin.Frozenset.isAnySet l <&&> Builtin.Frozenset.isAnySet r)then rule s!"frozenset.__or__.declined"; return ←ret .notImplemented
  ret (←(do
   let result ←Builtin.Frozenset.copyOf (←Builtin.Frozenset.addrOf l)
   if r != Value.ref (←Builtin.Frozenset.addrOf l)then holding [result] (Builtin.Frozenset.updateFrom "frozenset.__or__" (←Builtin.Frozenset.addrOf result) r)
   return result))) Q E s
 refine wpAny_bind (show wpAny _ _ (pure (Value.ref a,Value.ref o)) _ _ _ from wpAny_pure ?_)
 dsimp only
 unfold Builtin.Frozenset.isAnySet
 have Ue:isSubtype (.type "set") (.type "set")=pure true:=by rw[isSubtype_type];kernel_rfl
 refine wpAny_bind (wpAny_bind (wpAny_bind (wpAny_isInstance tA Ue ?_)))
 show wpAny _ _ (pure true) _ _ _
 refine wpAny_pure ?_
 refine wpAny_bind (wpAny_isInstance tO Ue ?_)
 show wpAny _ _ (pure true) _ _ _
 refine wpAny_pure ?_
 rw[if_neg (by decide)]
 refine wpAny_bind ?_
 show wpAny _ _ (Builtin.Frozenset.copyOf a >>= λresult=>if(Value.ref o != Value.ref a)=true then(Builtin.Frozenset.addrOf result >>= λx=>holding [result] (Builtin.Frozenset.updateFrom "frozenset.__or__" x (.ref o)) >>= λ_=>pure result)else pure result) _ _ _
 unfold Builtin.Frozenset.copyOf Builtin.Frozenset.baseOf newSet setsByText
 refine wpAny_bind (wpAny_bind (wpAny_bind (wpAny_isInstance tA Ue ?_)))
 rw[if_pos rfl]
 refine wpAny_pure ?_
 refine wpAny_bind (wpAny_bind (wpAny_bind (wpAny_askSetting (wpAny_pure ?_))))
 dsimp only
 refine wpAny_newObj_type ?_
 refine wpAny_bind (show wpAny _ _ (pure s.heap.objs.size) _ _ _ from wpAny_pure ?_)
 have g0:(s.heap.push (cN (bI w))).get? s.heap.objs.size=some (cN (bI w)):=Heap.get?_push_size _ rfl
 have iy:a<s.heap.objs.size:=Heap.lt_size ha
 have iz:o<s.heap.objs.size:=Heap.lt_size ho
 have R0:pQ prog w (bI w) (s.heap.push (cN (bI w))) s.heap.objs.size (λ_=>false) 0 λt=>0=0→t.mask=7∧t.dummies=#[]:=⟨_,#[],0,_,g0,⟨rfl,rfl,rfl⟩,rfl,λx hx=>(by simp at hx),λk=>(by simp),by decide,rfl,rfl,Led.fresh _,λ_=>⟨rfl,rfl⟩⟩
 have jb:dG prog w (bI w) (s.heap.push (cN (bI w))) a S n:=hA'.at_ λob e=>Heap.get?_push_of_some _ e
 refine wpAny_bind (Gn (s:={s with heap:=s.heap.push (cN (bI w))}) (J2 iy) R0 jb (λk z=>by cases z) hf ⟨[],L8,rfl,λk=>by simp⟩ hcS (by omega) (λs1 _ Q' q=>wpAny_pure q) λh1 YW S1 n1 DG R1 c1 q1 m1=>?_)
 refine wpAny_pure ?_
 have hne:(Value.ref o != Value.ref a)=true:=by simpa using (Ne.symm ne)
 rw[if_pos hne]
 refine wpAny_bind (show wpAny _ _ (pure s.heap.objs.size) _ _ _ from wpAny_pure ?_)
 have KJ:∀b ob,s.heap.get? b=some ob→h1.get? b=some ob:=λb ob e=>(DG.2 b (C6 (Heap.lt_size e))).trans (Heap.get?_push_of_some _ e)
 have ho1:h1.get? o=some oo:=KJ o oo ho
 refine wpAny_bind (wpAny_holding ?_)
 unfold Builtin.Frozenset.updateFrom Builtin.Frozenset.isAnySet
 refine wpAny_bind (wpAny_bind (wpAny_isInstance (show Shared.TypeIs {s with heap:=h1,drawn:=YW} (.ref o) "set" from⟨oo,ho1,KH.1⟩) Ue ?_))
 show wpAny _ _ (pure true) _ _ _
 refine wpAny_pure ?_
 rw[if_pos rfl]
 refine wpAny_bind (show wpAny _ _ (pure o) _ _ _ from wpAny_pure ?_)
 unfold Builtin.Frozenset.merge
 refine wpAny_bind (wpAny_setEpoch_of ho1 hdo hfo ?_)
 have jc:dG prog w (bI w) h1 o S' n':=ir.at_ λob e=>KJ o ob e
 have hf1:Vx S1:=λk z=>((q1 k).mp z).elim (λz=>by cases z) (hf k)
 refine Gn (s:={s with heap:=h1,drawn:=YW}) (J2 iz) R1 jc hf1 hf' c1 hcS' (by omega) (λs1 e1 Q' q=>?_) λh2 jd S2 n2 CZ R2 c2 q2 m2=>?_
 ·unfold Builtin.Frozenset.unchanged
  refine wpAny_bind (wpAny_setEpoch_of (e1.trans ho1) hdo hfo ?_)
  rw[if_neg (by simp)]
  exact wpAny_pure q
 ·refine wpAny_pure (wpAny_pure (h h2 jd s.toks S2 n2 (λb ob e=>?_) R2.toL c2 (λk=>?_) (by omega)))
  ·exact(CZ.2 b (C6 (Heap.lt_size e))).trans (KJ b ob e)
  ·rw[q2,q1]
   exact⟨λz=>z.elim (λz=>z.elim (λz=>by cases z) .inl) .inr,λz=>z.elim (λz=>.inl (.inr z)) .inr⟩
end
section
variable{X:Cx}{ea eb:Expr}{ta tb:TE}{x y:Str}{p p2 p3 pos pos2 Dr Ds:Pos}
def jO(ns:List Int):Bool:=decide (ns.length<64)&&ns.all λk=>decide (0≤k∧k<1024)
theorem vJ{ns:List Int}(h:jO ns=true):ns.length<64∧∀k∈ns,0≤k∧k<1024:=by
 unfold jO at h
 rw[D6,decide_eq_true_iff,G9]at h
 exact⟨h.1,λk hk=>of_decide_eq_true (h.2 k hk)⟩
theorem qC(ns:List Int)(k:Int):(firstMet (λi=>ns.getD i 0) ns.length).any (·==k)=true↔k∈ns:=by
 rw[firstMet_any]
 have e:(D3 ns.length).map (λi=>ns.getD i 0)=ns:=by
  refine P8 (by simp) λi h1 h2=>?_
  simp[D5,h2]
 rw[e,J7]
 exact⟨λ⟨x,hx,q⟩=>by rw[←(beq_iff_eq.mp q)];exact hx,λh=>⟨k,h,by simp⟩⟩
theorem Gp(ns:List Int):Jr (λk=>(firstMet (λi=>ns.getD i 0) ns.length).any (·==k)) (firstMet (λi=>ns.getD i 0) ns.length).length:=⟨_,jN _ _,rfl,λk=>by
 rw[J7]
 exact⟨λ⟨x,hx,q⟩=>by rw[←(beq_iff_eq.mp q)];exact hx,λh=>⟨k,h,by simp⟩⟩⟩
def KN(K:aA):V→V→Hp→VK→Prop:=λv v2 H Q=>∃(p p2:Addr)(ns ms:List Int),v=.ref p∧v2=.ref p2∧eN K H p (ns.map V.int)∧eN K H p2 (ms.map V.int)∧jO ns=true∧jO ms=true∧(Bv (ns++ms)).length<64∧∀l,H l=none→Q (.ref l) (upd H l (.lst ((Bv (ns++ms)).map V.int)))
def Wa(K:aA)(ta tb:TE):TE:=λσ H Q=>ta σ H λv H1=>(∃(p:Addr)(ns:List Int),v=.ref p∧eN K H1 p (ns.map V.int)∧jO ns=true∧tb σ H1 λv2 H2=>eN K H2 p (ns.map V.int)∧KN K v v2 H2 Q)
theorem pL:∀{l m:List Int},l.map V.int=m.map V.int→l=m
 | [],[],_=>rfl
 | [],b::m,h=>by cases h
 | a::l,[],h=>by cases h
 | a::l,b::m,h=>by
  rw[B8,B8]at h
  injection h with h1 h2
  injection h1 with h1
  rw[h1,pL h2]
theorem Ug(hc:X.calm=true)(ha:PE X ea ta)(hb:PE X eb tb)(hg:Gl X x)(hm:X.mg x=none)(hv:bootBuiltins x=some (.builtin "sorted")) (hg2:Gl X y) (hm2:X.mg y=none) (hv2:bootBuiltins y=some (.type "set")) (hn:x ≠ "__name__" := by decide) (hdb:(x==("__debug__" : Str))=false:=by decide) (hn2:y ≠ "__name__" := by decide) (Uh:(y==("__debug__" : Str))=false:=by decide)
  (Vz:starEach [ea] X.env=[(false,eval ea X.env)]:=by rfl) (PQ:starEach [eb] X.env=[(false,eval eb X.env)]:=by rfl)
  (he2:starEach [.BinOp (.Call (.Name y p2) [ea] [] pos2) .BitOr (.Call (.Name y p3) [eb] [] Dr) Ds] X.env=[(false,eval (.BinOp (.Call (.Name y p2) [ea] [] pos2) .BitOr (.Call (.Name y p3) [eb] [] Dr) Ds) X.env)]:=by rfl) :
  PE X (.Call (.Name x p) [.BinOp (.Call (.Name y p2) [ea] [] pos2) .BitOr (.Call (.Name y p3) [eb] [] Dr) Ds] [] pos) (Wa X.K ta tb):=by
 intro pins s σ H Q I h
 refine wpAny_Call_Name_kw (lW I hg hm hv ?_ hn hdb)
 refine N7 ?_ he2 rfl
 rw[he2]
 refine Calls.spliced_cons (wpAny_BinOp (wpAny_Call_Name_kw (lW I hg2 hm2 hv2 ?_ hn2 Uh)))
 refine G4 ?_ Vz rfl
 rw[Vz]
 refine Calls.spliced_cons (cD (ha pins s σ H _ I h) λu s1 ⟨v,H1,I1,r1,q1⟩=>Calls.spliced_nil ?_)
 obtain⟨pa,ns,rfl,je,hfa,q1⟩:=q1
 cases r1
 obtain⟨qp,jf⟩:=vJ hfa
 obtain⟨its,rv,pl,hz⟩:=I1.list je
 have hlen:=rv.length
 rw[B0]at hlen
 refine Vt (its:=its.toArray) (ns:=ns) (I1.ok.hd hc) pl.isList (by simpa using intsAre_of rv) (by rw[B5];unfold scanBound;omega) λh1 UG S1 KJ=>?_
 have ez:its.toArray.size=ns.length:=by simp[hlen]
 rw[ez]at S1
 have YX:Inv X pins σ H1 {s1 with heap:=h1,toks:=UG}:=I1.kept (t':=UG) KJ
 obtain⟨o1,es1,jg,t1,g1,ZC,d1,x1⟩:=S1
 have hfresh:H1 s1.heap.objs.size=none:=I1.hok.fresh (A9 _)
 have fp:=I1.Ka (A9 _) hfresh
 have I2:Inv X (pins++[(s1.heap.objs.size,o1)]) σ H1 {s1 with heap:=h1,toks:=UG}:=YX.vW λpp hp=>(D4.mp hp).elim (λz=>YX.pin pp (C5 _ z)) λz=>by
  rw[B9.mp z]
  exact⟨g1,fp.1,fp.2.1,fp.2.2.1,λv z=>by rw[d1]at z;cases z⟩
 refine wpAny_Call_Name_kw (lW I2 hg2 hm2 hv2 ?_ hn2 Uh)
 refine G4 ?_ PQ rfl
 rw[PQ]
 refine Calls.spliced_cons (cD (hb _ _ σ H1 _ I2 q1) λu2 s2 ⟨v2,H2,I3,r2,q2⟩=>Calls.spliced_nil ?_)
 obtain⟨UJ,qt,pb,ns',ms,e1,rfl,hq0,jh,_,ji,hup,q⟩:=q2
 cases e1
 cases r2
 obtain⟨qu,jj⟩:=vJ ji
 have Zv:=I3.pin (s1.heap.objs.size,o1) (C5 _ (C5 _ (B9.mpr rfl)))
 have ens:ns=ns':=by
  have:=I3.qI UJ hq0
  exact pL this
 subst ens
 obtain⟨its2,ZD,wR,hz2⟩:=I3.list jh
 have hlen2:=ZD.length
 rw[B0]at hlen2
 refine Vt (its:=its2.toArray) (ns:=ms) (I3.ok.hd hc) wR.isList (by simpa using intsAre_of ZD) (by rw[B5];unfold scanBound;omega) λh2 tk2 S2 UL=>?_
 have jk:its2.toArray.size=ms.length:=by simp[hlen2]
 rw[jk]at S2
 have I4:Inv X (pins++[(s1.heap.objs.size,o1)]) σ H2 {s2 with heap:=h2,toks:=tk2}:=I3.kept (t':=tk2) UL
 have jl:dG X.prog X.w (bI X.w) h2 s1.heap.objs.size (λk=>(firstMet (λi=>ns.getD i 0) ns.length).any (·==k)) (firstMet (λi=>ns.getD i 0) ns.length).length:=⟨o1,es1,jg,t1,UL _ _ Zv.1,ZC,d1,x1⟩
 have hl1:=firstMet_length_le (λi=>ns.getD i 0) ns.length
 have hl2:=firstMet_length_le (λi=>ms.getD i 0) ms.length
 have ne:s1.heap.objs.size≠s2.heap.objs.size:=C6 (Heap.lt_size Zv.1)
 have tA:Shared.TypeIs {s2 with heap:=h2,toks:=tk2} (.ref s1.heap.objs.size) "set" := ⟨o1,UL _ _ Zv.1,ZC.1⟩
 have tB:Shared.TypeIs {s2 with heap:=h2,toks:=tk2} (.ref s2.heap.objs.size) "set" := let ⟨o2,_,_,_,g2,jm,_⟩:=S2;⟨o2,g2,jm.1⟩
 refine wpAny_binaryOp_same (op:=.BitOr) (T := "set") tA tB PySem.F.fills_set_or T7 (wpAny_call_entry T7 tA Nt (TX (A:=X.A.in1) (s:={s2 with heap:=h2,toks:=tk2}) jl S2 ne (λk z=>jf k ((qC ns k).mp z)) (λk z=>jj k ((qC ms k).mp z)) (Gp ns) (Gp ms) (by omega) λh3 ZF tk3 S3 n3 jn R3 c3 q3 m3=>⟨_,rfl,?_⟩) (PySem.F.args_set_or_2 _ _))
 refine⟨(by intro z;cases z),?_⟩
 refine Calls.spliced_nil ?_
 have I5:Inv X pins σ H2 {s2 with heap:=h3,drawn:=ZF,toks:=tk3}:=((I4.iZ).kept (t':=tk3) jn).drew ZF
 obtain⟨L,UT,jo,UW⟩:=c3
 have ZG:Bv (ns++ms)=Bv L:=Dn (xX _) λk=>by
  rw[pZ,D4,←UW,q3,qC,qC]
 have qw:n3<64:=by
  have p1:L.Perm (Bv (ns++ms)):=sE UT ((xX _).imp λz=>Int.ne_of_lt z) λk=>by rw[ZG,pZ]
  rw[←jo,p1.length_eq]
  exact hup
 refine Calls.call_function_entry kind_sorted plain_sorted entry_sorted (args_sorted1 _) ?_
 unfold Builtin.«sorted»
 refine wpAny_bind (m:=checkCount "sorted" 1 1 _) (wpAny_pure (wpAny_bind (Ag (A:=X.A.in1) (I.ok.hd hc) R3 (K7 (gA (by omega))) λh4 dr VB acc jq od=>?_)))
 obtain⟨al,ks,ik,mk⟩:=od
 have hla:ks.length=acc.length:=(IntsAre.length ik).symm
 refine wpAny_bind (wpAny_newList ?_ (by rw[al];exact K7 (gA (by omega))))
 have hoL:(h4.push (seqObj "list" acc.toArray 0)).get? h4.objs.size=some (seqObj "list" acc.toArray 0):=Heap.get?_push_size _ rfl
 refine wpAny_bind (wpAny_holding (wpAny_call_entry slot_list_sort ⟨_,hoL,rfl⟩ entry_list_sort (list_sort_tree hoL ik (by omega) λout ns' a1 a2 a3=>⟨_,rfl,?_⟩) (args_list_sort _)))
 refine wpAny_pure ⟨_,rfl,?_⟩
 obtain⟨e,he⟩:=sortedHeap_at (out:=out) hoL
 have I6:Inv X pins σ H2 {s2 with heap:=h4,drawn:=dr,toks:=VB}:=(I5.kept (t':=VB) jq).drew dr
 have hs:H2 h4.objs.size=none:=I6.hok.fresh (A9 _)
 have hl2:ns'.length=ks.length:=a2.length_eq
 have hnd:ks.Nodup:=by
  have pp:=rW UT (m:=ks) (λx hx=>(mk x).mp ((UW x).mpr hx)) (by omega)
  exact pp.nodup_iff.mp UT
 have hres:ns'=Bv (ns++ms):=by
  rw[ZG]
  refine Dn ?_ λk=>(a2.mem_iff).trans ((mk k).symm.trans (UW k))
  exact(a3.and (a2.nodup_iff.mpr hnd)).imp λq=>by have:=q.1;have:=q.2;omega
 have I7:=I6.laid (t':=VB) (a:=h4.objs.size) (o:=.lst (ns'.map V.int)) (h':=sortedHeap (h4.push (seqObj "list" acc.toArray 0)) h4.objs.size acc out)
  (λb o eb=>by
   have hlt:=Heap.lt_size eb
   rw[sortedHeap_old (C6 hlt) (by rw[Heap.size_push];exact F6 hlt)]
   exact Heap.get?_push_of_some _ eb) (A9 _)
  ⟨by rw[B0];exact K7 (gA (by omega)),out.toList,e,jV a1,by simpa[seqObj]using he⟩
 rw[hres]at I7
 exact⟨.ref _,_,I7,rfl,q _ hs⟩
end
end L2


namespace L2
open PySem PySem.W PySem.Spec PyProof.Rows
section
variable{K:aA}{X:Cx}{ea eb:Expr}{ta tb te:TE}{fa fb f g:FE}{x y:Str}{p p2 p3 pos pos2 Dr Ds:Pos}{i t:Nat}
def Gq(a b:D):Option D:=match a,b with
 | .lst xs,.lst ys=>(intsOf xs).bind λns=>(intsOf ys).bind λms=>if jO ns=true∧jO ms=true∧(Bv (ns++ms)).length<64 then some (.lst ((Bv (ns++ms)).map D.int))else none
 | _,_=>none
theorem Ui(h1:XR K X ea ta fa)(h2:XR K X eb tb fb)(hg:Gl X x)(hm:X.mg x=none)(hv:bootBuiltins x=some (.builtin "sorted")) (hg2:Gl X y) (hm2:X.mg y=none) (hv2:bootBuiltins y=some (.type "set")) (hc:X.calm=true:=by rfl) (hn:x ≠ "__name__" := by decide) (hdb:(x==("__debug__" : Str))=false:=by decide) (hn2:y ≠ "__name__" := by decide) (Uh:(y==("__debug__" : Str))=false:=by decide)
  (Vz:starEach [ea] X.env=[(false,eval ea X.env)]:=by rfl) (PQ:starEach [eb] X.env=[(false,eval eb X.env)]:=by rfl)
  (he2:starEach [.BinOp (.Call (.Name y p2) [ea] [] pos2) .BitOr (.Call (.Name y p3) [eb] [] Dr) Ds] X.env=[(false,eval (.BinOp (.Call (.Name y p2) [ea] [] pos2) .BitOr (.Call (.Name y p3) [eb] [] Dr) Ds) X.env)]:=by rfl) :
  XN K X (.Call (.Name x p) [.BinOp (.Call (.Name y p2) [ea] [] pos2) .BitOr (.Call (.Name y p3) [eb] [] Dr) Ds] [] pos) (Wa K ta tb) (f2 Gq fa fb):=⟨h1.hk,by have:=h1.hk;subst this;exact Ug hc h1.pe h2.pe hg hm hv hg2 hm2 hv2 hn hdb hn2 Uh Vz PQ he2,λσ H e d Q re q k=>by
 obtain⟨d1,q1,q⟩:=aO q
 obtain⟨d2,q2,q⟩:=aO q
 unfold Gq at q
 split at q
 ·obtain⟨ns,q3,q⟩:=aO q
  obtain⟨ms,q4,q⟩:=aO q
  split at q
  ·rename_i hf
   cases q
   refine h1.ev σ H H e _ _ (Zn.self K H) re q1 λv H1 Z1 s1 t1 z1 r1=>?_
   obtain⟨pa,rfl,ra⟩:=rK q3 (z1.sm.rv _ _ r1)
   refine⟨pa,ns,rfl,ra,hf.1,h2.ev σ H1 H1 e _ _ (Zn.self K H1) (re.same s1) q2 λv2 H2 Z2 s2 t2 z2 r2=>?_⟩
   obtain⟨pb,rfl,rb⟩:=rK q4 (z2.sm.rv _ _ r2)
   exact⟨s2.seq ra,pa,pb,ns,ms,rfl,rfl,s2.seq ra,rb,hf.1,hf.2.1,hf.2.2,λl hl=>k _ _ ((s1.trans s2).trans (bC hl _)) ((mY (aD.refl _) (.bU (bY _) (dJ.mpr rfl)) hl).back (s1.trans s2))⟩
  ·cases q
 ·cases q⟩
def sG(t i:Nat):GS:=λenv=>match env[t]? with
 | some (.own (.lst ds))=>(match intsOf ds with
  | some ns=>(match ns.getLast? with
   | some k=>if i<env.length∧i≠t then .next ((env.set t (.own (.lst (ns.dropLast.map D.int)))).set i (.own (.int k)))else .bad
   | none=>.bad)
  | none=>.bad)
 | _=>.bad
theorem Uj:DS K (vX (Hv K "list" Hw (gU t)) (bL i)) (sG t i):=λB E σ H env r p=>by
 unfold sG at p
 split at p
 case h_2=>exact p.elim
 rename_i ds q1
 split at p
 case h_2=>exact p.elim
 rename_i ns q2
 split at p
 case h_2=>exact p.elim
 rename_i kk q3
 split at p
 case isFalse=>exact p.elim
 rename_i hi
 obtain⟨v0,a,xs,Bs,k1,k2,k3,k4,k5,k6⟩:=r.JL (p:=[]) q1 (ds:=ds) rfl
 have ev:v0=.ref a:=by
  have:=k2
  simpa[Io]using this
 subst ev
 have hxs:xs=ns.map V.int:=by
  have:=bO.rv _ _ _ k5
  rw[jH q2]at this
  exact dJ.mp this
 have hns:ns≠[]:=λz=>by rw[z]at q3;cases q3
 have KQ:xs[xs.length-1]?=some (V.int kk):=by
  rw[hxs,B0,C8,←List.getLast?_eq_getElem?,q3]
  rfl
 refine⟨_,k1,.inl ⟨rfl,xs,eN.of k3⟩,a,xs,_,rfl,rfl,k3,KQ,p _ _ ?_⟩
 have r1:=k6 H (ns.dropLast.map D.int) (ns.dropLast.map V.int) nil (aD.refl _) (mW _ _ (bY _) (dJ.mpr rfl)) λb z=>z.elim
 rw[show xs.dropLast=ns.dropLast.map V.int by rw[hxs,List.map_dropLast]]
 exact r1.own (d:=.int kk) (by rw[V9];exact hi.1) (aD.refl _) (.cY rfl (by unfold Rv;rfl))
theorem Uk{m:Str}{apos cpos pos':Pos}{e:Expr}(he:PE X e (gU t))(hp:PE X e (gU t)→PE X (.Call (.Attribute e m apos) [] [] cpos) (Hv K "list" Hw (gU t))) (hs:PE X (.Call (.Attribute e m apos) [] [] cpos) (Hv K "list" Hw (gU t))→PS X (.Assign [.Name x pos'] (.Call (.Attribute e m apos) [] [] cpos) pos) (vX (Hv K "list" Hw (gU t)) (bL i))):YS K X (.Assign [.Name x pos'] (.Call (.Attribute e m apos) [] [] cpos) pos) (vX (Hv K "list" Hw (gU t)) (bL i)) (sG t i):=⟨hs (hp he),Uj⟩
def Dt(f:FE):FE:=λe=>(f e).bind λd=>match d with
 | .int k=>some (.dk [.inl k] [.bl true])
 | _=>none
theorem Nu{e1 e2:Expr}(h:XR K X e1 te f)(h2:PE X e2 (tC (.bl true))):XN K X (.Dict [some e1] [e2] pos) (Vf [(te,tC (.bl true))]) (Dt f):=⟨h.hk,Rm (Lb h.pe h2 Rk) rfl rfl (λz=>by cases z) (L9 rfl),λσ H e d Q re q kk=>by
 unfold Dt at q
 obtain⟨d1,q1,q2⟩:=aO q
 split at q2
 ·rename_i k
  cases q2
  intro p hp
  have s0:aD H (upd H p (.dK [])):=bC hp _
  refine h.ev σ _ _ e _ _ (Zn.self K _) (re.same s0) q1 λv H1 Z1 s1 t1 z1 rv=>?_
  unfold Rv at rv
  subst rv
  have hp1:H1 p=some (.dK []):=s1 _ _ aV
  refine⟨hp1,[(.inl k,.bl true)],rfl,L9 rfl,?_⟩
  refine kk _ _ (λb o eb=>?_) ⟨(·=p),?_,λa z=>by cases z;exact hp⟩
  ·rw[aM (bM eb hp)]
   exact s1 _ _ (s0 _ _ eb)
  ·unfold Ow
   exact⟨p,[.bl true],nil,rfl,aV,rfl,λz=>z,λx=>⟨.inl,λz=>z.elim id False.elim⟩,mW _ _ rfl (by unfold bA;exact⟨_,_,rfl,by unfold Rv;rfl,by unfold bA;rfl⟩)⟩
 ·cases q2⟩
theorem Gr{H:Hp}:∀{ds:List D} {vs:List V},lG ds=some vs→bA K H ds vs
 | [],vs,h=>by unfold lG at h;cases h;unfold bA;rfl
 | d::ds,vs,h=>by
  unfold lG at h
  obtain⟨x,h1,h2⟩:=aO h
  obtain⟨xt,h3,h4⟩:=aO h2
  cases h4
  unfold bA
  refine⟨_,_,rfl,?_,Gr h3⟩
  cases d<;>unfold toV at h1<;>first | (cases h1;unfold Rv;rfl) | cases h1
theorem Nv{B:Hp}{env:EN}{σ:St}{H:Hp}{ks:List Key}{ds:List D}{vs:List V}(r:Rel K B env σ H)(e:env[i]?=some (.own (.dk ks ds)))(hn:lG ds=some vs):∃a xs,σ[i]?=some (some (.ref a))∧H a=some (.dK (ks.zip xs))∧ks.length=xs.length ∧
  ∀o,∃B',aD B B'∧B' a=some (.fX o (.dK (ks.zip xs)))∧Rel K B' (env.set i (.fro (.dk ks ds))) σ (upd H a (.fX o (.dK (ks.zip xs)))):=by
 obtain⟨A,a0,bb⟩:=r
 have cl:=cP a0
 obtain⟨y,A1,C,h1,h2,h3,h4,k⟩:=a0.focus e
 have h4':=h4
 obtain⟨v,rfl,ow⟩:=h4
 unfold Ow at ow
 obtain⟨a,xs,Bs,rfl,o2,o2',o3,o4,o5⟩:=ow
 refine⟨a,xs,h1,o2,o2',λo=>?_⟩
 have ha1:A1 a:=(o4 a).mpr (.inl rfl)
 have haC:¬C a:=λz=>h2 a ha1 z
 have tk:oH K H (upd H a (.fX o (.dK (ks.zip xs)))):=oX (mV o2)
 have g:aD (out H A) (out (upd H a (.fX o (.dK (ks.zip xs)))) (cT nil C)):=λx u ex=>by
  obtain⟨e1,e2⟩:=aQ.mp ex
  have na:x≠a:=λz=>e1 ((h3 x).mpr (.inl (z▸ha1)))
  exact aQ.mpr ⟨λz=>e1 ((h3 x).mpr (.inr (z.elim False.elim id))),by rw[aM na];exact e2⟩
 have za:out (upd H a (.fX o (.dK (ks.zip xs)))) (cT nil C) a=some (.fX o (.dK (ks.zip xs))):=aQ.mpr ⟨λz=>z.elim id haC,aV⟩
 have hxs:xs=vs:=wX hn (bO.rv _ _ _ o5)
 have key:=k (dM K (upd H a (.fX o (.dK (ks.zip xs)))) (out (upd H a (.fX o (.dK (ks.zip xs)))) (cT nil C))) (λsd D z hb qq=>by
  have fm:∀x,D x→upd H a (.fX o (.dK (ks.zip xs))) x=H x:=λx zx=>aM λw=>haC (w▸hb x zx)
  cases sd with
  | no=>exact qq
  | fro d=>obtain⟨q1,v,q2,q3⟩:=qq;exact⟨q1,v,q2,g.rv _ _ q3⟩
  | inn v d=>exact⟨qq.1,Ow.frame tk _ _ _ qq.2 fm⟩
  | own d=>obtain⟨v,q1,q2⟩:=qq;exact⟨v,q1,Ow.frame tk _ _ _ q2 fm⟩) (.fro (.dk ks ds)) (some (.ref a)) nil (λ_ z=>z.elim) ⟨λ_ z=>z,_,rfl,by
   unfold Rv
   refine⟨a,xs,rfl,.inr ⟨o,za⟩,o2',?_⟩
   rw[hxs]
   exact Gr hn⟩
 rw[set_same h1]at key
 exact⟨_,bb.trans g,za,cT nil C,key,aD.refl _⟩
def sH(t i:Nat)(gb:GS):GS:=λenv=>match env[t]? with
 | some (.own (.dk ks ds))=>(match lG ds with
  | some _=>gJ i gb (ks.map kD) (env.set t (.fro (.dk ks ds)))
  | none=>.bad)
 | _=>.bad
theorem Ul{gb:GS}{tb:TS}(h:DS K tb gb):DS K (Cd (Lh (gU t)) (bL i) tb) (sH t i gb):=λB E σ H env r p=>by
 unfold sH at p
 split at p
 case h_2=>exact p.elim
 rename_i ks ds q
 split at p
 case h_2=>exact p.elim
 rename_i ZM hn
 obtain⟨a,xs,k1,k2,k3,k4⟩:=Nv r q hn
 refine⟨_,k1,a,ks.zip xs,rfl,k2,λo=>?_⟩
 obtain⟨Z1,bz,za,Zc⟩:=k4 o
 have p':=p.mono bz
 have rvs:bA K Z1 (ks.map kD) ((ks.zip xs).map λkv=>kV kv.1):=Ni k3
 have hl:=rvs.length
 refine wN (Lg (a:=a) (o:=o) (kvs:=ks.zip xs)) (λk σ2 H2=>∃cJ,Rel K Z1 cJ σ2 H2∧rO K Z1 E (gJ i gb ((ks.map kD).drop k) cJ)) ⟨_,Zc,by simpa using p'⟩ (λk σ2 H2 _ ⟨cJ,⟨A2,a2,b2⟩,_⟩=>(aQ.mp (b2 a _ za)).2) ?_ ?_
 ·rintro k x σ2 H2 hx ⟨cJ,r2,p2⟩
  have hk:k<(ks.map kD).length:=by
   obtain⟨h1,_⟩:=C3.mp hx
   omega
  rw[K5 hk]at p2
  unfold gJ at p2
  obtain⟨x',hx',rx⟩:=rvs.get (B3 hk)
  rw[hx]at hx'
  cases hx'
  split at p2
  ·rename_i hlen
   obtain⟨A2,a2,b2⟩:=r2
   have r3:Rel K Z1 (cJ.set i (.fro (ks.map kD)[k])) (σ2.set i (some x)) H2:=xQ a2 b2 hlen (aD.refl _) (aD.refl _) (xP a2) (b2.rv _ _ rx)
   refine h Z1 _ _ H2 _ r3 ?_
   split at p2
   ·rename_i env' q2;rw[q2];exact λσ' H' r'=>⟨env',r',p2⟩
   ·rename_i env' q2;rw[q2];exact λσ' H' r'=>⟨env',r',p2⟩
   ·rename_i env' q2;rw[q2];exact p2
   ·rename_i n1 n2 n3
    cases q2:gb (cJ.set i (.fro (ks.map kD)[k]))with
    | next e=>exact absurd q2 (n1 e)
    | cont e=>exact absurd q2 (n2 e)
    | brk e=>exact absurd q2 (n3 e)
    | ret d=>rw[q2]at p2;exact p2
    | bad=>rw[q2]at p2;exact p2
    | rete d e=>rw[q2]at p2;exact p2
  ·exact p2.elim
 ·rintro σ2 H2 ⟨cJ,r2,p2⟩
  rw[hl,Q2]at p2
  exact p2 σ2 H2 r2
theorem Um{tg iter:Expr}{body:List Stmt}{tb:TS}{gb:GS}(hp:PassesOwn (model X.prog X.w) X.A X.env X.xe)(Mt:X.calm=true)(hv:PE X iter (gU t))(hg:PG X tg (bL i))(hb:YB K X body tb gb)
  (hs:∀x,foldedSetIterable iter X.env x=pure x:=by intro _;rfl):YS K X (.For tg iter body [] pos) (Cd (Lh (gU t)) (bL i) tb) (sH t i gb):=⟨Ce hp Mt (Rx hv) hg hb.ps hs,Ul hb.ev⟩
end
end L2


namespace L2
open PySem PySem.Spec PyProof.Rows
abbrev aC(ns:List Int):D:=.lst (ns.map D.int)
theorem gO{i:Nat}{g:GS}(I:Nat→EN→Prop):∀(xs:List D)(env:EN)(n:Nat),I n env→(∀k x env,xs[k]?=some x→I (n+k) env→i<env.length∧∃env',g (env.set i (.fro x))=.next env'∧I (n+k+1) env')→∃env',gJ i g xs env=.next env'∧I (n+xs.length) env'
 | [],env,n,h,_=>⟨env,by unfold gJ;rfl,h⟩
 | x::xs,env,n,h,st=>by
  obtain⟨h1,env',h2,h3⟩:=st 0 x env rfl h
  obtain⟨cJ,a1,a2⟩:=gO I xs env' (n+1) h3 λk y e hk hi=>by
   have:=st (k+1) y e (by simpa using hk) (by rw[show n+(k+1)=n+1+k by omega];exact hi)
   rw[show n+(k+1)+1=n+1+k+1 by omega]at this
   exact this
  refine⟨cJ,?_,?_⟩
  ·unfold gJ
   rw[if_pos h1,h2]
   exact a1
  ·rw[D7,show n+(xs.length+1)=n+1+xs.length by omega]
   exact a2
theorem cC{g1 g2:GS}{env env':EN}(h:g1 env=.next env'):aR g1 g2 env=g2 env':=by unfold aR;rw[h]
theorem sI{g1 g2:GS}{env:EN}{d:D}(h:g1 env=.ret d):aR g1 g2 env=.ret d:=by unfold aR;rw[h]
theorem Aq{f:FT}{g1 g2:GS}{env:EN}(h:f (rE env)=some true):tX f g1 g2 env=g1 env:=by unfold tX;rw[h]
theorem vK{f:FT}{g1 g2:GS}{env:EN}(h:f (rE env)=some false):tX f g1 g2 env=g2 env:=by unfold tX;rw[h]
theorem Gs{i:Nat}{f:FE}{env:EN}{d:D}(h:f (rE env)=some d)(hi:i<env.length):cI i f env=.next (env.set i (.own d)):=by unfold cI;rw[h];dsimp only;rw[if_pos hi]
theorem Gu{f:FE}{env:EN}{d:D}(h:f (rE env)=some d):iD f env=.ret d:=by unfold iD;rw[h]
theorem Av{i:Nat}{fi:FA}{g:GS}{env:EN}{xs:List D}(h:fi (rE env)=some xs):jM i fi g env=gJ i g xs env:=by unfold jM;rw[h]
theorem qD{js:List Nat}{i:Nat}{fi:FA}{g:GS}{env fJ:EN}{xs:List D}(h0:fX js env=fJ)(h:fi (zE fJ)=some xs):mG js i fi g env=gJ i g xs fJ:=by unfold mG;rw[h0,h]
theorem Nx{n m:Nat}{g:GS}{ds:List D}{d:D}(hl:ds.length=m)(h:g (ds.map SD.fro++E8 (n-m) SD.no)=.ret d):iG n m g ds=some d:=by unfold iG;rw[if_pos hl,h]
theorem aU{φ:D→D→Option D}{f g:FE}{e:DE}{a b d:D}(h1:f e=some a)(h2:g e=some b)(h:φ a b=some d):f2 φ f g e=some d:=by unfold f2;rw[h1,h2];exact h
theorem dO{φ:List D→Option D}{fs:FA}{e:DE}{ds:List D}{d:D}(h1:fs e=some ds)(h:φ ds=some d):fL φ fs e=some d:=by unfold fL;rw[h1];exact h
theorem aB{f:FE}{fs:FA}{e:DE}{a:D}{r:List D}(h1:f e=some a)(h2:fs e=some r):aF f fs e=some (a::r):=by unfold aF;rw[h1,h2];rfl
theorem bB{n:Nat}{F:List D→Option D}{fs:FA}{e:DE}{ds:List D}{d:D}(h1:fs e=some ds)(hl:ds.length=n)(h:F ds=some d):cH n F fs e=some d:=by unfold cH;rw[h1];dsimp only[D2];rw[if_pos hl];exact h
theorem bZ{f:FE}{e:DE}{b:Bool}(h:f e=some (.bl b)):fB f e=some b:=by unfold fB;rw[h];rfl
theorem xZ{f:FT}{e:DE}{b:Bool}(h:f e=some b):zU f e=some (!b):=by unfold zU;rw[h];rfl
theorem Zw{f g:FT}{e:DE}(h:f e=some true):xH f g e=g e:=by unfold xH;rw[h];rfl
theorem Zx{f g:FT}{e:DE}(h:f e=some false):xH f g e=some false:=by unfold xH;rw[h];rfl
theorem fO{f:FE}{e:DE}{d:D}(h:f e=some d)(i:d.cY=true):iW f e=some d:=uT.mpr ⟨h,i⟩
theorem kE(i j:Int):nA (.int i) (.int j)=some (.int (i+j)):=rfl
theorem dR{i j:Int}(h:0<j)(h2:j<1073741824):uD (.int i) (.int j)=some (.int (i/j)):=by unfold uD yN;exact if_pos (show Hr i j from⟨h,h2⟩)
theorem fG{i j:Int}(h:0<j):rD (.int i) (.int j)=some (.int (i%j)):=by unfold rD yN;exact if_pos h
theorem yC(i j:Int):RM (.int i) (.int j)=some (.bl (decide (i<j))):=by unfold RM yN;exact if_pos True.intro
theorem qF(i j:Int):IV (.int i) (.int j)=some (.bl (decide (j<i))):=by unfold IV yN;exact if_pos True.intro
theorem Gv(i j:Int):decide (V.int i=V.int j)=decide (i=j):=by
 by_cases c:i=j
 ·subst c;simp
 ·rw[decide_eq_false c,decide_eq_false (λz=>c (by cases z;rfl))]
theorem yD(i j:Int):Ss (.int i) (.int j)=some (.bl (decide (i=j))):=by
 unfold Ss toV
 dsimp only
 rw[if_pos (by rfl),Gv]
theorem yE(i j:Int):Fg (.int i) (.int j)=some (.bl (!decide (i=j))):=by
 unfold Fg toV
 dsimp only
 rw[if_pos (by rfl),Gv]
theorem Du{α:Type}{xs:List α}{i:Int}{x:α}(h0:0≤i)(h:xs[i.toNat]?=some x):Kr xs i=some x:=by
 have h1:i.toNat<xs.length:=by
  obtain⟨h1,_⟩:=C3.mp h
  exact h1
 unfold Kr GQ
 rw[if_pos h0,if_pos (by omega)]
 exact h
theorem Uo{ds:List D}{i:Int}{d:D}(h0:0≤i)(h:ds[i.toNat]?=some d):xG (.lst ds) (.int i)=some d:=Du h0 h
theorem PX{ds:List D}{i:Int}{d:D}(h0:0≤i)(h:ds[i.toNat]?=some d):xG (.tup ds) (.int i)=some d:=Du h0 h
theorem jP{ns:List Int}{i:Int}(h0:0≤i)(h:i<ns.length):xG (aC ns) (.int i)=some (.int (ns.getD i.toNat 0)):=Du h0 (by
 rw[C8,D5,B3 (show i.toNat<ns.length by omega)];rfl)
theorem sJ(ds:List D):gG [.lst ds]=some (.int ds.length):=rfl
theorem cQ(ns:List Int):gG [aC ns]=some (.int ns.length):=by show some (D.int ((ns.map D.int).length:Nat))=_;rw[B0]
theorem Aw{fi:FA}{fr:List Nat}{fc:FT}{fe:FE}{e:DE}{xs ys:List D}(h1:fi e=some xs)(hl:xs.length≤100000)(h:jK (λx=>fc (some x::fM e fr)) (λx=>fe (some x::fM e fr)) xs=some ys):cZ fi fr fc fe e=some (.lst ys):=by
 unfold cZ
 rw[h1,D2,if_pos hl,h]
 rfl
theorem sO(lo:Int)(n:Nat):(bQ lo n).length=n:=by unfold bQ;rw[B0,L6]
theorem sS{lo:Int}{n k:Nat}{x:D}(h:(bQ lo n)[k]?=some x):k<n∧x=.int (lo+k):=by
 unfold bQ at h
 rw[C8]at h
 cases q:(D3 n)[k]? with
 | none=>rw[q]at h;cases h
 | some j=>
  rw[q]at h
  obtain⟨h1,h2⟩:=C3.mp q
  rw[L6]at h1
  rw[List.getElem_range]at h2
  subst h2
  exact⟨h1,(E4 h).symm⟩
theorem Ny{fs:FA}{e:DE}{n:Int}(h:fs e=some [.int n])(h1:-100000≤n)(h2:n≤100000):iR fs e=some (bQ 0 n.toNat):=by
 unfold iR
 rw[h]
 dsimp only[D2]
 rw[if_pos (show lim n=true from decide_eq_true ⟨h1,h2⟩)]
theorem Nz{fs:FA}{e:DE}{i j:Int}(h:fs e=some [.int i,.int j])(h1:-100000≤i)(h2:i≤100000)(h3:-100000≤j)(h4:j≤100000):zZ fs e=some (bQ i (j-i).toNat):=by
 unfold zZ
 rw[h]
 dsimp only[D2]
 rw[if_pos ⟨show lim i=true from decide_eq_true ⟨h1,h2⟩,show lim j=true from decide_eq_true ⟨h3,h4⟩⟩]
theorem Oa{i:Nat}{f:FE}{env:EN}{ds:List D}{d:D}(h1:env[i]?=some (.own (.lst ds)))(h2:f (rE env)=some d)(hl:ds.length<100000):nD i gK f env=.next (env.set i (.own (.lst (ds++[d])))):=by
 unfold nD gK
 rw[h1,h2]
 dsimp only[rQ]
 rw[if_pos hl]
 rfl
end L2


namespace L2
open PySem PySem.Spec PyProof.Rows
section
variable{i j:Nat}{f:FE}{c:FT}{g1 g2 g:GS}{env env':EN}{d:D}{r:SR}{ds:List D}
theorem Jd(h:env[i]?=some (.own d)):iT i env=.ret d:=by unfold iT;rw[h]
theorem Ob{e:DE}{b:Bool}(h:f e=some (.bl b)):zV f e=some (.bl (!b)):=by unfold zV;rw[bZ h];rfl
theorem Dv{e:DE}{c':FT}{a b:Bool}(h:c e=some a)(k:c' e=some b):Yo c c' e=some (a||b):=by
 unfold Yo;rw[h]
 cases a with
 | true=>rfl
 | false=>exact k
theorem nO{e:DE}(h:f e=some (.lst ds)):fH f e=some ds:=by unfold fH;rw[h];rfl
theorem Oc{e:DE}(h:f e=some (.tup ds)):fH f e=some ds:=by unfold fH;rw[h];rfl
theorem Je{a b:List D}(h:D.bU (a++b)=true)(hl:a.length+b.length≤100000):nA (.lst a) (.lst b)=some (.lst (a++b)):=by
 show (if D.bU (a++b)=true∧a.length+b.length≤100000 then some (D.lst (a++b))else none)=_
 rw[if_pos ⟨h,hl⟩]
theorem vL(d:D)(ds:List D):D.bU (d::ds)=(d.cY&&D.bU ds):=by rw[D.bU]
theorem Od{a b:List D}:D.bU (a++b)=(D.bU a&&D.bU b):=by
 induction a with
 | nil=>rw[W2,D.bU];rfl
 | cons x a ih=>rw[J8,vL,vL,ih,Bool.and_assoc]
theorem mJ(ns:List Int):fK (ns.map D.int)=some (ns.map DV.int):=by
 induction ns with
 | nil=>unfold fK;rfl
 | cons n ns ih=>rw[B8];unfold fK bR;rw[D2,ih];rfl
theorem Oe(ns ms:List Int):Ss (aC ns) (aC ms)=some (.bl (decide (ns=ms))):=by
 unfold Ss toV
 dsimp only
 unfold bR
 rw[mJ,mJ]
 dsimp only[R4]
 rw[if_pos (by unfold DV.depth;rw[lZ];decide)]
 congr 2
 rw[F7,gB,decide_eq_true_iff]
 constructor
 ·intro z;injection z with z;exact zL.mp z
 ·intro z;rw[z]
end
end L2
namespace L2
end L2
namespace L2
theorem Og{i:Nat}{fi:FA}{gb:GS}{env:EN}{n:Nat}(I:Nat→EN→Prop)(h:fi (rE env)=some (bQ 0 n))(h0:I 0 env)
  (st:∀(k:Nat) env,k<n→I k env→i<env.length∧∃env',gb (env.set i (.fro (.int k)))=.next env'∧I (k+1) env'):∃env',jM i fi gb env=.next env'∧I n env':=by
 obtain⟨env',h1,h2⟩:=gO (i:=i) (g:=gb) I (bQ 0 n) env 0 h0 λk x e hx hi=>by
  rw[F3]at hi ⊢
  obtain⟨hk,rfl⟩:=sS hx
  rw[Int.zero_add]
  exact st k e hk hi
 rw[F3,sO]at h2
 exact⟨env',(Av h).trans h1,h2⟩
theorem iI(ns:List Int)(n:Int):D.lst (ns.map D.int++[.int n])=aC (ns++[n]):=by unfold aC;rw[O0];rfl
end L2


namespace L2
open PySem PySem.Spec PyProof.Rows
def Qs(Pr:SR→Prop)(r:SR):Prop:=Pr r
section
variable{i j:Nat}{f:FE}{c:FT}{g1 g2 g gb:GS}{env env':EN}{d:D}{ds:List D}{Pr:SR→Prop}
theorem cL(h:f (rE env)=some d)(hi:i<env.length)(k:Qs Pr (g (env.set i (.own d)))):Qs Pr (aR (cI i f) g env):=by rw[cC (Gs h hi)];exact k
theorem Oh(h:f (rE env)=some d)(hi:i<env.length)(k:Pr (.next (env.set i (.own d)))):Qs Pr (cI i f env):=by rw[Gs h hi];exact k
theorem KR(h:g1 env=.next env')(k:Qs Pr (g env')):Qs Pr (aR g1 g env):=by rw[cC h];exact k
theorem Dw(k:Qs Pr (g env)):Qs Pr (aR fD g env):=k
theorem Oi{b:Bool}(h:c (rE env)=some b)(k1:b=true→Qs Pr (aR g1 g env))(k2:b=false→Qs Pr (aR g2 g env)):Qs Pr (aR (tX c g1 g2) g env):=by
 cases b with
 | true=>have k:=k1 rfl;unfold aR at k ⊢;rw[Aq h];exact k
 | false=>have k:=k2 rfl;unfold aR at k ⊢;rw[vK h];exact k
theorem Ax{b:Bool}(h:c (rE env)=some b)(k1:b=true→Qs Pr (g1 env))(k2:b=false→Qs Pr (g2 env)):Qs Pr (tX c g1 g2 env):=by
 cases b with
 | true=>rw[Aq h];exact k1 rfl
 | false=>rw[vK h];exact k2 rfl
theorem Oj{b:Bool}(h:c (rE env)=some b)(hb:b=false)(k:Qs Pr (aR g2 g env)):Qs Pr (aR (tX c g1 g2) g env):=Oi h (λz=>by rw[hb]at z;cases z) λ_=>k
theorem Ol(h:f (rE env)=some d)(k:Pr (.ret d)):Qs Pr (aR (iD f) g env):=by rw[sI (Gu h)];exact k
theorem pB(h:f (rE env)=some d)(k:Pr (.ret d)):Qs Pr (iD f env):=by rw[Gu h];exact k
theorem sU(h:env[i]?=some (.own d))(k:Pr (.ret d)):Qs Pr (iT i env):=by rw[Jd h];exact k
theorem KY(h1:env[i]?=some (.own (.lst ds)))(h2:f (rE env)=some d)(hl:ds.length<100000)(k:Qs Pr (g (env.set i (.own (.lst (ds++[d])))))):Qs Pr (aR (nD i gK f) g env):=by rw[cC (Oa h1 h2 hl)];exact k
theorem yF(h1:env[i]?=some (.own (.lst ds)))(h2:f (rE env)=some d)(hl:ds.length<100000)(k:Pr (.next (env.set i (.own (.lst (ds++[d])))))):Qs Pr (nD i gK f env):=by rw[Oa h1 h2 hl];exact k
theorem Gw{fi:FA}{n:Nat}(I:Nat→EN→Prop)(h:fi (rE env)=some (bQ 0 n))(h0:I 0 env)
  (st:∀(k:Nat) env,k<n→I k env→i<env.length∧Qs (λr=>∃env',r=.next env'∧I (k+1) env') (gb (env.set i (.fro (.int k))))) (k:∀env',I n env'→Qs Pr (g env')):Qs Pr (aR (jM i fi gb) g env):=by
 obtain⟨env',h1,h2⟩:=Og (gb:=gb) I h h0 λk env hk hi=>⟨(st k env hk hi).1,let ⟨e,a,b⟩:=(st k env hk hi).2;⟨e,a,b⟩⟩
 rw[cC h1]
 exact k env' h2
theorem Wb{js:List Nat}{fi:FA}{fJ:EN}{xs:List D}(I:Nat→EN→Prop)(hf:fX js env=fJ)(h:fi (zE fJ)=some xs)(h0:I 0 fJ)
  (st:∀(k:Nat) x env,xs[k]?=some x→I k env→i<env.length∧Qs (λr=>∃env',r=.next env'∧I (k+1) env') (gb (env.set i (.fro x)))) (k:∀env',I xs.length env'→Qs Pr (g env')):Qs Pr (aR (mG js i fi gb) g env):=by
 obtain⟨env',h1,h2⟩:=gO (i:=i) (g:=gb) I xs fJ 0 h0 λk x e hx hi=>by
  rw[F3]at hi ⊢
  exact⟨(st k x e hx hi).1,let ⟨e,a,b⟩:=(st k x e hx hi).2;⟨e,a,b⟩⟩
 rw[F3]at h2
 rw[cC ((qD hf h).trans h1)]
 exact k env' h2
theorem fV{n m:Nat}{Pd:D→Prop}(hl:ds.length=m)(h:Qs (λr=>∃d,r=.ret d∧Pd d) (g (ds.map SD.fro++E8 (n-m) SD.no))):∃d,iG n m g ds=some d∧Pd d:=by
 obtain⟨d,h1,h2⟩:=h
 exact⟨d,Nx hl h1,h2⟩
theorem yG{fs:FA}{e:DE}{n:Nat}(h:fs e=some [.int (n:Int)])(hn:n≤100000):iR fs e=some (bQ 0 n):=by
 rw[Ny h (by omega) (by omega),J5]
end
end L2
namespace L2
theorem pC{fi:FA}{fr:List Nat}{fe:FE}{e:DE}{α:Type}{xs:List α}{ψ φ:α→D}(h1:fi e=some (xs.map ψ))(hn:xs.length≤1000)(he:∀x∈xs,fe (some (ψ x)::fM e fr)=some (φ x)):cZ fi fr vA fe e=some (.lst (xs.map φ)):=by
 refine Aw h1 (by rw[B0];omega) ?_
 clear h1 hn
 induction xs with
 | nil=>rw[E2,E2];unfold jK;rfl
 | cons x xs ih=>
  rw[B8]
  unfold jK
  show (some true).bind _=_
  rw[D2,if_pos rfl,he x B7,D2,ih λy hy=>he y (B4 _ hy)]
  rfl
theorem Ay{α:Type}{l:List α}{k:Nat}{d:α}(h:k<l.length):l[k]?=some (l.getD k d):=by rw[D5,B3 h];rfl
theorem Zy{b:Bool}{f:FE}{l h:FO}{e:DE}{ds:List D}{lo hi:Option Int}(h1:f e=some (.lst ds))(h2:l e=some lo)(h3:h e=some hi)(h4:b=false∨D.bU (lH ds lo hi)=true):Il b f l h e=some (.lst (lH ds lo hi)):=by
 unfold Il
 rw[h1,h2,h3]
 dsimp only[D2]
 rw[if_pos h4]
theorem Dy(ns ms:List Int)(h:ns.length+ms.length≤100000):nA (aC ns) (aC ms)=some (aC (ns++ms)):=by
 have:=Je (a:=ns.map D.int) (b:=ms.map D.int) (by rw[Od,bY,bY];rfl) (by rw[B0,B0];exact h)
 rw[←O0]at this
 exact this
end L2


namespace L2
open PySem PySem.Spec PyProof.Rows
section
variable{i j:Nat}{f:FE}{c:FT}{g1 g2 g gb:GS}{env env':EN}{d:D}{ds:List D}{Pr:SR→Prop}
theorem Zz{js:List Nat}{fi:FA}{fJ:EN}{xs:List D}(I:Nat→EN→Prop)(hf:fX js env=fJ)(h:fi (zE fJ)=some xs)(h0:I 0 fJ)
  (st:∀(k:Nat) x env,xs[k]?=some x→I k env→i<env.length∧Qs (λr=>∃env',r=.next env'∧I (k+1) env') (gb (env.set i (.fro x)))) (k:∀env',I xs.length env'→Pr (.next env')):Qs Pr (mG js i fi gb env):=by
 obtain⟨env',h1,h2⟩:=gO (i:=i) (g:=gb) I xs fJ 0 h0 λk x e hx hi=>by
  rw[F3]at hi ⊢
  exact⟨(st k x e hx hi).1,let ⟨e,a,b⟩:=(st k x e hx hi).2;⟨e,a,b⟩⟩
 rw[F3]at h2
 rw[(qD hf h).trans h1]
 exact k env' h2
theorem vM{fc:FT}(I:Nat→EN→Prop)(hs:∀n env,I n env→(fc (rE env)=some false)∨(fc (rE env)=some true∧0<n∧∃env',gb env=.next env'∧I (n-1) env')):∀(fuel n:Nat)(env:EN),n<fuel→I n env→∃env' n',dF fc gb fuel env=.next env'∧I n' env'∧fc (rE env')=some false
 | 0,n,env,h,_=>absurd h (by omega)
 | fuel+1,n,env,h,hi=>by
  rcases hs n env hi with q | ⟨q,hn,env',h1,h2⟩
  ·exact⟨env,n,by unfold dF;rw[q],hi,q⟩
  ·obtain⟨e2,n2,a1,a2,a3⟩:=vM I hs fuel (n-1) env' (by omega) h2
   refine⟨e2,n2,?_,a2,a3⟩
   unfold dF
   rw[q,h1]
   exact a1
end
end L2
namespace L2
theorem Gx{l:List Int}{b:Int}:(D8 b:Key)∈l.map (D8:Int→Key)↔b∈l:=by
 rw[G0]
 constructor
 ·rintro⟨a,h1,h2⟩;cases h2;exact h1
 ·intro h;exact⟨b,h,rfl⟩
theorem Om{l:List Int}{b:Int}(h:b∉l):posK (l.map (D8:Int→Key)) (D8 b)=none:=oU.mpr λz=>h (Gx.mp z)
theorem Jf(l:List Int):D.lst ((l.map (D8:Int→Key)).map kD)=aC l:=by
 unfold aC
 rw[K1]
 rfl
theorem Gy{fc:FT}{gb g:GS}{env:EN}{Pr:SR→Prop}{fuel n:Nat}(I:Nat→EN→Prop)(h0:I n env)(hn:n<fuel)(hs:∀n env,I n env→(fc (rE env)=some false)∨(fc (rE env)=some true∧0<n∧∃env',gb env=.next env'∧I (n-1) env'))
  (k:∀env' n',I n' env'→fc (rE env')=some false→Qs Pr (g env')):Qs Pr (aR (dF fc gb fuel) g env):=by
 obtain⟨env',n',a1,a2,a3⟩:=vM I hs fuel n env hn h0
 rw[cC a1]
 exact k env' n' a2 a3
end L2
namespace L2
theorem Jg(ns:List Int):lG (ns.map D.int)=some (ns.map V.int):=by
 induction ns with
 | nil=>unfold lG;rfl
 | cons n ns ih=>rw[B8];unfold lG toV;rw[D2,ih];rfl
theorem Az(neg:Bool)(i:Int)(ns:List Int):Yl neg (.int i) (aC ns)=some (.bl (if neg then !decide (i∈ns)else decide (i∈ns))):=by
 unfold Yl
 show (some (V.int i)).bind _=_
 rw[D2]
 show (some (ns.map D.int)).bind _=_
 rw[D2,Jg,D2,if_pos ⟨rfl,Ig ns⟩,Rz]
end L2


namespace L2
open PySem PySem.Spec PyProof.Rows
def lU(ks:List Int):D:=.dk (ks.map D8) (ks.map λ_=>.bl true)
theorem Oo(i:Int)(ks:List Int):(posK (ks.map (D8:Int→Key)) (D8 i)).isSome=decide (i∈ks):=by
 by_cases c:i∈ks
 ·rw[decide_eq_true c]
  cases q:posK (ks.map (D8:Int→Key)) (D8 i)with
  | some j=>rfl
  | none=>exact absurd (Gx.mpr c) (oU.mp q)
 ·rw[decide_eq_false c,Om c]
  rfl
theorem pD(neg:Bool)(i:Int)(ks:List Int):mD neg (.int i) (lU ks)=some (.bl (if neg then !decide (i∈ks)else decide (i∈ks))):=by
 show some (D.bl (if neg then !(posK (ks.map (D8:Int→Key)) (D8 i)).isSome else(posK (ks.map (D8:Int→Key)) (D8 i)).isSome))=_
 rw[Oo]
def mK(ks:List Int)(k:Int):List Int:=if k∈ks then ks else ks++[k]
theorem Ba(ks:List Int)(k j:Int):j∈mK ks k↔j∈ks∨j=k:=by
 unfold mK
 split
 ·rename_i c
  exact⟨.inl,λz=>z.elim id λe=>by rw[e];exact c⟩
 ·simp
theorem Dz{ks:List Int}{k:Int}(h:ks.Nodup):(mK ks k).Nodup:=by
 unfold mK
 split
 ·exact h
 ·rename_i c
  exact N2.mpr ⟨h,by simp,λx hx y hy=>by
   rw[B9.mp hy]
   intro z
   rw[z]at hx
   exact c hx⟩
theorem Bb(ks:List Int)(k:Int):(mK ks k).length≤ks.length+1:=by
 unfold mK
 split
 ·omega
 ·simp
theorem vN(k:Key):∀ks:List Int,Q1 (λ(k':Key) (d':D)=>if k'=k then D.bl true else d') (ks.map D8) (ks.map λ_=>D.bl true)=ks.map λ_=>D.bl true
 | []=>rfl
 | a::ks=>by
  rw[B8,B8,G8,vN k ks]
  split<;>rfl
theorem Oq{i:Nat}{f f':FE}{env:EN}{ks:List Int}{k:Int}(h1:env[i]?=some (.own (lU ks)))(h2:f (rE env)=some (.int k))(h3:f' (rE env)=some (.bl true))(hl:ks.length<1000):jL i gK f f' env=.next (env.set i (.own (lU (mK ks k)))):=by
 unfold jL gK
 rw[h1,h2,h3]
 dsimp only[rQ,lU]
 show (if D.cY (.bl true)=true∧(ks.map (D8:Int→Key)).length<100000 then _ else _)=_
 rw[if_pos ⟨rfl,by rw[B0];omega⟩]
 have e1:xF (ks.map (D8:Int→Key)) (D8 k)=(mK ks k).map D8:=by
  unfold xF mK
  rw[Oo]
  by_cases c:k∈ks
  ·simp[c]
  ·simp[c]
 have e2:putD (ks.map (D8:Int→Key)) (ks.map λ_=>D.bl true) (D8 k) (.bl true)=(mK ks k).map λ_=>D.bl true:=by
  unfold putD mK
  rw[Oo]
  by_cases c:k∈ks
  ·rw[decide_eq_true c,if_pos rfl,if_pos c,vN]
  ·rw[decide_eq_false c,if_neg (by decide),if_neg c,O0]
   rfl
 rw[e1,e2]
 rfl
theorem Up{l:List Int}(hl:l.length≤900):∃ks,iG 3 1 (aR (cI 1 (fC (.dk [] []))) (aR (mG [] 2 (fH (aG 0)) (jL 1 gK (aG 2) (fC (.bl true)))) (iT 1))) [aC l]=some (lU ks)∧ks.Nodup∧(∀k,k∈ks↔k∈l)∧ks.length≤l.length:=by
 suffices h:∃d,iG 3 1 (aR (cI 1 (fC (.dk [] []))) (aR (mG [] 2 (fH (aG 0)) (jL 1 gK (aG 2) (fC (.bl true)))) (iT 1))) [aC l]=some d∧∃ks,d=lU ks∧ks.Nodup∧(∀k,k∈ks↔k∈l)∧ks.length≤l.length by
  obtain⟨d,h1,ks,rfl,h2⟩:=h
  exact⟨ks,h1,h2⟩
 refine fV rfl ?_
 refine cL (d:=lU []) rfl (L9 rfl) ?_
 refine Wb (xs:=l.map D.int) (λn env=>∃(ks:List Int)(v:SD),env=[.fro (aC l),.own (lU ks),v]∧ks.Nodup∧(∀k,k∈ks↔k∈l.take n)∧ks.length≤n) rfl (nO rfl) ⟨[],_,rfl,L8,λk=>by simp,A9 _⟩ ?_ ?_
 ·rintro k x env hx ⟨ks,v,rfl,h1,h2,h3⟩
  refine⟨by simp,?_⟩
  rw[C8]at hx
  cases qq:l[k]? with
  | none=>rw[qq]at hx;cases hx
  | some j=>
   rw[qq]at hx
   cases hx
   have hk:=(C3.mp qq).1
   refine⟨_,Oq (ks:=ks) (k:=j) rfl rfl rfl (by omega),mK ks j,_,rfl,Dz h1,λm=>?_,?_⟩
   ·rw[Ba,h2,P2,qq]
    simp
   ·have:=Bb ks j
    omega
 ·rintro env ⟨ks,v,rfl,h1,h2,h3⟩
  rw[B0,V3]at *
  exact sU rfl ⟨_,rfl,ks,rfl,h1,h2,h3⟩
theorem Jh{fi:FA}{fr:List Nat}{fc:FT}{fe:FE}{e:DE}{ms:List Int}(p:Int→Bool)(φ:Int→D)(h1:fi e=some (ms.map D.int))(hn:ms.length≤1000)(hc:∀m∈ms,fc (some (.int m)::fM e fr)=some (p m))(he:∀m∈ms,p m=true→fe (some (.int m)::fM e fr)=some (φ m)) :
  cZ fi fr fc fe e=some (.lst ((ms.filter p).map φ)):=by
 refine Aw h1 (by rw[B0];omega) ?_
 clear h1 hn
 induction ms with
 | nil=>rw[E2];unfold jK;rfl
 | cons m ms ih=>
  have ih:=ih (λy hy=>hc y (B4 _ hy)) λy hy=>he y (B4 _ hy)
  rw[B8]
  unfold jK
  rw[hc m B7,D2,P9]
  cases q:p m with
  | true=>rw[if_pos rfl,if_pos rfl,he m B7 q,D2,ih];rfl
  | false=>rw[if_neg (by decide),if_neg (by decide)];exact ih
theorem sV{fi:FA}{fr:List Nat}{fc:FT}{fe:FE}{e:DE}{ms:List Int}(p:Int→Bool)(φ:Int→Int)(h1:fi e=some (ms.map D.int))(hn:ms.length≤1000)(hc:∀m∈ms,fc (some (.int m)::fM e fr)=some (p m))(he:∀m∈ms,p m=true→fe (some (.int m)::fM e fr)=some (.int (φ m))) :
  cZ fi fr fc fe e=some (aC ((ms.filter p).map φ)):=by
 rw[Jh p (λm=>.int (φ m)) h1 hn hc he]
 unfold aC
 rw[K1]
 rfl
theorem Bc(ns:List Int):rJ [aC ns]=some (dTup ns):=by
 unfold rJ
 dsimp only
 rw[show jG (aC ns)=some (ns.map D.int)from by unfold aC jG;rfl,D2,if_pos (bY _)]
 rfl
theorem Ea{ns:List Int}(h:0<ns.length):uX [aC ns]=some (.int (zY ns)):=by
 show (intsOf (ns.map D.int)).bind _=_
 rw[eX,D2,if_pos h]
theorem Bd{α β:Type}(φ:α→β)(l:List α)(lo hi:Option Int):lH (l.map φ) lo hi=(lH l lo hi).map φ:=by
 unfold lH
 rw[B0,←List.map_drop,←List.map_take]
theorem sW{b:Bool}{f:FE}{l h:FO}{e:DE}{ns:List Int}{lo hi:Option Int}(h1:f e=some (aC ns))(h2:l e=some lo)(h3:h e=some hi):Il b f l h e=some (aC (lH ns lo hi)):=by
 rw[Zy h1 h2 h3 (.inr (by rw[Bd];exact bY _)),Bd]
theorem Ot{α:Type}(l:List α)(c:Nat):lH l none (some (c:Int))=l.take c:=by
 unfold lH
 show (l.drop 0).take (HT.qL l.length l.length (some (c:Int))-0)=_
 rw[rA,List.drop_zero,Nat.sub_zero]
 rcases G7 c l.length with z | z
 ·rw[show min c l.length=c by omega]
 ·rw[show min c l.length=l.length by omega,N4 (A9 _),N4 z]
theorem Ou{α:Type}(l:List α)(a b:Nat):lH l (some (a:Int)) (some (b:Int))=(l.drop a).take (b-a):=by
 unfold lH
 rw[rA,rA]
 refine N1 λk=>?_
 rw[U2,O4,U2,O4]
 rcases G7 a l.length with z | z
 ·rw[show min a l.length=a by omega]
  by_cases c:k<min b l.length-a
  ·rw[if_pos c,if_pos (by omega)]
  ·rw[if_neg c]
   by_cases c2:k<b-a
   ·rw[if_pos c2,F8 (by omega)]
   ·rw[if_neg c2]
 ·rw[show min a l.length=l.length by omega,F8 (show l.length≤l.length+k by omega),F8 (show l.length≤a+k by omega)]
  split<;>split<;>rfl
structure QB where
 VD:Int
 place:Int
 thing:List Int
 needs:List Int
 deriving Inhabited
def jr(c:QB):D:=.tup [.int c.VD,.int c.place,dTup c.thing,dTup c.needs]
def jt(cs:List QB):D:=.lst (cs.map jr)
abbrev at_(cs:List QB)(k:Nat):QB:=cs.getD k default
theorem sX(ns ms:List Int):Fg (aC ns) (aC ms)=some (.bl (!decide (ns=ms))):=by
 have e:∀l:List Int,bR (aC l)=some (.lst (l.map DV.int)):=λl=>by unfold aC bR;rw[mJ];rfl
 unfold Fg
 rw[e,e]
 unfold toV
 dsimp only
 rw[if_pos (by rw[lZ];decide)]
 congr 3
 rw[F7,gB,decide_eq_true_iff]
 constructor
 ·intro z;injection z with z;exact zL.mp z
 ·intro z;rw[z]
theorem BJ(ns:List Int):Ss (aC ns) (.lst [])=some (.bl (decide (ns=[]))):=Oe ns []
theorem yH(ns:List Int):Fg (aC ns) (.lst [])=some (.bl (!decide (ns=[]))):=sX ns []
end L2
namespace L2
theorem kI{f:FE}{e:DE}{i:Int}(h:f e=some (.int i)):cV f e=some (some i):=by unfold cV;rw[h];rfl
theorem Ov(ks:List Int):xJ [lU ks]=some (aC ks):=by
 show some (D.lst ((ks.map (D8:Int→Key)).map kD))=_
 rw[Jf]
theorem kJ{f:FE}{e:DE}{ns:List Int}(h:f e=some (dTup ns)):fH f e=some (ns.map D.int):=Oc h
end L2
namespace L2
end L2


namespace L2
open PySem PySem.Spec PyProof.Rows
theorem Be{α:Type}(p:α→Bool)(l:List α):Ml [.lst (l.map λx=>D.bl (p x))]=some (.bl (l.all p)):=by
 show (gH (l.map λx=>D.bl (p x))).map _=_
 rw[jX]
 show some (D.bl ((l.map p).all id))=_
 rw[List.all_map]
 rfl
end L2


namespace L2
open PySem PySem.Spec PyProof.Rows
section
variable{i j:Nat}{f f':FE}{c:FT}{g1 g2 g gb:GS}{env env':EN}{d d0 d' r:D}{ds:List D}{Pr:SR→Prop}{v:V}{π:FP}{p:List Step}
theorem Eb{ks:List Int}(h:ks.length<64):nH [lU ks]=some (aC (sortI ks)):=by
 show (nG (ks.map D8)).bind _=_
 rw[vH,D2,if_pos h]
end
end L2


local macro_rules | `(tactic| walk_at "fs")=>`(tactic| exact⟨rfl,rfl,rfl,by decide +kernel,rfl,by decide +kernel,by decide +kernel⟩)
namespace Rs
open PySem L2
def top(i:Nat):Stmt:=PySem.Challenge.pw_ripestone_k04_closures_join.main.body.getD i (.Pass ⟨0,0,0,0⟩)
abbrev pF:Stmt:=top 8
noncomputable def vO:GS:=aR (cI 1 (mC (aF (Sh aN) aN)))
 (aR (mG [] 2 (fH (aG 0)) (aR (cI 3 (f2 uD (aG 2) (fC (.int 4))))
 (aR (cI 4 (mC aN))
 (aR (jM 5 (iR (aF (f2 rD (aG 2) (fC (.int 4))) aN)) (aR (tX (fB (f2 (Yl true) (f2 rD (aG 3) (fL gG (aF (aG 1) aN))) (aG 4))) (nD 4 gK (f2 rD (aG 3) (fL gG (aF (aG 1) aN)))) fD)
 (cI 3 (f2 uD (aG 3) (fL gG (aF (aG 1) aN))))))
 (nD 1 gK (fL rJ (aF (aG 4) aN)))))))
 (iT 1))
noncomputable def gP:List D→Option D:=iG 6 1 (vO)
abbrev mL:Stmt:=top 9
noncomputable def sY:GS:=aR (cI 2 (mC aN))
 (aR (jM 3 (iR (aF (fL gG (aF (Il false (aG 0) (rM) (cV (fC (.int 61)))) aN)) aN)) (tX (fB (f2 Ss (f2 rD (f2 uD (f2 xG (aG 0) (aG 3)) (aG 1)) (fC (.int 2))) (fC (.int 1)))) (nD 2 gK (iW (aG 3))) fD))
 (iT 2))
noncomputable def dH:List D→Option D:=iG 4 2 (sY)
abbrev yI:Stmt:=top 1
noncomputable def Uq:GS:=aR (cI 1 (fC (.dk [] [])))
 (aR (mG [] 2 (fH (aG 0)) (jL 1 gK (aG 2) (fC (.bl true))))
 (iT 1))
noncomputable def kO:List D→Option D:=iG 3 1 (Uq)
abbrev sZ:Stmt:=top 3
noncomputable def Bf:GS:=aR (cI 2 (cH 1 kO (aF (aG 1) aN)))
 (aR (cI 3 (fL xJ (aF (aG 2) aN)))
 (aR (dF (fB (f2 IV (fL gG (aF (aG 3) aN)) (fC (.int 0)))) (aR (sG 3 4)
 (mG [4] 5 (fH (f2 xG (aG 0) (aG 4))) (tX (fB (f2 (mD true) (aG 5) (aG 2))) (aR (jL 2 gK (aG 5) (fC (.bl true)))
 (nD 3 gK (iW (aG 5)))) fD))) 400)
 (iD (fL nH (aF (aG 2) aN)))))
noncomputable def dU:List D→Option D:=iG 6 2 (Bf)
abbrev tD:Stmt:=top 7
noncomputable def Bg:GS:=aR (tX (fB (f2 RM (aG 1) (fL gG (aF (aG 0) aN)))) (iD (iW (f2 xG (aG 0) (aG 1)))) fD)
 (iD (fC (.int 0)))
noncomputable def jQ:List D→Option D:=iG 2 2 (Bg)
abbrev eG:Stmt:=top 4
noncomputable def nP:GS:=aR (cI 3 (Dt (aG 2)))
 (aR (jM 4 (zZ (aF (f2 nA (aG 2) (fC (.int 1))) (aF (f2 nA (aG 1) (fC (.int 1))) aN))) (tX (fB (fL Sy (aF (cZ (fH (f2 xG (aG 0) (aG 4))) [3] vA (f2 (mD false) (aG 0) (aG 1))) aN))) (jL 3 gK (aG 4) (fC (.bl true))) fD))
 (iT 3))
noncomputable def cX:List D→Option D:=iG 5 3 (nP)
abbrev yJ:Stmt:=top 5
noncomputable def Ox:GS:=aR (cI 3 (cH 3 cX (aF (aG 0) (aF (aG 1) (aF (aG 2) aN)))))
 (aR (tX (fB (f2 (mD true) (aG 1) (aG 3))) (iD (mC aN)) fD)
 (aR (cI 4 (iW (aG 1)))
 (aR (cI 5 (mC (aF (iW (aG 4)) aN)))
 (aR (dF (fB (f2 Fg (aG 4) (aG 2))) (aR (cI 4 (fL uX (aF (cZ (fH (f2 xG (aG 0) (aG 4))) [3] (fB (f2 (mD false) (aG 0) (aG 1))) (iW (aG 0))) aN)))
 (nD 5 gK (iW (aG 4)))) 400)
 (iT 5)))))
noncomputable def tE:List D→Option D:=iG 6 3 (Ox)
abbrev jR:Stmt:=top 10
noncomputable def pM:GS:=aR (mG [] 3 (fH (aG 1)) (tX (fB (f2 Fg (cH 3 tE (aF (aG 0) (aF (aG 3) (aF (aG 2) aN)))) (mC aN))) (iD (fC (.bl true))) fD))
 (iD (fC (.bl false)))
noncomputable def cA:List D→Option D:=iG 4 3 (pM)
abbrev kW:Stmt:=top 2
noncomputable def vP:GS:=aR (cI 2 (cH 1 kO (aF (aG 1) aN)))
 (aR (sH 2 3 (tX (zU (fB (fL Ml (aF (cZ (fH (f2 xG (aG 0) (aG 3))) [2] vA (f2 (mD false) (aG 0) (aG 1))) aN)))) (iD (fC (.bl false))) fD))
 (iD (fC (.bl true))))
noncomputable def eQ:List D→Option D:=iG 4 2 (vP)
abbrev Oz:Stmt:=top 11
noncomputable def KZ:GS:=aR (cI 1 (cH 1 gP (aF (cZ (fH (Il false (aG 0) (cV (fC (.int 1))) (cV (fC (.int 61))))) [] vA (f2 uD (aG 0) (fC (.int 4)))) aN)))
 (aR (cI 2 (cH 2 dH (aF (aG 0) (aF (fC (.int 1)) aN))))
 (aR (cI 3 (cH 2 dH (aF (aG 0) (aF (fC (.int 2)) aN))))
 (aR (cI 4 (cH 2 dU (aF (aG 1) (aF (aG 2) aN))))
 (aR (cI 5 (cH 2 dU (aF (aG 1) (aF (aG 3) aN))))
 (aR (tX (fB (f2 Fg (cH 2 dU (aF (aG 1) (aF (f2 nA (aG 2) (aG 3)) aN))) (f2 Gq (aG 4) (aG 5)))) (iD (fC (.bl false))) fD)
 (aR (tX (Yo (fB (f2 Fg (cH 2 dU (aF (aG 1) (aF (aG 4) aN))) (aG 4))) (Yo (fB (f2 (NK true) (cH 2 eQ (aF (aG 1) (aF (aG 5) aN))) (fC (.bl true)))) (fB (f2 (NK true) (cH 2 eQ (aF (aG 1) (aF (aG 4) aN))) (fC (.bl true)))))) (iD (fC (.bl false))) fD)
 (aR (cI 6 (f2 uD (cH 2 jQ (aF (aG 0) (aF (fC (.int 0)) aN))) (fC (.int 4))))
 (aR (tX (xH (fB (f2 Fg (aG 4) (mC aN))) (zU (fB (cH 3 cA (aF (aG 1) (aF (aG 2) (aF (f2 xG (aG 4) (f2 rD (aG 6) (fL gG (aF (aG 4) aN)))) aN))))))) (iD (fC (.bl false))) fD)
 (aR (cI 7 (cZ (iR (aF (fL gG (aF (aG 1) aN)) aN)) [4] (fB (f2 (Yl true) (aG 0) (aG 1))) (iW (aG 0))))
 (aR (tX (fB (f2 Ss (aG 7) (mC aN))) (iD (fC (.bl true))) fD)
 (iD (zV (cH 3 cA (aF (aG 1) (aF (Il false (aG 2) (rM) (cV (fC (.int 3)))) (aF (f2 xG (aG 7) (f2 rD (aG 6) (fL gG (aF (aG 7) aN)))) aN))))))))))))))))
noncomputable def BK:List D→Option D:=iG 8 1 (KZ)
section
variable{P:Program}{w:World}{K:aA}{mg:Str→Option Value}{base:Heap}
theorem cO:bJ ["cells", "needs", "cell", "rest", "picks", "turn"] ["cells"] (aJ pF):=by walk_at "fs"
theorem Bh(R:Raw K mg "_law_needs" pF) (dX:mg "range" = none) (iJ:mg "len" = none) (Ec:mg "tuple" = none):qY P w K mg base "_law_needs" 1 1 (tW K 1 gP):=by
 refine R.xV cO (λ_ _ _ _ _ _ us hl=>match us,hl with | [_],_=>rfl) (λ_ _ _ _ _ _ _ hr=>?_)
 have lJ:=hr.units
 have hu:=lM hr
 exact⟨_,aL (bK (i:=1) (rH (Fj (Yn oV) oV)) (λh=>bH cO.nd rfl (by first | exact E7 rfl | exact E6 rfl) h))
  (aL (xR [] PassesOwn.never rfl (jJ (aK (pv 0))) (dZ (i:=2) cO.nd rfl (by first | exact E7 rfl | exact E6 rfl)) (aL (bK (i:=3) (rF (aK (pv 2)) (XN.r (bW))) (λh=>bH cO.nd rfl (by first | exact E7 rfl | exact E6 rfl) h))
  (aL (bK (i:=4) (rH oV) (λh=>bH cO.nd rfl (by first | exact E7 rfl | exact E6 rfl) h))
  (aL (xW PassesOwn.never rfl (vC rfl dX (aH (XN.r (oM (aK (pv 2)) (XN.r (bW)))) aP)) (dZ (i:=5) cO.nd rfl (by first | exact E7 rfl | exact E6 rfl)) (aL (iU (dC (zQ rfl) (Vl true) (XN.r (oM (aK (pv 3)) (XN.r (gF iB (iC rfl) rfl iJ J0 (aH (aK (pv 1)) aP))))) (aK (pv 4)) (by with_unfolding_all rfl)) (aW (rR (Ac (pv 4)) (oM (aK (pv 3)) (XN.r (gF iB (iC rfl) rfl iJ J0 (aH (aK (pv 1)) aP)))) (λa b=>mQ (zB G3 J3 J4 eO a (gY b lX))))) dW)
  (aW (bK (i:=3) (rF (aK (pv 3)) (XN.r (gF iB (iC rfl) rfl iJ J0 (aH (aK (pv 1)) aP)))) (λh=>bH cO.nd rfl (by first | exact E7 rfl | exact E6 rfl) h)))))
  (aW (rR (Ac (pv 1)) (Vq Mi (Mj rfl) rfl Ec PyProof.Rows.boot_tuple (aH (aK (pv 4)) aP)) (λa b=>mQ (zB G3 J3 J4 eO a (gY b lX)))))))))
  (aW (nC (pv 1))))⟩
theorem jT:bJ ["script", "half", "picked", "k"] ["script", "half"] (aJ mL):=by walk_at "fs"
theorem yK(R:Raw K mg "_law_picked" mL) (iJ:mg "len" = none) (dX:mg "range" = none):qY P w K mg base "_law_picked" 1 2 (tW K 2 dH):=by
 refine R.xV jT (λ_ _ _ _ _ _ us hl=>match us,hl with | [_,_],_=>rfl) (λ_ _ _ _ _ _ _ hr=>?_)
 have lJ:=hr.units
 have hu:=lM hr
 exact⟨_,aL (bK (i:=2) (rH oV) (λh=>bH jT.nd rfl (by first | exact E7 rfl | exact E6 rfl) h))
  (aL (xW PassesOwn.never rfl (vC rfl dX (aH (XN.r (gF iB (iC rfl) rfl iJ J0 (aH (rN (aK (pv 0)) (Fq) (pX (XN.r (bW)))) aP))) aP)) (dZ (i:=3) jT.nd rfl (by first | exact E7 rfl | exact E6 rfl)) (aW (iU (dC (or_eq lJ rfl) Vk (XN.r (oM (XN.r (rF (pK (aK (pv 0)) (aK (pv 3)) (λ_ _=>rfl)) (aK (pv 1)))) (XN.r (bW)))) (XN.r (bW)) (eU _)) (aW (rR (Ac (pv 2)) (XR.n (aK (pv 3))) (λa b=>mQ (zB G3 J3 J4 eO a (gY b lX))))) dW)))
  (aW (nC (pv 2))))⟩
theorem tG:bJ ["numbers", "marks", "number"] ["numbers"] (aJ yI):=by walk_at "fs"
theorem Ji(R:Raw K mg "marked" yI):qY P w K mg base "marked" 1 1 (tW K 1 kO):=by
 refine R.xV tG (λ_ _ _ _ _ _ us hl=>match us,hl with | [_],_=>rfl) (λ_ _ _ _ _ _ _ hr=>?_)
 have lJ:=hr.units
 have hu:=lM hr
 exact⟨_,aL (bK (i:=1) (Sw) (λh=>bH tG.nd rfl (by first | exact E7 rfl | exact E6 rfl) h))
  (aL (xR [] PassesOwn.never rfl (jJ (aK (pv 0))) (dZ (i:=2) tG.nd rfl (by first | exact E7 rfl | exact E6 rfl)) (aW (xU (Ac (pv 1)) (aK (pv 2)) (XN.r (gD)) (λa b c=>wK hu a b c rfl))))
  (aW (nC (pv 1))))⟩
theorem gQ:bJ ["needs", "some", "held", "unseen", "number", "need"] ["needs", "some"] (aJ sZ):=by walk_at "fs"
theorem Ed(R:Raw K mg "closure" sZ) (kY:qY P w K mg base "marked" 1 1 (tW K 1 kO)) (Pa:mg "list" = none) (iJ:mg "len" = none) (kZ:mg "sorted" = none):qY P w K mg base "closure" 2 2 (tW K 2 dU):=by
 refine R.xV gQ (λ_ _ _ _ _ _ us hl=>match us,hl with | [_,_],_=>rfl) (λ_ _ _ _ _ _ _ hr=>?_)
 have lJ:=hr.units
 have hu:=lM hr
 exact⟨_,aL (bK (i:=2) (cF kY (hr.mono (by decide)) rfl (aH (aK (pv 1)) aP)) (λh=>bH gQ.nd rfl (by first | exact E7 rfl | exact E6 rfl) h))
  (aL (bK (i:=3) (Vq Mg (qT rfl) rfl Pa PyProof.Rows.boot_list (aH (aK (pv 2)) aP)) (λh=>bH gQ.nd rfl (by first | exact E7 rfl | exact E6 rfl) h))
  (aL (Aa 400 PassesOwn.never (dC GF Lr (XN.r (gF iB (iC rfl) rfl iJ J0 (aH (aK (pv 3)) aP))) (XN.r (bW)) (eU _)) (aL (Uk (t:=3) (i:=4) (pv 3) (λa=>Xl G3 PySem.F.slot_list_pop PySem.F.type_list_pop Xm a) (λh=>bH gQ.nd rfl (by first | exact E7 rfl | exact E6 rfl) h))
  (aW (xR [4] PassesOwn.never rfl (jJ (pK (aK (pv 0)) (aK (pv 4)) (λ_ _=>rfl))) (dZ (i:=5) gQ.nd rfl (by first | exact E7 rfl | exact E6 rfl)) (aW (iU (uU hu (aK (pv 5)) (aK (pv 2))) (aL (xU (Ac (pv 2)) (aK (pv 5)) (XN.r (gD)) (λa b c=>wK hu a b c rfl))
  (aW (rR (Ac (pv 3)) (XR.n (aK (pv 5))) (λa b=>mQ (zB G3 J3 J4 eO a (gY b lX)))))) dW))))))
  (aW (dD (gF Dp (oG rfl) rfl kZ Q4 (aH (aK (pv 2)) aP))))))⟩
theorem Jj:bJ ["script", "k"] ["script", "k"] (aJ tD):=by walk_at "fs"
theorem Ef(R:Raw K mg "_law_cell" tD) (iJ:mg "len" = none):qY P w K mg base "_law_cell" 1 2 (tW K 2 jQ):=by
 refine R.xV Jj (λ_ _ _ _ _ _ us hl=>match us,hl with | [_,_],_=>rfl) (λ_ _ _ _ _ _ _ hr=>?_)
 have lJ:=hr.units
 have hu:=lM hr
 exact⟨_,aL (iU (dC GD Lr (aK (pv 1)) (XN.r (gF iB (iC rfl) rfl iJ J0 (aH (aK (pv 0)) aP))) (eU _)) (aW (dD (XR.n (pK (aK (pv 0)) (aK (pv 1)) (λ_ _=>rfl))))) dW)
  (aW (dD bW))⟩
theorem fW:bJ ["needs", "high", "low", "leading", "number"] ["needs", "high", "low"] (aJ eG):=by walk_at "fs"
theorem tH(R:Raw K mg "leading_down" eG) (dX:mg "range" = none) (BL:mg "any" = none):qY P w K mg base "leading_down" 1 3 (tW K 3 cX):=by
 refine R.xV fW (λ_ _ _ _ _ _ us hl=>match us,hl with | [_,_,_],_=>rfl) (λ_ _ _ _ _ _ _ hr=>?_)
 have lJ:=hr.units
 have hu:=lM hr
 exact⟨_,aL (bK (i:=3) (Nu (aK (pv 2)) Uw) (λh=>bH fW.nd rfl (by first | exact E7 rfl | exact E6 rfl) h))
  (aL (xW PassesOwn.never rfl (Ip (λh=>Ho rfl dX h) (aH (XN.r (xM (aK (pv 2)) (XN.r (bW)))) (aH (XN.r (xM (aK (pv 1)) (XN.r (bW)))) aP))) (dZ (i:=4) fW.nd rfl (by first | exact E7 rfl | exact E6 rfl)) (aW (iU (Cy (XN.r (gF Yx (Yz rfl) rfl BL PyProof.Rows.boot_any (aH (XN.r (pY ["need", "leading"] [3] rfl (.at (aJ eG) ["needs", "high", "low", "leading", "number"] (by decide +kernel)) (jJ (pK (aK (pv 0)) (aK (pv 4)) (λ_ _=>rfl))) (mR (by decide +kernel) rfl rfl) (λ_ _ _ _ _=>xO) (λ_ _ _ _ _=>Dc hu (aK (pv 0)) (aK (pv 1))))) aP)))) (aW (xU (Ac (pv 3)) (aK (pv 4)) (XN.r (gD)) (λa b c=>wK hu a b c rfl))) dW)))
  (aW (nC (pv 3))))⟩
theorem nQ:bJ ["needs", "high", "low", "leading", "number", "links"] ["needs", "high", "low"] (aJ yJ):=by walk_at "fs"
theorem Pb(R:Raw K mg "chain" yJ) (iK:qY P w K mg base "leading_down" 1 3 (tW K 3 cX)) (BP:mg "min" = none):qY P w K mg base "chain" 2 3 (tW K 3 tE):=by
 refine R.xV nQ (λ_ _ _ _ _ _ us hl=>match us,hl with | [_,_,_],_=>rfl) (λ_ _ _ _ _ _ _ hr=>?_)
 have lJ:=hr.units
 have hu:=lM hr
 exact⟨_,aL (bK (i:=3) (cF iK (hr.mono (by decide)) rfl (aH (aK (pv 0)) (aH (aK (pv 1)) (aH (aK (pv 2)) aP)))) (λh=>bH nQ.nd rfl (by first | exact E7 rfl | exact E6 rfl) h))
  (aL (iU (uU hu (aK (pv 1)) (aK (pv 3))) (aW (dD (rH oV))) dW)
  (aL (bK (i:=4) (XR.n (aK (pv 1))) (λh=>bH nQ.nd rfl (by first | exact E7 rfl | exact E6 rfl) h))
  (aL (bK (i:=5) (rH (Fj (XR.n (aK (pv 4))) oV)) (λh=>bH nQ.nd rfl (by first | exact E7 rfl | exact E6 rfl) h))
  (aL (Aa 400 PassesOwn.never (dC (zP lJ rfl) zO (aK (pv 4)) (aK (pv 2)) (eU _)) (aL (bK (i:=4) (gF Tc (Td rfl) rfl BP PyProof.Rows.boot_min (aH (XN.r (pY ["need", "leading"] [3] rfl (.at (aJ yJ) ["needs", "high", "low", "leading", "number", "links"] (by decide +kernel)) (jJ (pK (aK (pv 0)) (aK (pv 4)) (λ_ _=>rfl))) (mR (by decide +kernel) rfl rfl) (λ_ _ _ _ _=>Fv (Ym hu (aK (pv 0)) (aK (pv 1)))) (λ_ _ _ _ _=>XR.n (aK (pv 0))))) aP)) (λh=>bH nQ.nd rfl (by first | exact E7 rfl | exact E6 rfl) h))
  (aW (rR (Ac (pv 5)) (XR.n (aK (pv 4))) (λa b=>mQ (zB G3 J3 J4 eO a (gY b lX)))))))
  (aW (nC (pv 5)))))))⟩
theorem nR:bJ ["needs", "some", "number", "high"] ["needs", "some", "number"] (aJ jR):=by walk_at "fs"
theorem uE(R:Raw K mg "_law_chained" jR) (Eg:qY P w K mg base "chain" 2 3 (tW K 3 tE)):qY P w K mg base "_law_chained" 3 3 (tW K 3 cA):=by
 refine R.xV nR (λ_ _ _ _ _ _ us hl=>match us,hl with | [_,_,_],_=>rfl) (λ_ _ _ _ _ _ _ hr=>?_)
 have lJ:=hr.units
 have hu:=lM hr
 exact⟨_,aL (xR [] PassesOwn.never rfl (jJ (aK (pv 1))) (dZ (i:=3) nR.nd rfl (by first | exact E7 rfl | exact E6 rfl)) (aW (iU (dC (zP lJ rfl) zO (XN.r (cF Eg (hr.mono (by decide)) rfl (aH (aK (pv 0)) (aH (aK (pv 3)) (aH (aK (pv 2)) aP))))) (Dd aP) (eU _)) (aW (dD (gD))) dW)))
  (aW (dD (gD)))⟩
theorem mO:bJ ["needs", "some", "held", "number"] ["needs", "some"] (aJ kW):=by walk_at "fs"
theorem Bj(R:Raw K mg "is_closed" kW) (kY:qY P w K mg base "marked" 1 1 (tW K 1 kO)) (BR:mg "all" = none):qY P w K mg base "is_closed" 2 2 (tW K 2 eQ):=by
 refine R.xV mO (λ_ _ _ _ _ _ us hl=>match us,hl with | [_,_],_=>rfl) (λ_ _ _ _ _ _ _ hr=>?_)
 have lJ:=hr.units
 have hu:=lM hr
 exact⟨_,aL (bK (i:=2) (cF kY (hr.mono (by decide)) rfl (aH (aK (pv 1)) aP)) (λh=>bH mO.nd rfl (by first | exact E7 rfl | exact E6 rfl) h))
  (aL (Um PassesOwn.never rfl (pv 2) (dZ (i:=3) mO.nd rfl (by first | exact E7 rfl | exact E6 rfl)) (aW (iU (Ma (Cy (XN.r (gF Yw (Yy rfl) rfl BR PyProof.Rows.boot_all (aH (XN.r (pY ["need", "held"] [2] rfl (.at (aJ kW) ["needs", "some", "held", "number"] (by decide +kernel)) (jJ (pK (aK (pv 0)) (aK (pv 3)) (λ_ _=>rfl))) (mR (by decide +kernel) rfl rfl) (λ_ _ _ _ _=>xO) (λ_ _ _ _ _=>Dc hu (aK (pv 0)) (aK (pv 1))))) aP))))) (aW (dD (gD))) dW)))
  (aW (dD (gD))))⟩
theorem pN:bJ ["script", "needs", "some", "others", "one", "other", "at", "outside"] ["script"] (aJ Oz):=by walk_at "fs"
theorem BV{f:Addr}{fd:FuncData}(F:Qg K "law" "law" Oz f fd) (pG:qY P w K mg base "_law_needs" 1 1 (tW K 1 gP)) (iM:qY P w K mg base "_law_picked" 1 2 (tW K 2 dH)) (gR:qY P w K mg base "closure" 2 2 (tW K 2 dU)) (lA:qY P w K mg base "is_closed" 2 2 (tW K 2 eQ)) (tK:qY P w K mg base "_law_cell" 1 2 (tW K 2 jQ)) (fP:qY P w K mg base "_law_chained" 3 3 (tW K 3 cA)) (kZ:mg "sorted" = none) (BW:mg "set" = none) (iJ:mg "len" = none) (dX:mg "range" = none) (Zk:∀ns:List Int,ns.length≤63→(∀k∈ns,Small k)→BK [.lst (ns.map D.int)]=some (.bl true)):oE P w K mg base Jp 4 f fd ["script"] (RX K):=by
 refine F.dg pN (λcdv A outer s H E hr=>?_) Zk
 have lJ:=hr.units
 have hu:=lM hr
 exact⟨_,aL (bK (i:=1) (cF pG (hr.mono (by decide)) rfl (aH (XN.r (pY ["cell"] [] rfl (.at (aJ Oz) ["script", "needs", "some", "others", "one", "other", "at", "outside"] (by decide +kernel)) (jJ (rN (aK (pv 0)) (pX (XN.r (bW))) (pX (XN.r (bW))))) (mR (by decide +kernel) rfl rfl) (λ_ _ _ _ _=>xO) (λ_ _ _ _ _=>rF (aK (pv 0)) (XN.r (bW))))) aP)) (λh=>bH pN.nd rfl (by first | exact E7 rfl | exact E6 rfl) h))
  (aL (bK (i:=2) (cF iM (hr.mono (by decide)) rfl (aH (aK (pv 0)) (aH (XN.r (bW)) aP))) (λh=>bH pN.nd rfl (by first | exact E7 rfl | exact E6 rfl) h))
  (aL (bK (i:=3) (cF iM (hr.mono (by decide)) rfl (aH (aK (pv 0)) (aH (XN.r (bW)) aP))) (λh=>bH pN.nd rfl (by first | exact E7 rfl | exact E6 rfl) h))
  (aL (bK (i:=4) (cF gR (hr.mono (by decide)) rfl (aH (aK (pv 1)) (aH (aK (pv 2)) aP))) (λh=>bH pN.nd rfl (by first | exact E7 rfl | exact E6 rfl) h))
  (aL (bK (i:=5) (cF gR (hr.mono (by decide)) rfl (aH (aK (pv 1)) (aH (aK (pv 3)) aP))) (λh=>bH pN.nd rfl (by first | exact E7 rfl | exact E6 rfl) h))
  (aL (iU (dC (zP lJ rfl) zO (XN.r (cF gR (hr.mono (by decide)) rfl (aH (aK (pv 1)) (aH (XN.r (xM (aK (pv 2)) (aK (pv 3)))) aP)))) (XN.r (Ui (aK (pv 4)) (aK (pv 5)) rfl kZ Q4 rfl BW PyProof.Rows.boot_set)) (eU _)) (aW (dD (gD))) dW)
  (aL (iU (XW.xt (Vo (dC (zP lJ rfl) zO (XN.r (cF gR (hr.mono (by decide)) rfl (aH (aK (pv 1)) (aH (aK (pv 4)) aP)))) (aK (pv 4)) (eU _)) (Vo (dC uY uZ (XN.r (cF lA (hr.mono (by decide)) rfl (aH (aK (pv 1)) (aH (aK (pv 5)) aP)))) (XN.r (gD)) (eU _)) (Yr (dC uY uZ (XN.r (cF lA (hr.mono (by decide)) rfl (aH (aK (pv 1)) (aH (aK (pv 4)) aP)))) (XN.r (gD)) (eU _)))))) (aW (dD (gD))) dW)
  (aL (bK (i:=6) (rF (XN.r (cF tK (hr.mono (by decide)) rfl (aH (aK (pv 0)) (aH (XN.r (bW)) aP)))) (XN.r (bW))) (λh=>bH pN.nd rfl (by first | exact E7 rfl | exact E6 rfl) h))
  (aL (iU (XW.xt (Ys (dC (zP lJ rfl) zO (aK (pv 4)) (Dd aP) (eU _)) (Sx (Ma (Cy (XN.r (cF fP (hr.mono (by decide)) rfl (aH (aK (pv 1)) (aH (aK (pv 2)) (aH (pK (aK (pv 4)) (XN.r (oM (aK (pv 6)) (XN.r (gF iB (iC rfl) rfl iJ J0 (aH (aK (pv 4)) aP))))) (λ_ _=>rfl)) aP)))))))))) (aW (dD (gD))) dW)
  (aL (Tn (i:=7) ["number", "one"] [4] rfl (.at (aJ Oz) ["script", "needs", "some", "others", "one", "other", "at", "outside"] (by decide +kernel)) pN.nd rfl (by first | exact E7 rfl | exact E6 rfl) (Im rfl dX (aH (XN.r (gF iB (iC rfl) rfl iJ J0 (aH (aK (pv 1)) aP))) aP)) (mR (by decide +kernel) rfl rfl) (λ_ _ _ _ _=>Fv (dC (zQ rfl) (Vl true) (aK (pv 0)) (aK (pv 1)) (by with_unfolding_all rfl))) (λ_ _ _ _ _=>XR.n (aK (pv 0))))
  (aL (iU (dC (or_eq lJ rfl) Vk (aK (pv 7)) (Dd aP) (eU _)) (aW (dD (gD))) dW)
  (aW (dD (Yt (XN.r (cF fP (hr.mono (by decide)) rfl (aH (aK (pv 1)) (aH (rN (aK (pv 2)) (Fq) (pX (XN.r (bW)))) (aH (pK (aK (pv 7)) (XN.r (oM (aK (pv 6)) (XN.r (gF iB (iC rfl) rfl iJ J0 (aH (aK (pv 7)) aP))))) (λ_ _=>rfl)) aP))))))))))))))))))⟩
end
end Rs

namespace Rs
open PySem L2
local macro_rules | `(tactic| walk_at "lt")=>`(tactic| exact L9 rfl)
local macro_rules | `(tactic| walk_at "sc")=>`(tactic| first | omega | with_reducible assumption | exact Int.pow_pos (by decide) | exact cm_l (by omega) (by omega) | exact cm_r (by omega) (by omega))
local macro_rules | `(tactic| walk_at "op")=>`(tactic| first | with_reducible assumption | with_reducible exact kE _ _ | with_reducible exact dSub_int _ _ | with_reducible exact yD _ _ | with_reducible exact yE _ _ | with_reducible exact yC _ _ | with_reducible exact qF _ _ | with_reducible exact dGe_int _ _ | with_reducible exact dLe_int _ _ | with_reducible exact cQ _ | with_reducible exact sJ _ | with_reducible exact dLen_tup _ | ((with_reducible apply dMul_int);walk_at "sc") | ((with_reducible apply fG);walk_at "sc") | ((with_reducible apply dR);(walk_at "sc");walk_at "sc") | ((with_reducible apply dPow_int);exact⟨by decide,by decide,by omega⟩) | ((with_reducible apply jP);(walk_at "sc");walk_at "sc"))
local macro_rules | `(tactic| walk_at "ea")=>`(tactic| first | with_reducible exact faNil_ok | ((with_reducible apply aB);(walk_at "ev");walk_at "ea"))
local macro_rules | `(tactic| walk_at "ev")=>`(tactic| first | ((with_reducible apply fVar_ok);exact rfl) | with_reducible exact fC_ok | with_reducible assumption | ((with_reducible apply aU);(walk_at "ev");(walk_at "ev");walk_at "op") | ((with_reducible apply dO);(walk_at "ea");walk_at "op") | ((with_reducible apply bB);(walk_at "ea");exact rfl;with_reducible assumption) | ((with_reducible apply fO);(walk_at "ev");exact rfl) | ((with_reducible apply fNeg_ok);walk_at "ev") | ((with_reducible apply fTup_ok);(walk_at "ea");walk_at "lt") | ((with_reducible apply fLst_ok);(walk_at "ea");walk_at "lt"))
local macro_rules | `(tactic| walk_at "et")=>`(tactic| first | ((with_reducible apply xZ);walk_at "et") | ((with_reducible apply Dv);(walk_at "et");walk_at "et") | ((with_reducible apply fAnd_ok);(walk_at "et");walk_at "et") | ((with_reducible apply bZ);walk_at "ev"))
local macro_rules | `(tactic| walk_at "set")=>`(tactic| (apply sq_set;(walk_at "ev");(walk_at "lt")))
local macro_rules | `(tactic| walk_at "q")=>`(tactic| (apply cL;(walk_at "ev");(walk_at "lt")))
local macro_rules | `(tactic| walk_at "op")=>`(tactic| first | with_reducible assumption | with_reducible exact kE _ _ | with_reducible exact dSub_int _ _ | with_reducible exact yD _ _ | with_reducible exact yE _ _ | with_reducible exact yC _ _ | with_reducible exact qF _ _ | with_reducible exact dGe_int _ _ | with_reducible exact dLe_int _ _ | with_reducible exact cQ _ | with_reducible exact len_chs _ | with_reducible exact pD _ _ _ | with_reducible exact dMin2_int _ _ | with_reducible exact dMax2_int _ _ | with_reducible exact dIntB_bl _ | with_reducible exact ix_pane _ | with_reducible exact ix_place _ | with_reducible exact ix_thing _ | with_reducible exact ix_needs _ | ((with_reducible apply ix_chs);omega) | with_reducible exact sJ _ | with_reducible exact dLen_tup _ | ((with_reducible apply dMul_int);walk_at "sc") | ((with_reducible apply dMulB_int);(walk_at "sc");walk_at "sc") | ((with_reducible apply fG);walk_at "sc") | ((with_reducible apply dR);(walk_at "sc");walk_at "sc") | ((with_reducible apply dPow_int);exact⟨by decide,by decide,by omega⟩) | ((with_reducible apply jP);(walk_at "sc");walk_at "sc"))
theorem tL{i:Nat}{g:GS}(I:Nat→EN→Prop)(Rt:D→Prop):∀(xs:List D)(env:EN)(n:Nat),I n env→(∀k x env,xs[k]?=some x→I (n+k) env→i<env.length∧((∃env',g (env.set i (.fro x))=.next env'∧I (n+k+1) env')∨(∃d,g (env.set i (.fro x))=.ret d∧Rt d)))→(∃env',gJ i g xs env=.next env'∧I (n+xs.length) env')∨∃d,gJ i g xs env=.ret d∧Rt d
 | [],env,n,h,_=>.inl ⟨env,rfl,h⟩
 | x::xs,env,n,h,st=>by
  obtain⟨hl,q⟩:=st 0 x env rfl h
  unfold gJ
  rw[if_pos hl]
  rcases q with ⟨env',q1,q2⟩ | ⟨d,q1,q2⟩
  ·rw[q1]
   have:=tL I Rt xs env' (n+1) q2 λk y e hy hi=>by
    have z:=st (k+1) y e hy (by rw[show n+(k+1)=n+1+k by omega];exact hi)
    rw[show n+(k+1)=n+1+k by omega]at z
    exact z
   rw[D7,show n+(xs.length+1)=n+1+xs.length by omega]
   exact this
  ·rw[q1]
   exact .inr ⟨d,rfl,q2⟩
theorem Pg{i:Nat}{gb g:GS}{env:EN}{Pr:SR→Prop}{js:List Nat}{fi:FA}{fJ:EN}{xs:List D}(I:Nat→EN→Prop)(hf:fX js env=fJ)(h:fi (zE fJ)=some xs)(h0:I 0 fJ)
  (st:∀(k:Nat) x env,xs[k]?=some x→I k env→i<env.length∧Qs (λr=>(∃env',r=.next env'∧I (k+1) env')∨∃d,r=.ret d∧Pr (.ret d)) (gb (env.set i (.fro x)))) (k:∀env',I xs.length env'→Qs Pr (g env')):Qs Pr (aR (mG js i fi gb) g env):=by
 rcases tL (i:=i) (g:=gb) I (λd=>Pr (.ret d)) xs fJ 0 h0 λk x e hx hi=>by
  rw[F3]at hi ⊢
  exact⟨(st k x e hx hi).1,(st k x e hx hi).2⟩with ⟨env',h1,h2⟩ | ⟨d,h1,h2⟩
 ·rw[F3]at h2
  rw[cC ((qD hf h).trans h1)]
  exact k env' h2
 ·rw[sI ((qD hf h).trans h1)]
  exact h2
theorem LC{g1:GS}{env env':EN}{Pr:SR→Prop}(h:g1 env=.next env')(k:Pr (.next env')):Qs Pr (g1 env):=by rw[h];exact k
def iV(nd:List (List Int)):D:=.lst (nd.map dTup)
def nT(nd:List (List Int)):Prop:=∀(i:Nat)(r:List Int),nd[i]?=some r→(∀m∈r,0≤m∧m<(i:Int))∧r.length≤3
theorem Ph(nd:List (List Int))(r:List Int):D.lst (nd.map dTup++[dTup r])=iV (nd++[r]):=by unfold iV;rw[O0];rfl
theorem yL(nd:List (List Int)):gG [iV nd]=some (.int nd.length):=by unfold iV;rw[sJ,B0]
theorem Eh{nd:List (List Int)}{r:List Int}(h:nT nd)(hr:∀m∈r,0≤m∧m<(nd.length:Int))(hl:r.length≤3):nT (nd++[r]):=λi s hs=>by
 rw[List.getElem?_append]at hs
 split at hs
 ·exact h i s hs
 ·rename_i c
  have hi:i-nd.length=0:=by
   cases e:i-nd.length with
   | zero=>rfl
   | succ n=>rw[e]at hs;simp at hs
  rw[hi]at hs
  cases hs
  have:i=nd.length:=by omega
  subst this
  exact⟨hr,hl⟩
abbrev pH(nd:List (List Int))(k:Int):List Int:=nd.getD k.toNat []
theorem Ur{nd:List (List Int)}{k:Int}(h0:0≤k)(h1:k<nd.length):nd[k.toNat]?=some (pH nd k):=Ay (by omega)
theorem tQ{nd:List (List Int)}(h:nT nd){k:Int}(h0:0≤k){m:Int}(hm:m∈pH nd k):0≤m∧m<k:=by
 unfold pH at hm
 rw[D5]at hm
 cases e:nd[k.toNat]? with
 | none=>rw[e]at hm;cases hm
 | some r=>
  rw[e]at hm
  have:=(h _ r e).1 m hm
  omega
theorem qG{nd:List (List Int)}(h:nT nd)(k:Int):(pH nd k).length≤3:=by
 unfold pH
 rw[D5]
 cases e:nd[k.toNat]? with
 | none=>exact K0 _
 | some r=>exact(h _ r e).2
theorem Gz{nd:List (List Int)}{k:Int}(h0:0≤k)(h1:k<nd.length):xG (iV nd) (.int k)=some (dTup (pH nd k)):=Uo h0 (by rw[C8,Ur h0 h1];rfl)
theorem Bk{cells:List Int}(hl:cells.length≤60):∃nd,gP [aC cells]=some (iV nd)∧nd.length=cells.length+1∧nT nd:=by
  suffices h:∃d,gP [aC cells]=some d∧∃nd,d=iV nd∧nd.length=cells.length+1∧nT nd by
    obtain⟨d,h1,nd,rfl,h2⟩:=h
    exact⟨nd,h1,h2⟩
  refine fV rfl ?_
  unfold vO
  refine cL (d:=iV [[]]) rfl (by exact Nat.le_of_ble_eq_true rfl) ?_
  refine Wb (xs:=cells.map D.int) (λn env=>∃(nd:List (List Int))(v2 v3 v4 v5:SD),env=[.fro (aC cells),.own (iV nd),v2,v3,v4,v5]∧nd.length=n+1∧nT nd) rfl (nO rfl) ⟨[[]],_,_,_,_,rfl,rfl,λi r h=>by
    cases i with
    | zero=>cases h;exact⟨λm hm=>absurd hm L3,K0 _⟩
    | succ i=>simp at h⟩ ?_ ?_
  · rintro n x env hx ⟨nd,v2,v3,v4,v5,rfl,hn,hnd⟩
    refine⟨by walk_at "lt", ?_⟩
    rw[C8]at hx
    obtain⟨c,hc,rfl⟩:=dB hx
    have hk:=(C3.mp hc).1
    have np:(0:Int)<(nd.length:Int):=by omega
    refine cL (aU rfl rfl (dR (by decide) (by decide))) (by exact Nat.le_of_ble_eq_true rfl) ?_
    refine cL (d:=aC []) rfl (by exact Nat.le_of_ble_eq_true rfl) ?_
    have m0:=R5 c (show (4:Int)≠0 by decide)
    have m1:=O6 c (show (0:Int)<4 by decide)
    obtain⟨t,et⟩:∃t:Nat,c%4=t:=⟨(c%4).toNat,by omega⟩
    refine Gw (n:=t) (λj env=>∃(rest:Int)(ps:List Int)(v5:SD),env=[.fro (aC cells),.own (iV nd),.fro (.int c),.own (.int rest),.own (aC ps),v5]∧(∀m∈ps,0≤m∧m<(nd.length:Int))∧ps.length≤j) (yG (aB (aU rfl rfl ((fG (by decide)).trans (by rw[et]))) rfl) (by omega)) ⟨_,[],_,rfl,λm hm=>absurd hm L3,A9 _⟩ ?_ ?_
    · rintro j env hj ⟨rest,ps,v5,rfl,h1,h2⟩
      refine⟨by walk_at "lt", ?_⟩
      have e1:∀v,f2 rD (aG 3) (fL gG (aF (aG 1) aN)) (rE [.fro (aC cells),.own (iV nd),.fro (.int c),.own (.int rest),.own (aC ps),v])=some (.int (rest%nd.length)):=λv=>aU rfl (dO (aB rfl rfl) (yL nd)) (fG np)
      refine Oi (bZ (aU (e1 _) rfl (Az true _ _))) (λhb=>?_) λ_=>Dw ?_
      · refine KY rfl (e1 _) (by rw[B0];omega) ?_
        refine Oh (aU rfl (dO (aB rfl rfl) (yL nd)) (dR np (by omega))) (by exact Nat.le_of_ble_eq_true rfl) ?_
        refine⟨_,rfl,rest/nd.length,ps++[rest%nd.length],.fro (.int j),?_,λm hm=>?_,by rw[D1];exact V4 h2⟩
        · rw[←iI]
          rfl
        · rcases D4.mp hm with q | q
          · exact h1 m q
          · rw[B9.mp q]
            exact⟨R5 _ (by omega),O6 _ np⟩
      · refine Oh (aU rfl (dO (aB rfl rfl) (yL nd)) (dR np (by omega))) (by exact Nat.le_of_ble_eq_true rfl) ?_
        exact⟨_,rfl,rest/nd.length,ps,_,rfl,h1,by omega⟩
    · rintro env ⟨rest,ps,v5,rfl,h1,h2⟩
      refine yF rfl (dO (aB rfl rfl) (Bc _)) (by rw[B0];omega) ⟨_,rfl,nd++[ps],.fro (.int c),.own (.int rest),.own (aC ps),v5,?_,by rw[D1,hn];rfl,Eh hnd h1 (by omega)⟩
      rw[←Ph]
      rfl
  · rintro env ⟨nd,v2,v3,v4,v5,rfl,hn,hnd⟩
    rw[B0]at hn
    exact sU rfl ⟨_,rfl,nd,rfl,hn,hnd⟩
theorem nU{ns:List Int}{half:Int}(h0:0<half)(h1:half<5):∃ps,dH [aC ns,.int half]=some (aC ps)∧(∀p∈ps,0≤p∧p<(ns.length:Int)∧p<61)∧ps.length≤61:=by
  suffices h:∃d,dH [aC ns,.int half]=some d∧∃ps,d=aC ps∧(∀p∈ps,0≤p∧p<(ns.length:Int)∧p<61)∧ps.length≤61 by
    obtain⟨d,h1,nd,rfl,h2⟩:=h
    exact⟨nd,h1,h2⟩
  refine fV rfl ?_
  unfold sY
  refine cL (d:=aC []) rfl (by exact Nat.le_of_ble_eq_true rfl) ?_
  have hr:iR (aF (fL gG (aF (Il false (aG 0) (rM) (cV (fC (.int 61)))) aN)) aN) (rE [.fro (aC ns),.fro (.int half),.own (aC []),.no])=some (bQ 0 (ns.take 61).length):=yG (aB (dO (aB ((sW (ns:=ns) (lo:=none) (hi:=some ((61:Nat):Int)) rfl rfl (kI rfl)).trans (by rw[Ot])) rfl) (cQ _)) rfl) (by rw[K8];omega)
  have hq:(ns.take 61).length≤61∧(ns.take 61).length≤ns.length:=by rw[K8];omega
  generalize (ns.take 61).length=q at hr hq
  refine Gw (n:=q) (λj env=>∃(ps:List Int)(v3:SD),env=[.fro (aC ns),.fro (.int half),.own (aC ps),v3]∧(∀p∈ps,0≤p∧p<(j:Int))∧ps.length≤j) hr ⟨[],_,rfl,λm hm=>absurd hm L3,A9 _⟩ ?_ ?_
  · rintro j env hj ⟨ps,v3,rfl,a1,a2⟩
    refine⟨by walk_at "lt", ?_⟩
    refine Ax (bZ (aU (aU (aU (aU rfl rfl (jP (by omega) (by omega))) rfl (dR h0 (by omega))) rfl (fG (by decide))) rfl (yD _ _))) (λhb=>?_) λ_=>⟨_,rfl,ps,_,rfl,λp hp=>by have:=a1 p hp;omega,by omega⟩
    refine yF rfl (fO (d:=.int j) rfl rfl) (by rw[B0];omega) ⟨_,rfl,ps++[(j:Int)],.fro (.int j),?_,λm hm=>?_,by rw[D1];exact V4 a2⟩
    · rw[←iI]
      rfl
    · rcases D4.mp hm with q | q
      · have:=a1 m q;omega
      · rw[B9.mp q];omega
  · rintro env ⟨ps,v3,rfl,a1,a2⟩
    exact sU rfl ⟨_,rfl,ps,rfl,λp hp=>by have:=a1 p hp;omega,by omega⟩
inductive Reach(nd:List (List Int))(ns:List Int):Int→Prop
 | base {n:Int}:n∈ns→Reach nd ns n
 | step {n m:Int}:Reach nd ns n→m∈pH nd n→Reach nd ns m
theorem nW{nd:List (List Int)}{ns:List Int}(h:nT nd)(hin:∀n∈ns,0≤n∧n<(nd.length:Int)){n:Int}(r:Reach nd ns n):0≤n∧n<(nd.length:Int):=by
 induction r with
 | base q=>exact hin _ q
 | step _ hm ih=>
  have:=tQ h ih.1 hm
  omega
theorem lB{nd:List (List Int)}{ns ms:List Int}(h:∀x∈ns,Reach nd ms x){n:Int}(r:Reach nd ns n):Reach nd ms n:=by
 induction r with
 | base q=>exact h _ q
 | step _ hm ih=>exact .step ih hm
theorem Jk{nd:List (List Int)}{ns ms:List Int}{n:Int}:Reach nd (ns++ms) n↔Reach nd ns n∨Reach nd ms n:=by
  constructor
  · intro r
    induction r with
    | base q=>exact(D4.mp q).elim (λz=>.inl (.base z)) λz=>.inr (.base z)
    | step _ hm ih=>exact ih.elim (λz=>.inl (.step z hm)) λz=>.inr (.step z hm)
  · rintro(r | r)
    · exact lB (λx hx=>.base (E1 _ hx)) r
    · exact lB (λx hx=>.base (C5 _ hx)) r
theorem vQ{l:List Int}(hl:l.length≤900):∃ks,kO [aC l]=some (lU ks)∧ks.Nodup∧(∀k,k∈ks↔k∈l)∧ks.length≤l.length:=Up hl
theorem Pj{t i:Nat}{env:EN}{us:List Int}{z:Int}(h:env[t]?=some (.own (aC (us++[z]))))(hi:i<env.length)(hit:i≠t):sG t i env=.next ((env.set t (.own (aC us))).set i (.own (.int z))):=by
 unfold sG
 rw[h]
 dsimp only
 rw[show intsOf ((us++[z]).map D.int)=some (us++[z])from eX _]
 dsimp only
 rw[List.getLast?_concat]
 dsimp only
 rw[if_pos ⟨hi,hit⟩,List.dropLast_concat]
structure DK(nd:List (List Int))(ns ks us:List Int)(z:Option (Int×Nat)):Prop where
 DN:ks.Nodup
 re:∀j∈ks,Reach nd ns j
 base:∀j∈ns,j∈ks
 sub:∀j∈us,j∈ks
 cl:∀i∈ks,i∉us→(∀p,z=some p→i≠p.1)→∀m∈pH nd i,m∈ks
 at_:∀p,z=some p→p.1∈ks∧∀m∈(pH nd p.1).take p.2,m∈ks
theorem iQ{nd:List (List Int)}{ns:List Int}(h:nT nd)(hl:nd.length≤61)(hin:∀n∈ns,0≤n∧n<(nd.length:Int))(hnl:ns.length≤200):∃cs,dU [iV nd,aC ns]=some (aC cs)∧cs.Pairwise (·<·)∧(∀j,j∈cs↔Reach nd ns j)∧cs.length≤61:=by
  suffices hh:∃d,dU [iV nd,aC ns]=some d∧∃cs,d=aC cs∧cs.Pairwise (·<·)∧(∀j,j∈cs↔Reach nd ns j)∧cs.length≤61 by
    obtain⟨d,h1,nd,rfl,h2⟩:=hh
    exact⟨nd,h1,h2⟩
  have few:∀{ks us:List Int} {z:Option (Int×Nat)},DK nd ns ks us z→ks.length≤nd.length:=λ{ks us z} W=>uR _ _ W.DN λj hj=>nW h hin (W.re j hj)
  obtain⟨k0,m1,m2,m3,m4⟩:=vQ (l:=ns) (by omega)
  refine fV rfl ?_
  unfold Bf
  refine cL (bB (aB rfl rfl) rfl m1) (by exact Nat.le_of_ble_eq_true rfl) ?_
  refine cL (dO (aB rfl rfl) (Ov k0)) (by exact Nat.le_of_ble_eq_true rfl) ?_
  have W0:DK nd ns k0 k0 none:=⟨m2,λj hj=>.base ((m3 j).mp hj),λj hj=>(m3 j).mpr hj,λj hj=>hj,λi hi hn=>absurd hi hn,λp z=>by cases z⟩
  have hk0:=few W0
  refine Gy (n:=61) (λn env=>∃(ks us:List Int)(v4 v5:SD),env=[.fro (iV nd),.fro (aC ns),.own (lU ks),.own (aC us),v4,v5]∧DK nd ns ks us none∧61-ks.length+us.length≤n∧n≤61) ⟨k0,k0,_,_,rfl,W0,by omega,A9 _⟩ (by omega) ?_ ?_
  · rintro n env ⟨ks,us,v4,v5,rfl,W,hn,hn61⟩
    have hkl:=few W
    have ec:fB (f2 IV (fL gG (aF (aG 3) aN)) (fC (.int 0))) (rE [.fro (iV nd),.fro (aC ns),.own (lU ks),.own (aC us),v4,v5])=some (decide ((0:Int)<us.length)):=bZ (aU (dO (aB rfl rfl) (cQ us)) rfl (qF _ _))
    rcases List.eq_nil_or_concat us with hus | ⟨us',z,hus⟩
    · subst hus
      exact .inl ec
    · rw[List.concat_eq_append]at hus
      subst hus
      have hlen:(us'++[z]).length=us'.length+1:=by rw[D1];rfl
      rw[decide_eq_true (by omega)]at ec
      refine .inr ⟨ec,by omega,?_⟩
      have ZJ:z∈ks:=W.sub z (by simp)
      obtain⟨hz0,hz1⟩:=nW h hin (W.re z ZJ)
      have hrl:=qG h z
      suffices hq:Qs (λr=>∃env',r=.next env'∧∃(ks us:List Int)(v4 v5:SD),env'=[.fro (iV nd),.fro (aC ns),.own (lU ks),.own (aC us),v4,v5]∧DK nd ns ks us none∧61-ks.length+us.length≤n-1∧n-1≤61) (aR (sG 3 4)
  (mG [4] 5 (fH (f2 xG (aG 0) (aG 4))) (tX (fB (f2 (mD true) (aG 5) (aG 2))) (aR (jL 2 gK (aG 5) (fC (.bl true)))
  (nD 3 gK (iW (aG 5)))) fD)) [.fro (iV nd),.fro (aC ns),.own (lU ks),.own (aC (us'++[z])),v4,v5])from hq
      refine KR (Pj rfl (by exact Nat.le_of_ble_eq_true rfl) (by decide)) ?_
      refine Zz (xs:=(pH nd z).map D.int) (λj env=>∃(yO Pk:List Int)(v5:SD),env=[.fro (iV nd),.fro (aC ns),.own (lU yO),.own (aC Pk),.fro (.int z),v5]∧DK nd ns yO Pk (some (z,j))∧61-yO.length+Pk.length≤n-1) rfl (kJ (aU rfl rfl (Gz hz0 hz1)))
        ⟨ks,us',_,rfl,⟨W.DN,W.re,W.base,λj hj=>W.sub j (by simp[hj]),λi hi hn' hz=>?_,λq hq=>by
          cases hq
          exact⟨ZJ,λm hm=>by rw[List.take_zero]at hm;cases hm⟩⟩,by omega⟩ ?_ ?_
      · have hne:=hz (z,0) rfl
        exact W.cl i hi (λhh=>by
          rcases D4.mp hh with q | q
          · exact hn' q
          · exact hne (B9.mp q)) (λp hp=>by cases hp)
      · rintro j x env hx ⟨yO,Pk,v5,rfl,W4,hms⟩
        refine⟨by walk_at "lt", ?_⟩
        rw[C8]at hx
        obtain⟨m,hm,rfl⟩:=dB hx
        have hmem:m∈pH nd z:=E9 hm
        have hj:=(C3.mp hm).1
        have ju:=few W4
        have htk:(pH nd z).take (j+1)=(pH nd z).take j++[m]:=L2.take_snoc hm
        refine Ax (bZ (aU rfl rfl (pD true m yO))) (λhb=>?_) λhb=>?_
        · have c:m∉yO:=by simpa using hb
          have W5:DK nd ns (yO++[m]) (Pk++[m]) (some (z,j+1)):=by
            obtain⟨q1,q2⟩:=W4.at_ (z,j) rfl
            refine⟨L2.Ew W4.DN c,λi hi=>?_,λi hi=>E1 _ (W4.base i hi),λi hi=>?_,λi hi hn hz n hn2=>?_,λq h=>?_⟩
            · rcases D4.mp hi with q | q
              · exact W4.re i q
              · rw[B9.mp q];exact .step (W4.re z q1) hmem
            · rcases D4.mp hi with q | q
              · exact E1 _ (W4.sub i q)
              · exact C5 _ q
            · have jw:i∈yO:=by
                rcases D4.mp hi with q | q
                · exact q
                · exact absurd (C5 _ q) hn
              exact E1 _ (W4.cl i jw (λq=>hn (E1 _ q)) (λq h=>by cases h;exact hz (z,j+1) rfl) n hn2)
            · cases h
              refine⟨E1 _ q1,λn hn=>?_⟩
              rw[htk]at hn
              rcases D4.mp hn with q | q
              · exact E1 _ (q2 n q)
              · exact C5 _ q
          have jx:=few W5
          have l5:(yO++[m]).length=yO.length+1:=by rw[D1];rfl
          have l6:(Pk++[m]).length=Pk.length+1:=by rw[D1];rfl
          have ea:mK yO m=yO++[m]:=by unfold mK;rw[if_neg c]
          refine KR (Oq (ks:=yO) (k:=m) rfl rfl rfl (by omega)) ?_
          rw[ea]
          refine yF rfl (fO (d:=.int m) rfl rfl) (by rw[B0];omega) ⟨_,rfl,yO++[m],Pk++[m],.fro (.int m),?_,W5,by omega⟩
          rw[←iI]
          rfl
        · have c:m∈yO:=by simpa using hb
          refine⟨_,rfl,yO,Pk,_,rfl,⟨W4.DN,W4.re,W4.base,W4.sub,λi hi hn hz=>W4.cl i hi hn λq h=>by cases h;exact hz (z,j+1) rfl,λq h=>?_⟩,hms⟩
          cases h
          obtain⟨q1,q2⟩:=W4.at_ (z,j) rfl
          refine⟨q1,λn hn=>?_⟩
          rw[htk]at hn
          rcases D4.mp hn with q | q
          · exact q2 n q
          · rw[B9.mp q];exact c
      · rintro env ⟨yO,Pk,v5,rfl,W4,hms⟩
        refine⟨_,rfl,yO,Pk,_,_,rfl,⟨W4.DN,W4.re,W4.base,W4.sub,λi hi hn _=>?_,λp h=>by cases h⟩,hms,by omega⟩
        by_cases c:i=z
        · subst c
          have:=(W4.at_ _ rfl).2
          rw[B0]at this
          dsimp only at this
          rw[V3]at this
          exact this
        · exact W4.cl i hi hn λq h=>by cases h;exact c
  · rintro env n ⟨ks,us,v4,v5,rfl,W,hn,hn61⟩ he
    have hkl:=few W
    have ec:fB (f2 IV (fL gG (aF (aG 3) aN)) (fC (.int 0))) (rE [.fro (iV nd),.fro (aC ns),.own (lU ks),.own (aC us),v4,v5])=some (decide ((0:Int)<us.length)):=bZ (aU (dO (aB rfl rfl) (cQ us)) rfl (qF _ _))
    rw[ec]at he
    have hus:us=[]:=by
      cases us with
      | nil=>rfl
      | cons a l=>
        rw[decide_eq_true (by rw[D7];omega)]at he
        cases he
    subst hus
    obtain⟨h1,h2⟩:=(eE ks).strict W.DN
    refine pB (dO (aB rfl rfl) (Eb (by omega))) ⟨_,rfl,_,rfl,h1,λj=>?_,?_⟩
    · rw[h2 j]
      constructor
      · exact W.re j
      · intro hj
        induction hj with
        | base h=>exact W.base _ h
        | step _ hm ih=>exact W.cl _ ih L3 (λp h=>by cases h) _ hm
    · have:=(eE ks).1.length_eq
      omega
theorem LK{i:Nat}{gb g:GS}{env:EN}{Pr:SR→Prop}{fi:FA}{n:Nat}{lo:Int}(I:Nat→EN→Prop)(h:fi (rE env)=some (bQ lo n))(h0:I 0 env)
  (st:∀(k:Nat) env,k<n→I k env→i<env.length∧Qs (λr=>∃env',r=.next env'∧I (k+1) env') (gb (env.set i (.fro (.int (lo+k)))))) (k:∀env',I n env'→Qs Pr (g env')):Qs Pr (aR (jM i fi gb) g env):=by
 obtain⟨env',h1,h2⟩:=gO (i:=i) (g:=gb) I (bQ lo n) env 0 h0 λk x e hx hi=>by
  rw[F3]at hi ⊢
  obtain⟨hk,rfl⟩:=sS hx
  exact⟨(st k e hk hi).1,let ⟨e,a,b⟩:=(st k e hk hi).2;⟨e,a,b⟩⟩
 rw[F3,sO]at h2
 rw[cC ((Av h).trans h1)]
 exact k env' h2
theorem Pn:∀ks:List Int,lG (ks.map λ_=>D.bl true)=some (ks.map λ_=>V.bl true)
 | []=>by unfold lG;rfl
 | k::ks=>by rw[B8];unfold lG toV;rw[D2,Pn ks];rfl
theorem BX{t i:Nat}{gb g:GS}{env:EN}{Pr:SR→Prop}{ks:List Int}(I:Nat→EN→Prop)(ht:env[t]?=some (.own (lU ks)))(h0:I 0 (env.set t (.fro (lU ks))))
  (st:∀(k:Nat) x env,ks[k]?=some x→I k env→i<env.length∧Qs (λr=>(∃env',r=.next env'∧I (k+1) env')∨∃d,r=.ret d∧Pr (.ret d)) (gb (env.set i (.fro (.int x))))) (k:∀env',I ks.length env'→Qs Pr (g env')):Qs Pr (aR (sH t i gb) g env):=by
 have e0:sH t i gb env=gJ i gb (ks.map D.int) (env.set t (.fro (lU ks))):=by
  unfold sH lU at *
  rw[ht]
  dsimp only
  rw[Pn]
  dsimp only
  rw[K1]
  rfl
 rcases tL (i:=i) (g:=gb) I (λd=>Pr (.ret d)) (ks.map D.int) (env.set t (.fro (lU ks))) 0 h0 λk x e hx hi=>by
  rw[F3]at hi ⊢
  rw[C8]at hx
  obtain⟨m,hm,rfl⟩:=dB hx
  exact⟨(st k m e hm hi).1,(st k m e hm hi).2⟩with ⟨env',h1,h2⟩ | ⟨d,h1,h2⟩
 ·rw[F3,B0]at h2
  rw[cC (e0.trans h1)]
  exact k env' h2
 ·rw[sI (e0.trans h1)]
  exact h2
theorem Be{α:Type}(p:α→Bool)(l:List α):Ml [.lst (l.map λx=>D.bl (p x))]=some (.bl (l.all p)):=by
 show V8 _ (gH _)=_
 rw[jX,R4,List.all_map]
 rfl
theorem Pq{α:Type}(p:α→Bool)(l:List α):Sy [.lst (l.map λx=>D.bl (p x))]=some (.bl (l.any p)):=by
 show V8 _ (gH _)=_
 rw[jX,R4,List.any_map]
 rfl
theorem pO{nd:List (List Int)}{cs:List Int}(h:nT nd)(hin:∀n∈cs,0≤n∧n<(nd.length:Int))(hl:cs.length≤200)(hc:∀x∈cs,∀m∈pH nd x,m∈cs):eQ [iV nd,aC cs]=some (.bl true):=by
 obtain⟨ks,m1,m2,m3,m4⟩:=vQ (l:=cs) (by omega)
 suffices hh:∃d,eQ [iV nd,aC cs]=some d∧d=.bl true by
  obtain⟨d,h1,rfl⟩:=hh
  exact h1
 refine fV rfl ?_
 unfold vP
 refine cL (bB (aB rfl rfl) rfl m1) (by exact Nat.le_of_ble_eq_true rfl) ?_
 refine BX (ks:=ks) (λn env=>∃v3:SD,env=[.fro (iV nd),.fro (aC cs),.fro (lU ks),v3]) rfl ⟨_,rfl⟩ ?_ ?_
 ·rintro k x env hx ⟨v3,rfl⟩
  refine⟨by walk_at "lt", ?_⟩
  have hxc:=(m3 x).mp (E9 hx)
  obtain⟨x0,x1⟩:=hin x hxc
  have hrl:=qG h x
  have ea:(pH nd x).all (λm=>decide (m∈ks))=true:=G9.mpr λm hm=>decide_eq_true ((m3 m).mpr (hc x hxc m hm))
  refine Ax (xZ (bZ (dO (aB (pC (xs:=pH nd x) (ψ:=D.int) (φ:=λm=>.bl (decide (m∈ks))) (kJ (aU rfl rfl (Gz x0 x1))) (by omega) λm hm=>aU rfl rfl (pD false m ks)) rfl) ((Be _ _).trans (by rw[ea]))))) (λhb=>by cases hb) λ_=>?_
  exact .inl ⟨_,rfl,_,rfl⟩
 ·rintro env ⟨v3,rfl⟩
  exact pB (d:=.bl true) rfl ⟨_,rfl,rfl⟩
inductive jU(nd:List (List Int))(low:Int):Int→Prop
 | self:jU nd low low
 | step {n m:Int}:m∈pH nd n→jU nd low m→jU nd low n
theorem tR{nd:List (List Int)}(h:nT nd){low n:Int}(h0:0≤n)(l:jU nd low n):low≤n:=by
 induction l with
 | self=>exact R8 _
 | @step n m hm _ ih=>
  have:=tQ h h0 hm
  have:=ih this.1
  omega
theorem Bl{nd:List (List Int)}{low n:Int}(h:n≠low):jU nd low n↔∃m∈pH nd n,jU nd low m:=by
 constructor
 ·intro l
  cases l with
  | self=>exact absurd rfl h
  | step hm l=>exact⟨_,hm,l⟩
 ·rintro⟨m,hm,l⟩
  exact .step hm l
theorem Us{nd:List (List Int)}{a b n:Int}(l:jU nd a n)(hb:b∈pH nd a):jU nd b n:=by
 induction l with
 | self=>exact .step hb .self
 | step hm _ ih=>exact .step hm ih
theorem tU{nd:List (List Int)}{ns:List Int}{low:Int}:Reach nd ns low↔∃n∈ns,jU nd low n:=by
 constructor
 ·intro r
  induction r with
  | base q=>exact⟨_,q,.self⟩
  | step _ hm ih=>
   obtain⟨n,h1,h2⟩:=ih
   exact⟨n,h1,Us h2 hm⟩
 ·rintro⟨n,h1,h2⟩
  have:∀{n:Int},jU nd low n→Reach nd ns n→Reach nd ns low:=λl=>by
   induction l with
   | self=>exact id
   | step hm _ ih=>exact λr=>ih (.step r hm)
  exact this h2 (.base h1)
theorem Ei{nd:List (List Int)}{high low:Int}(h:nT nd)(hl:nd.length≤61)(l0:0≤low)(l1:low<nd.length)(h0:0≤high)(h1:high<nd.length):∃ks,cX [iV nd,.int high,.int low]=some (lU ks)∧(∀j,j∈ks↔jU nd low j∧0≤j∧j≤low+((high-low).toNat:Int))∧ks.length≤100:=by
  suffices hh:∃d,cX [iV nd,.int high,.int low]=some d∧∃ks,d=lU ks∧(∀j,j∈ks↔jU nd low j∧0≤j∧j≤low+((high-low).toNat:Int))∧ks.length≤100 by
    obtain⟨d,h1,ks,rfl,h2⟩:=hh
    exact⟨ks,h1,h2⟩
  refine fV rfl ?_
  unfold nP
  refine cL (d:=lU [low]) rfl (by exact Nat.le_of_ble_eq_true rfl) ?_
  refine LK (lo:=low+1) (n:=(high-low).toNat) (λk env=>∃(ks:List Int)(v4:SD),env=[.fro (iV nd),.fro (.int high),.fro (.int low),.own (lU ks),v4]∧(∀j,j∈ks↔jU nd low j∧0≤j∧j≤low+(k:Int))∧ks.length≤k+1)
    ((Nz (i:=low+1) (j:=high+1) (aB (aU rfl rfl (kE _ _)) (aB (aU rfl rfl (kE _ _)) rfl)) (by omega) (by omega) (by omega) (by omega)).trans (by rw[show high+1-(low+1)=high-low by omega])) ⟨[low],_,rfl,λj=>?_,A9 _⟩ ?_ ?_
  · constructor
    · intro hj
      rw[B9.mp hj]
      exact⟨.self,l0,by omega⟩
    · rintro⟨a,b,c⟩
      have:=tR h b a
      exact B9.mpr (by omega)
  · rintro k env hk ⟨ks,v4,rfl,hm,hkl⟩
    refine⟨by walk_at "lt", ?_⟩
    have hn1:low+1+(k:Int)<nd.length:=by omega
    have hrl:=qG h (low+1+k)
    have key:(pH nd (low+1+k)).any (λm=>decide (m∈ks))=true↔jU nd low (low+1+k):=by
      rw[J7,Bl (by omega)]
      constructor
      · rintro⟨m,a,b⟩
        exact⟨m,a,((hm m).mp (of_decide_eq_true b)).1⟩
      · rintro⟨m,a,b⟩
        have:=tQ h (by omega) a
        exact⟨m,a,decide_eq_true ((hm m).mpr ⟨b,this.1,by omega⟩)⟩
    refine Ax (bZ (dO (aB (pC (xs:=pH nd (low+1+k)) (ψ:=D.int) (φ:=λm=>.bl (decide (m∈ks))) (kJ (aU rfl rfl (Gz (by omega) hn1))) (by omega) λm hm=>aU rfl rfl (pD false m ks)) rfl) (Pq _ _))) (λhb=>?_) λhb=>?_
    · refine LC (Oq (ks:=ks) (k:=low+1+k) rfl rfl rfl (by omega)) ⟨_,rfl,mK ks (low+1+k),_,rfl,λj=>?_,by have:=Bb ks (low+1+k);omega⟩
      rw[Ba,hm]
      have hL:=key.mp hb
      constructor
      · rintro(⟨a,b,c⟩ | rfl)
        · exact⟨a,b,by omega⟩
        · exact⟨hL,by omega,by omega⟩
      · rintro⟨a,b,c⟩
        by_cases e:j=low+1+k
        · exact .inr e
        · exact .inl ⟨a,b,by omega⟩
    · refine⟨_,rfl,ks,_,rfl,λj=>?_,by omega⟩
      rw[hm]
      constructor
      · rintro⟨a,b,c⟩
        exact⟨a,b,by omega⟩
      · rintro⟨a,b,c⟩
        by_cases e:j=low+1+k
        · rw[e]at a
          rw[key.mpr a]at hb
          cases hb
        · exact⟨a,b,by omega⟩
  · rintro env ⟨ks,v4,rfl,hm,hkl⟩
    exact sU rfl ⟨_,rfl,ks,rfl,hm,by omega⟩
theorem Pu{nd:List (List Int)}{high low:Int}(h:nT nd)(hl:nd.length≤61)(l0:0≤low)(l1:low<nd.length)(h0:0≤high)(h1:high<nd.length):∃ws,tE [iV nd,.int high,.int low]=some (aC ws)∧(ws≠[]↔jU nd low high):=by
 suffices hh:∃d,tE [iV nd,.int high,.int low]=some d∧∃ws,d=aC ws∧(ws≠[]↔jU nd low high) by
  obtain⟨d,h1,ks,rfl,h2⟩:=hh
  exact⟨ks,h1,h2⟩
 obtain⟨ks,k1,k2,k3⟩:=Ei h hl l0 l1 h0 h1
 refine fV rfl ?_
 unfold Ox
 refine cL (bB (aB rfl (aB rfl (aB rfl rfl))) rfl k1) (by exact Nat.le_of_ble_eq_true rfl) ?_
 refine Oi (bZ (aU rfl rfl (pD true high ks))) (λhb=>?_) λhb=>Dw ?_
 ·have c:high∉ks:=by simpa using hb
  refine Ol (d:=.lst []) rfl ⟨_,rfl,[],rfl,⟨λz=>absurd rfl z,λz=>?_⟩⟩
  have:=tR h h0 z
  exact absurd ((k2 high).mpr ⟨z,h0,by omega⟩) c
 have c:high∈ks:=by simpa using hb
 have hL:=((k2 high).mp c).1
 refine cL (fO (d:=.int high) rfl rfl) (by exact Nat.le_of_ble_eq_true rfl) ?_
 refine cL (d:=aC [high]) rfl (by exact Nat.le_of_ble_eq_true rfl) ?_
 refine Gy (n:=61) (λn env=>∃(x:Int)(w:Int)(ws:List Int),env=[.fro (iV nd),.fro (.int high),.fro (.int low),.own (lU ks),.own (.int x),.own (aC (w::ws))]∧x∈ks∧0≤x∧x<nd.length∧x.toNat≤n∧ws.length+n≤100) ⟨high,high,[],rfl,c,h0,h1,by omega,by simp⟩ (by omega) ?_ ?_
 ·rintro n env ⟨x,w,ws,rfl,x1,x2,x3,x4,x5⟩
  have ec:fB (f2 Fg (aG 4) (aG 2)) (rE [.fro (iV nd),.fro (.int high),.fro (.int low),.own (lU ks),.own (.int x),.own (aC (w::ws))])=some (!decide (x=low)):=bZ (aU rfl rfl (yE _ _))
  by_cases e:x=low
  ·left
   rw[ec,decide_eq_true e]
   rfl
  ·right
   rw[ec,decide_eq_false e]
   have xL:=((k2 x).mp x1).1
   have xl:=tR h x2 xL
   have hrl:=qG h x
   obtain⟨m,m1,m2⟩:=(Bl e).mp xL
   have mk:=tQ h x2 m1
   have jy:m∈ks:=(k2 m).mpr ⟨m2,mk.1,by have:=((k2 x).mp x1).2.2;omega⟩
   have jz:m∈((pH nd x).filter λm=>decide (m∈ks)).map id:=by
    rw[U8]
    exact L4.mpr ⟨m1,decide_eq_true jy⟩
   have hpos:=N3 jz
   obtain⟨a1,a2⟩:=mF hpos
   have ef:fL uX (aF (cZ (fH (f2 xG (aG 0) (aG 4))) [3] (fB (f2 (mD false) (aG 0) (aG 1))) (iW (aG 0))) aN) (rE [.fro (iV nd),.fro (.int high),.fro (.int low),.own (lU ks),.own (.int x),.own (aC (w::ws))])=some (.int (zY (((pH nd x).filter λm=>decide (m∈ks)).map id))):=
    dO (aB (sV (ms:=pH nd x) (λm=>decide (m∈ks)) id (kJ (aU rfl rfl (Gz x2 x3))) (by omega) (λm hm=>bZ (aU rfl rfl (pD false m ks))) λm hm _=>fO rfl rfl) rfl) (Ea hpos)
   generalize zY (((pH nd x).filter λm=>decide (m∈ks)).map id)=y at a1 a2 ef
   rw[U8]at a1
   obtain⟨b1,b2⟩:=L4.mp a1
   have b3:=tQ h x2 b1
   refine⟨rfl,by omega,?_⟩
   suffices hq:Qs (λr=>∃env',r=.next env'∧∃(x:Int)(w:Int)(ws:List Int),env'=[.fro (iV nd),.fro (.int high),.fro (.int low),.own (lU ks),.own (.int x),.own (aC (w::ws))]∧x∈ks∧0≤x∧x<nd.length∧x.toNat≤n-1∧ws.length+(n-1)≤100) (aR (cI 4 (fL uX (aF (cZ (fH (f2 xG (aG 0) (aG 4))) [3] (fB (f2 (mD false) (aG 0) (aG 1))) (iW (aG 0))) aN)))
 (nD 5 gK (iW (aG 4))) [.fro (iV nd),.fro (.int high),.fro (.int low),.own (lU ks),.own (.int x),.own (aC (w::ws))])from hq
   refine cL ef (by exact Nat.le_of_ble_eq_true rfl) ?_
   refine yF rfl (fO (d:=.int y) rfl rfl) (by rw[B0,D7];omega) ⟨_,rfl,y,w,ws++[y],?_,of_decide_eq_true b2,b3.1,by omega,by omega,by rw[D1,K3];omega⟩
   rw[←J8,←iI]
   rfl
 ·rintro env n ⟨x,w,ws,rfl,x1,x2,x3,x4,x5⟩ he
  exact sU rfl ⟨_,rfl,w::ws,rfl,λ_=>hL,λ_=>List.cons_ne_nil _ _⟩
theorem tV{nd:List (List Int)}{ns:List Int}{low:Int}(h:nT nd)(hl:nd.length≤61)(l0:0≤low)(l1:low<nd.length)(hin:∀n∈ns,0≤n∧n<(nd.length:Int)):∃b,cA [iV nd,aC ns,.int low]=some (.bl b)∧(b=true↔Reach nd ns low):=by
 suffices hh:∃d,cA [iV nd,aC ns,.int low]=some d∧∃b,d=.bl b∧(b=true↔Reach nd ns low) by
  obtain⟨d,h1,ks,rfl,h2⟩:=hh
  exact⟨ks,h1,h2⟩
 refine fV rfl ?_
 unfold pM
 refine Pg (xs:=ns.map D.int) (λn env=>(∃v3:SD,env=[.fro (iV nd),.fro (aC ns),.fro (.int low),v3])∧∀k,k<n→∀x,ns[k]?=some x→¬jU nd low x) rfl (nO rfl) ⟨⟨_,rfl⟩,λk hk=>absurd hk (M9 _)⟩ ?_ ?_
 ·rintro k x env hx ⟨⟨v3,rfl⟩,hno⟩
  refine⟨by walk_at "lt", ?_⟩
  rw[C8]at hx
  obtain⟨m,hm,rfl⟩:=dB hx
  obtain⟨i0,i1⟩:=hin m (E9 hm)
  obtain⟨ws,w1,w2⟩:=Pu h hl l0 l1 i0 i1
  refine Ax (bZ (aU (bB (aB rfl (aB rfl (aB rfl rfl))) rfl w1) rfl (yH ws))) (λhb=>?_) λhb=>?_
  ·exact pB (d:=.bl true) rfl (.inr ⟨_,rfl,_,rfl,true,rfl,λ_=>tU.mpr ⟨m,E9 hm,w2.mp (by simpa using hb)⟩,λ_=>rfl⟩)
  ·refine .inl ⟨_,rfl,⟨_,rfl⟩,λk' hk' x hx'=>?_⟩
   by_cases e:k'=k
   ·subst e
    rw[hm]at hx'
    cases hx'
    exact λz=>w2.mpr z (by simpa using hb)
   ·exact hno k' (by omega) x hx'
 ·rintro env ⟨⟨v3,rfl⟩,hno⟩
  refine pB (d:=.bl false) rfl ⟨_,rfl,false,rfl,(λz=>absurd z (by decide)),λz=>?_⟩
  obtain⟨m,m1,m2⟩:=tU.mp z
  obtain⟨k,hk,e⟩:=J6 m1
  exact absurd m2 (hno k (by rw[B0];exact hk) m (C3.mpr ⟨hk,e⟩))
theorem Bm(ns:List Int):∃c,jQ [aC ns,.int 0]=some (.int c):=by
 suffices hh:∃d,jQ [aC ns,.int 0]=some d∧∃c,d=.int c by
  obtain⟨d,h1,c,rfl⟩:=hh
  exact⟨c,h1⟩
 refine fV rfl ?_
 unfold Bg
 refine Oi (bZ (aU rfl (dO (aB rfl rfl) (cQ ns)) (yC _ _))) (λhb=>?_) λ_=>Dw (pB (d:=.int 0) rfl ⟨_,rfl,_,rfl⟩)
 exact Ol (fO (aU rfl rfl (jP (by omega) (of_decide_eq_true hb))) rfl) ⟨_,rfl,_,rfl⟩
theorem Bo(n:Nat):bQ 0 n=((D3 n).map λ(k:Nat)=>(0:Int)+(k:Int)).map D.int:=by
 unfold bQ
 rw[K1]
 rfl
theorem Px{a b:List Int}(ha:jO a=true)(hb:jO b=true)(h:(Bv (a++b)).length<64):Gq (aC a) (aC b)=some (aC (Bv (a++b))):=by
 show (intsOf (a.map D.int)).bind _=_
 rw[eX,D2,eX,D2,if_pos ⟨ha,hb,h⟩]
theorem Bp{a:List Int}(h:a.length≤61)(hin:∀x∈a,0≤x∧x<61):jO a=true:=by
 unfold jO
 rw[decide_eq_true (by omega),X3]
 exact G9.mpr λk hk=>decide_eq_true (by have:=hin k hk;omega)
theorem Py{l:List Int}(hne:l≠[])(k:Int):∃x,xG (aC l) (.int (k%(l.length:Int)))=some (.int x)∧x∈l:=by
 have hp:0<l.length:=O1.mpr hne
 have q0:=R5 k (show (l.length:Int)≠0 by omega)
 have q1:=O6 k (show (0:Int)<l.length by omega)
 refine⟨_,jP q0 q1,?_⟩
 exact E9 (Ay (d:=0) (by omega))
theorem Pz(ns:List Int)(hl:ns.length≤63)(hs:∀k∈ns,Small k):BK [.lst (ns.map D.int)]=some (.bl true):=by
 suffices hh:∃d,BK [aC ns]=some d∧d=.bl true by
  obtain⟨d,h1,rfl⟩:=hh
  exact h1
 refine fV rfl ?_
 unfold KZ
 have hcl:((ns.drop 1).take 60).length≤60∧ns.length≤((ns.drop 1).take 60).length+1+3∧(ns.length≤61→ns.length≤((ns.drop 1).take 60).length+1)∧(61≤ns.length→((ns.drop 1).take 60).length=60):=by
  rw[K8,P7]
  omega
 have LQ:cZ (fH (Il false (aG 0) (cV (fC (.int 1))) (cV (fC (.int 61))))) [] vA (f2 uD (aG 0) (fC (.int 4))) (rE [.fro (aC ns),.no,.no,.no,.no,.no,.no,.no])=some (aC (((ns.drop 1).take 60).map (·/4))):=by
  have e:=pC (fi:=fH (Il false (aG 0) (cV (fC (.int 1))) (cV (fC (.int 61))))) (fr:=[]) (fe:=f2 uD (aG 0) (fC (.int 4))) (e:=rE [.fro (aC ns),.no,.no,.no,.no,.no,.no,.no]) (xs:=(ns.drop 1).take 60) (ψ:=D.int) (φ:=λx=>.int (x/4)) (nO ((sW (ns:=ns) (lo:=some ((1:Nat):Int)) (hi:=some ((61:Nat):Int)) rfl (kI rfl) (kI rfl)).trans (by rw[Ou]))) (by omega) λx _=>aU rfl rfl (dR (by decide) (by decide))
  rw[e]
  unfold aC
  rw[K1]
  rfl
 obtain⟨nd,n1,n2,n3⟩:=Bk (cells:=((ns.drop 1).take 60).map (·/4)) (by rw[B0];exact hcl.1)
 rw[B0]at n2
 generalize ((ns.drop 1).take 60).length=q at hcl n2
 have Jl:nd.length≤61:=by omega
 obtain⟨so,s1,s2,s3⟩:=nU (ns:=ns) (half:=1) (by decide) (by decide)
 obtain⟨ot,o1,o2,o3⟩:=nU (ns:=ns) (half:=2) (by decide) (by decide)
 have sin:∀n∈so,0≤n∧n<(nd.length:Int):=λn hn=>by have:=s2 n hn;omega
 have VF:∀n∈ot,0≤n∧n<(nd.length:Int):=λn hn=>by have:=o2 n hn;omega
 have VG:∀n∈so++ot,0≤n∧n<(nd.length:Int):=λn hn=>(D4.mp hn).elim (sin n) (VF n)
 have sol:(so++ot).length≤200:=by rw[D1];omega
 obtain⟨one,a1,a2,a3,a4⟩:=iQ n3 Jl sin (by omega)
 obtain⟨oth,b1,b2,b3,b4⟩:=iQ n3 Jl VF (by omega)
 obtain⟨kh,c1,c2,c3,c4⟩:=iQ n3 Jl VG sol
 have QC:∀n∈one,0≤n∧n<(nd.length:Int):=λn hn=>nW n3 sin ((a3 n).mp hn)
 have bin:∀n∈oth,0≤n∧n<(nd.length:Int):=λn hn=>nW n3 VF ((b3 n).mp hn)
 have acl:∀x∈one,∀m∈pH nd x,m∈one:=λx hx m hm=>(a3 m).mpr (.step ((a3 x).mp hx) hm)
 have kj:∀x∈oth,∀m∈pH nd x,m∈oth:=λx hx m hm=>(b3 m).mpr (.step ((b3 x).mp hx) hm)
 obtain⟨Bw,d1,d2,d3,d4⟩:=iQ n3 Jl QC (by omega)
 have ed:Bw=one:=fQ d2 a2 λj=>(d3 j).trans ⟨λr=>(a3 j).mpr (lB (λx hx=>(a3 x).mp hx) r),λh=>.base h⟩
 subst ed
 have eb:kh=Bv (Bw++oth):=Dn c2 λk=>by rw[c3,Jk,D4,a3,b3]
 obtain⟨c0,hc0⟩:=Bm ns
 refine cL (bB (aB LQ rfl) rfl n1) (by exact Nat.le_of_ble_eq_true rfl) ?_
 refine cL (bB (aB rfl (aB rfl rfl)) rfl s1) (by exact Nat.le_of_ble_eq_true rfl) ?_
 refine cL (bB (aB rfl (aB rfl rfl)) rfl o1) (by exact Nat.le_of_ble_eq_true rfl) ?_
 refine cL (bB (aB rfl (aB rfl rfl)) rfl a1) (by exact Nat.le_of_ble_eq_true rfl) ?_
 refine cL (bB (aB rfl (aB rfl rfl)) rfl b1) (by exact Nat.le_of_ble_eq_true rfl) ?_
 refine Oj (bZ (aU (bB (aB rfl (aB (aU rfl rfl (Dy so ot (by rw[D1]at sol;omega))) rfl)) rfl c1) (aU rfl rfl (Px (Bp a4 λx hx=>by have:=QC x hx;omega) (Bp b4 λx hx=>by have:=bin x hx;omega) (by rw[←eb];omega))) (sX _ _))) (by rw[eb,decide_eq_true rfl];rfl) (Dw ?_)
 refine Oj (Dv (bZ (aU (bB (aB rfl (aB rfl rfl)) rfl d1) rfl (sX _ _))) (Dv (bZ (aU (bB (aB rfl (aB rfl rfl)) rfl (pO n3 bin (by omega) kj)) rfl rfl)) (bZ (aU (bB (aB rfl (aB rfl rfl)) rfl (pO n3 QC (by omega) acl)) rfl rfl)))) (by rw[decide_eq_true rfl];rfl) (Dw ?_)
 refine cL (aU (bB (aB rfl (aB rfl rfl)) rfl hc0) rfl (dR (by decide) (by decide))) (by exact Nat.le_of_ble_eq_true rfl) ?_
 have hif:xH (fB (f2 Fg (aG 4) (mC aN))) (zU (fB (cH 3 cA (aF (aG 1) (aF (aG 2) (aF (f2 xG (aG 4) (f2 rD (aG 6) (fL gG (aF (aG 4) aN)))) aN)))))) (rE [.fro (aC ns),.own (iV nd),.own (aC so),.own (aC ot),.own (aC Bw),.own (aC oth),.own (.int (c0/4)),.no])=some false:=by
  by_cases e:Bw=[]
  ·exact Zx (bZ (aU rfl rfl ((yH Bw).trans (by rw[decide_eq_true e];rfl))))
  ·obtain⟨x,x1,x2⟩:=Py e (c0/4)
   obtain⟨x3,x4⟩:=QC x x2
   obtain⟨b,y1,y2⟩:=tV n3 Jl x3 x4 sin
   rw[y2.mpr ((a3 x).mp x2)]at y1
   have hp:(0:Int)<Bw.length:=by have:=O1.mpr e;omega
   rw[Zw (bZ (aU rfl rfl ((yH Bw).trans (by rw[decide_eq_false e];rfl))))]
   exact xZ (bZ (bB (aB rfl (aB rfl (aB (aU rfl (aU rfl (dO (aB rfl rfl) (cQ Bw)) (fG hp)) x1) rfl))) rfl y1))
 refine Oj hif rfl (Dw ?_)
 have hout:cZ (iR (aF (fL gG (aF (aG 1) aN)) aN)) [4] (fB (f2 (Yl true) (aG 0) (aG 1))) (iW (aG 0)) (rE [.fro (aC ns),.own (iV nd),.own (aC so),.own (aC ot),.own (aC Bw),.own (aC oth),.own (.int (c0/4)),.no])=some (aC ((((D3 nd.length).map λ(k:Nat)=>(0:Int)+(k:Int)).filter λm=>!decide (m∈Bw)).map id)):=
  sV (ms:=(D3 nd.length).map λ(k:Nat)=>(0:Int)+(k:Int)) (λm=>!decide (m∈Bw)) id ((yG (aB (dO (aB rfl rfl) (yL nd)) rfl) (by omega)).trans (by rw[Bo])) (by rw[B0,L6];omega) (λm hm=>bZ (aU rfl rfl (Az true m Bw))) λm hm _=>fO rfl rfl
 have Wc:∀x∈(((D3 nd.length).map λ(k:Nat)=>(0:Int)+(k:Int)).filter λm=>!decide (m∈Bw)).map id,0≤x∧x<(nd.length:Int)∧x∉Bw:=λx hx=>by
  rw[U8]at hx
  obtain⟨h1,h2⟩:=L4.mp hx
  obtain⟨k,h3,rfl⟩:=G0.mp h1
  have:=D9.mp h3
  refine⟨by omega,by omega,by simpa using h2⟩
 generalize (((D3 nd.length).map λ(k:Nat)=>(0:Int)+(k:Int)).filter λm=>!decide (m∈Bw)).map id=out at hout Wc
 refine cL hout (by exact Nat.le_of_ble_eq_true rfl) ?_
 refine Oi (bZ (aU rfl rfl (BJ out))) (λ_=>Ol (d:=.bl true) rfl ⟨_,rfl,rfl⟩) λhb=>Dw ?_
 have e:out≠[]:=by simpa using hb
 obtain⟨x,x1,x2⟩:=Py e (c0/4)
 obtain⟨x3,x4,x5⟩:=Wc x x2
 obtain⟨b,y1,y2⟩:=tV (ns:=so.take 3) n3 Jl x3 x4 λn hn=>sin n (T3 hn)
 have hp:(0:Int)<out.length:=by have:=O1.mpr e;omega
 have yb:b=false:=by
  cases b with
  | false=>rfl
  | true=>exact absurd ((a3 x).mpr (lB (λz hz=>.base (T3 hz)) (y2.mp rfl))) x5
 subst yb
 have hsl:Il false (aG 2) (rM) (cV (fC (.int 3))) (rE [.fro (aC ns),.own (iV nd),.own (aC so),.own (aC ot),.own (aC Bw),.own (aC oth),.own (.int (c0/4)),.own (aC out)])=some (aC (so.take 3)):=(sW (ns:=so) (lo:=none) (hi:=some ((3:Nat):Int)) rfl rfl (kI rfl)).trans (by rw[Ot])
 exact pB (d:=.bl true) (Ob (bB (aB rfl (aB hsl (aB (aU rfl (aU rfl (dO (aB rfl rfl) (cQ out)) (fG hp)) x1) rfl))) rfl y1)) ⟨_,rfl,rfl⟩
end Rs

def PySem.W.Fast.tw7933995779643477345:Unit:=()
def PySem.W.Fast.tw5520331514146552601:Unit:=()
def PySem.W.Fast.tw18082916798856189048:Unit:=()
def PySem.W.Fast.tw93053818846627356:Unit:=()
def PySem.W.Fast.tw2997930892594874987:Unit:=()
def PySem.W.Fast.tw4078847645415644999:Unit:=()
def PySem.W.Fast.tw14101503983921441722:Unit:=()
def PySem.W.Fast.tw3918174305328029525:Unit:=()
def PySem.W.Fast.tw2512444268382302781:Unit:=()
def PySem.W.Fast.tw16602836170257194642:Unit:=()
def PySem.W.Fast.tw17911534908633008199:Unit:=()
def PySem.W.Fast.tw17349259389660153983:Unit:=()
def PySem.W.Fast.tw2811084572940812525:Unit:=()
def PySem.W.Fast.tw10353142802213023597:Unit:=()
def PySem.W.Fast.tw9417304759924537125:Unit:=()
def PySem.W.Fast.tw12028516528146200756:Unit:=()
def PySem.W.Fast.tw2433706545486087598:Unit:=()
def PySem.W.Fast.tw17406043677931760579:Unit:=()
def PySem.W.Fast.tw12024297166133337826:Unit:=()
namespace Rs
open PySem L2
theorem Ut{K:aA}{f:Addr}{oc:Value}{od:Option Addr}{fd:FuncData}{sl:Array (Option Value)}(l:K.lookup f=some ⟨oc,od,.func fd,sl⟩):G2 K (.ref f)=true:=by
 unfold G2
 dsimp only
 rw[l]
theorem VH{K:aA}{h:Heap}{mg:Str→Option Value}{x:Str}{st:Stmt}{f:Addr}{oc:Value}{od an:Option Addr}{osl:Array (Option Value)}{kV doc pm cdv ct:Value}(X:K.In h)(G:h.Ns mainGlobals mg)(a:X7 K mainGlobals x=some (some (.ref f)))(l:K.lookup f=some ⟨oc,od,.func (F0 x x (cB st) (bG st) (aJ st) .none kV doc pm an cdv ct),osl⟩)(c:L7 K cdv x=true):Raw K mg x st:=Xx X G a l c (Ut l)
theorem walk{l:W7}{q:Program}{loose:List Str}{XP:(Str→Option Value)→Heap→Prop}{YP:World→Heap→Prop}{d:DefRec}{K:Params→aA}(hn:l.most=some 63)(hdf:d.params.defaults=[])(hdn:d.name = "law")
  (hY:∀(w:World)(h:Heap),YP w h→(K w.params).In h)
  (F:∀(w:World)(mg:Str→Option Value)(h:Heap),(K w.params).In h→h.Ns mainGlobals mg→Raw (K w.params) mg "_law_needs" pF∧Raw (K w.params) mg "_law_picked" mL∧Raw (K w.params) mg "marked" yI∧Raw (K w.params) mg "closure" sZ∧Raw (K w.params) mg "_law_cell" tD∧Raw (K w.params) mg "leading_down" eG∧Raw (K w.params) mg "chain" yJ∧Raw (K w.params) mg "_law_chained" jR∧Raw (K w.params) mg "is_closed" kW∧Raw (K w.params) mg "law" Oz∧mg "range" = none∧mg "len" = none∧mg "tuple" = none∧mg "list" = none∧mg "sorted" = none∧mg "any" = none∧mg "min" = none∧mg "all" = none∧mg "set" = none) :
  X4 q loose XP YP l.row.toRowW d [] (λf vs=>W6 f vs):=by
 refine L2.Iw (n:=63) (k:=4) (x := "script") (CX:=λ_=>Jp) (sp:=λw=>RX (K w.params)) hn (by decide) hdf ⟨rfl,by decide,by decide⟩ hY ?_ (λ_ _ a ns hl hb _ hS=>⟨a,ns,rfl,hS,hl,hb,λ_=>rfl⟩) λ_ _ _ _ _ z=>z
 intro w mg fa h KX G hmg
 obtain⟨Jm,Ej,Uu,Qa,Qc,yM,BZ,Bq,Jo,VJ,dX,iJ,Ec,Pa,kZ,BL,BP,BR,BW⟩:=F w mg h KX G
 obtain⟨f,fd,FL,m⟩:=VJ.ex
 rw[hdn]at hmg
 have e:=hmg.symm.trans m
 cases e
 refine⟨fd,Dh FL (λ_ _ _ _ _ _ u=>rfl),λbase _ _=>?_⟩
 have pG:=Bh (P:=l.prog) (w:=w) (mg:=mg) (base:=base) Jm  dX iJ Ec
 have iM:=yK (P:=l.prog) (w:=w) (mg:=mg) (base:=base) Ej  iJ dX
 have kY:=Ji (P:=l.prog) (w:=w) (mg:=mg) (base:=base) Uu
 have gR:=Ed (P:=l.prog) (w:=w) (mg:=mg) (base:=base) Qa kY  Pa iJ kZ
 have tK:=Ef (P:=l.prog) (w:=w) (mg:=mg) (base:=base) Qc  iJ
 have iK:=tH (P:=l.prog) (w:=w) (mg:=mg) (base:=base) yM  dX BL
 have Eg:=Pb (P:=l.prog) (w:=w) (mg:=mg) (base:=base) BZ iK  BP
 have fP:=uE (P:=l.prog) (w:=w) (mg:=mg) (base:=base) Bq Eg
 have lA:=Bj (P:=l.prog) (w:=w) (mg:=mg) (base:=base) Jo kY  BR
 exact BV FL pG iM gR lA tK fP  kZ BW iJ dX Pz
end Rs
open PySem PySem.W PyProof.Rows
set_option maxRecDepth 100000 in
set_option maxHeartbeats 0 in
theorem PySem.Challenge.cw_ripestone_k04_closures_join_holds : PySem.Challenge.rw_ripestone_k04_closures_join.Holds := by
 w_on;o_law;k_head;(case hw=>w_witness2)
 k_fill
 refine Rs.walk (l:=PySem.Challenge.rw_ripestone_k04_closures_join) rfl rfl rfl (λw h Y=>PySem.W.kIn_of Y) ?F
 case F=>
  intro w mg h KX G
  refine⟨?_,?_,?_,?_,?_,?_,?_,?_,?_,?_,F4 KX G ?_,F4 KX G ?_,F4 KX G ?_,F4 KX G ?_,F4 KX G ?_,F4 KX G ?_,F4 KX G ?_,F4 KX G ?_,F4 KX G ?_⟩
  iterate 10
   ·refine' Rs.VH KX G ?a ?l ?c
    (case a=>k_is);(case l=>k_is);(case c=>k_is)
  iterate 9
   ·k_is
#print axioms PySem.Challenge.cw_ripestone_k04_closures_join_holds
