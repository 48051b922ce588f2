import PyProof.Rows.All
import Wide.All
import OpenK.AllK
import Wide.FinOn
import Lean
import PyProof.EqAt
import PyProof.EqKinds
import PyProof.TupleCall
import PySem.Challenge.RW_ripestone_k05_laid_and_needs
open Array renaming length_toList→F2,getElem?_eq_getElem→G4,getElem?_toList→J1,getD→K7,getElem_toList→O0,getElem?_eq_none→R4,toList_push→U2,toList→X1
open Bool renaming false_ne_true→D1,and_eq_true→D5,eq_iff_iff→L5,false_eq_true→L6,or_false→S7,or_eq_true→V8,and_false→W4
open Int renaming toNat_natCast→D2,emod_lt_of_pos→F9,emod_nonneg→G1,mul_le_mul→S0,mul_nonneg→S5,zero_add→T7,le_refl→U9
open List renaming length_map→A9,size_toArray→B3,getElem?_eq_getElem→B5,mem_cons_of_mem→B7,mem_cons→B8,getElem?_eq_some_iff→B9,getElem?_map→C3,mem_cons_self→C4,map_cons→C5,mem_singleton→C8,mem_append_right→C9,range→D3,length_append→D4,getD_eq_getElem?_getD→D6,getElem?_eq_none→D8,mem_of_getElem?→E5,mem_append→E7,map_nil→E9,replicate→F5,pairwise_cons→F8,length_take→G0,cons_append→G2,length_range→G3,length_cons→G5,mem_map→G6,drop_eq_getElem_cons→J3,nodup_cons→J5,find?_cons→J6,eq_nil_of_length_eq_zero→J7,length_drop→J8,lookup_cons→J9,zipWith_cons_cons→K1,ext_getElem?→K3,mem_append_left→K4,getElem?_set_ne→K5,pairwise_iff_getElem→K6,getElem?_range→L0,getElem?_set_self→L7,reverse_cons→L8,mem_range→L9,getElem?_append_right→M3,filterMap_cons→M4,getElem_of_mem→M5,getElem?_append_left→M6,length_set→M7,nil_append→M8,getElem?_drop→M9,zip_cons_cons→N0,take_of_length_le→N6,length_singleton→N7,map_append→O1,take_succ_cons→O2,map_congr_left→O3,nodup_nil→O4,length_eraseIdx_of_lt→O7,getElem?_set→P1,getElem?_eq_none_iff→P2,ext_getElem→P5,zipWith→P7,drop_length→P8,any_eq_true→P9,map_map→Q1,getElem?_replicate→Q3,getElem?_cons_zero→Q6,append_nil→Q8,of_mem_zip→Q9,drop_eq_nil_of_le→R3,length_replicate→R6,zipWith_nil_left→R9,mem_of_mem_take→S6,any_cons→S8,map_drop→S9,replicate_succ→T1,length_reverse→T2,mem_filterMap→T3,getElem?_take→T8,take_sublist→U0,append_assoc→U3,nodup_append→U4,take_add_one→U7,getElem_mem→V2,take_length→V3,not_mem_nil→V4,mem_filter→V6,length_zip→W3
open List.Pairwise renaming nil→U5
open List.Perm renaming refl→O5
open List.cons renaming inj→T0
open Nat renaming lt_of_lt_of_le→B0,le_refl→B6,ne_of_lt→C6,le_trans→C7,le_succ→D7,lt_irrefl→E2,lt_succ_of_lt→F3,ne_of_gt→F6,lt_or_ge→G7,zero_le→J4,lt_succ_self→K0,le_of_lt→K9,zero_add→N2,min_self→P6,lt_of_le_of_lt→T5,not_lt_zero→V9
open Option renaming bind_some→B4,isSome_some→O6,isSome_map→U1,getD_none→V1,map_map→W6,none→X3
open Option.some renaming inj→E4,injEq→U6
open Or renaming inr→D9,inl→E1
open PyProof.Rows renaming boot_list→F0,slot_tuple_getitem→F4,callWith_type1→I0,boot_tuple→N5,callWith_builtin1→N9,boot_sorted→Q2
open PyProof.Rows.F renaming plain_set_update_loop→K2,entry_set_update_loop→N1
open PySem renaming mem_of_lookup→E3,boot_len→J2,call→W0,Within→X0
open PySem.F renaming called_set→G8,plain_extend_loop→K8,plainAttrs_list→L3,slot_list_append→N3,type_list_append→N4,slot_dict_get→N8,args_dict_get_3→Q4,plain_list_iadd→Q5,entry_dict_get→R1,plain_set_new→R7,slot_set_iter→R8
open PySem.W renaming mg_none_of→E6,kitOne→E8,kia_one→F1,fnOf→F7,keepIn→G9,findIn→J0,codeIn→M0,methodObj→O8,specialIn→O9,kitx_list→P0,instObj→Q7,cellsFrom_some→R0,lookIn→R5,kitx_tuple→T4,nsIn→T6,kitx_dict→T9,plainGet→V0,hideAll→V5,takesIn→V7,OpenLaw→W2,kitCls→W5,mroIn→W7,mg_of→W8,WalkO→W9,isFn→X2
open Sum renaming inl→L4,inr→P4
open Sum.inl renaming inj→U8
abbrev aA:=PySem.W.Frag
theorem aW{α:Type u_1}{b:α}{β:Type u_2}{x:Option β}{f:β→Option α}(h:x.bind f=some b):∃a,x=some a∧f a=some b:=Option.bind_eq_some_iff.mp h
theorem fH{α:Type u_1}{b:α}{β:Type u_2}{x:Option β}{f:β→α}(h:x.map f=some b):∃a,x=some a∧f a=b:=Option.map_eq_some_iff.mp h

set_option Elab.async false
set_option linter.all false
set_option maxRecDepth 100000
namespace L2
open PySem PySem.Spec PyProof.Rows
abbrev Key:=Sum Int Str
def wN:Key→Value→Bool
 | .inl k,v=>Value.isInt k v
 | .inr x,v=>Value.isStrOf x v
def WN(w:World):Key→Int
 | .inl k=>hashInt k
 | .inr x=>hashStr w x
theorem bT:∀{k:Key} {v:Value},wN k v=true→(∃i t,k=L4 i∧v=Value.int i t)∨(∃x t,k=P4 x∧v=Value.str x t)
 | .inl i,v,h=>by
  obtain⟨t,e⟩:=Value.isInt_shape (k:=i) (v:=v) h
  exact .inl ⟨i,t,rfl,e⟩
 | .inr x,v,h=>by
  obtain⟨t,e⟩:=Value.isStrOf_shape (x:=x) (v:=v) h
  exact .inr ⟨x,t,rfl,e⟩
theorem Kc(i:Int)(t:Tok):wN (.inl i) (.int i t)=true:=by simp[wN,Value.isInt]
theorem Kd(x:Str)(t:Tok):wN (.inr x) (.str x t)=true:=by simp[wN,Value.isStrOf]
theorem Zg(a b:Int):decide ((L4 a:Key)=L4 b)=(a==b):=by
 by_cases e:a=b
 ·subst e;simp
 ·have h:¬(L4 a:Key)=L4 b:=λq=>e (U8 q)
  rw[decide_eq_false h]
  exact(beq_eq_false_iff_ne.mpr e).symm
theorem Zh(a b:Str):decide ((P4 a:Key)=P4 b)=decide (a=b):=by
 by_cases e:a=b
 ·subst e;simp
 ·have h:¬(P4 a:Key)=P4 b:=λq=>e (Sum.inr.inj q)
  rw[decide_eq_false h,decide_eq_false e]
theorem Zi(a:Int)(b:Str):decide ((L4 a:Key)=P4 b)=false:=decide_eq_false (λq=>nomatch q)
theorem Zj(a:Str)(b:Int):decide ((P4 a:Key)=L4 b)=false:=decide_eq_false (λq=>nomatch q)
def cA(prog:Program)(w:World):PySem.KeyKind prog w Key where
  is:=wN
  hash:=WN w
  inj:=λv a b ha hb=>by
    rcases bT ha with ⟨i,t,rfl,rfl⟩ | ⟨x,t,rfl,rfl⟩
    · rcases bT hb with ⟨j,u,rfl,e⟩ | ⟨y,u,rfl,e⟩
      · injection e with e1 _;rw[e1]
      · exact nomatch e
    · rcases bT hb with ⟨j,u,rfl,e⟩ | ⟨y,u,rfl,e⟩
      · exact nomatch e
      · injection e with e1 _;rw[e1]
  byValue:=λk v h=>by
    rcases bT h with ⟨i,t,rfl,rfl⟩ | ⟨x,t,rfl,rfl⟩<;>rfl
  pyHash:=λhv h=>by
    rcases bT hv with ⟨i,t,rfl,rfl⟩ | ⟨x,t,rfl,rfl⟩
    · exact wpAny_pyHash_int h
    · exact wpAny_pyHash_str h
  eqBool:=λhu hv h=>by
    rcases bT hu with ⟨i,t,rfl,rfl⟩ | ⟨x,t,rfl,rfl⟩
    · rcases bT hv with ⟨j,u,rfl,rfl⟩ | ⟨y,u,rfl,rfl⟩
      · rw[Zg]at h;exact wpAny_eqBool_int h
      · rw[Zi]at h;exact SeqAt.EqAt.int_str i t y u _ _ _ _ h
    · rcases bT hv with ⟨j,u,rfl,rfl⟩ | ⟨y,u,rfl,rfl⟩
      · rw[Zj]at h;exact SeqAt.EqAt.str_int x t j u _ _ _ _ h
      · rw[Zh]at h;exact wpAny_eqBool_str h
  «strs»:=λk x t v h=>by
    rcases bT h with ⟨i,u,rfl,e⟩ | ⟨y,u,rfl,e⟩
    · exact nomatch e
    · injection e with e1 _
      subst e1
      cases v<;>rfl
theorem Aw(prog:Program)(w:World)(i:Int)(t:Tok):(cA prog w).is (.inl i) (.int i t)=true:=Kc i t
theorem Ax(prog:Program)(w:World)(x:Str)(t:Tok):(cA prog w).is (.inr x) (.str x t)=true:=Kd x t
end L2
namespace L2
open PySem PySem.Spec PyProof.Rows
inductive V where
  | non | bl (b:Bool) | int (i:Int) | str (x:Str) | byt (b:Array UInt8) | flt (b:UInt64) | ref (a:Addr) | ty (n:String)
  deriving DecidableEq
def RelV:V→Value→Prop
 | .non,u=>u=Value.none
 | .bl b,u=>u=Value.bool b
 | .int i,u=>∃t,u=Value.int i t
 | .str x,u=>∃t,u=Value.str x t
 | .byt b,u=>∃t,u=Value.bytes b t
 | .flt b,u=>∃t,u=Value.float b t
 | .ref a,u=>u=Value.ref a
 | .ty n,u=>u=Value.type n
abbrev Vals:List V→List Value→Prop:=Paired RelV
theorem Vals.length{xs:List V}{us:List Value}(r:Vals xs us):xs.length=us.length:=Paired.length r
theorem Vals.get:∀{xs:List V} {us:List Value} {i:Nat} {x:V},Vals xs us→xs[i]?=some x→∃u,us[i]?=some u∧RelV x u
 | _,_,_,_,.nil,e=>by simp at e
 | _,_,0,_,.cons r _,e=>by simp at e;subst e;exact⟨_,rfl,r⟩
 | _,_,i+1,x,.cons _ t,e=>by
  obtain⟨u,h1,h2⟩:=Vals.get (i:=i) (x:=x) t (by simpa using e)
  exact⟨u,by simpa using h1,h2⟩
theorem Vals.set{x:V}{u:Value}(r:RelV x u):∀{xs:List V} {us:List Value} (i:Nat),Vals xs us→Vals (xs.set i x) (us.set i u)
 | _,_,_,.nil=>.nil
 | _,_,0,.cons _ t=>.cons r t
 | _,_,i+1,.cons q t=>.cons q (Vals.set r i t)
theorem Vals.append:∀{xs ys:List V} {us ws:List Value},Vals xs us→Vals ys ws→Vals (xs++ys) (us++ws)
 | _,_,_,_,.nil,s=>s
 | _,_,_,_,.cons r t,s=>.cons r (Vals.append t s)
theorem Vals.take:∀{xs:List V} {us:List Value} (n:Nat),Vals xs us→Vals (xs.take n) (us.take n)
 | _,_,0,_=>.nil
 | _,_,_+1,.nil=>.nil
 | _,_,n+1,.cons r t=>.cons r (Vals.take n t)
theorem Vals.drop:∀{xs:List V} {us:List Value} (n:Nat),Vals xs us→Vals (xs.drop n) (us.drop n)
 | _,_,0,r=>r
 | _,_,_+1,.nil=>.nil
 | _,_,n+1,.cons _ t=>Vals.drop n t
def qL:Option V→Option Value→Prop
 | some v,some u=>RelV v u
 | none,none=>True
 | _,_=>False
def KV{κ:Type}:List (κ×V)→List (κ×Value)→Prop:=Paired λ(p:κ×V) (q:κ×Value)=>p.1=q.1∧RelV p.2 q.2
def kV:Key→V
 | .inl i=>.int i
 | .inr x=>.str x
inductive HO where
  | lst (xs:List V)
  | tup (xs:List V)
  | dK (kvs:List (Key×V)) | dT (kvs:List (List Key×V))
  | set (S:Int→Bool) (n:Nat)
  | ins (C dx:Addr) (fs:List (Str×V))
  | own (x:Addr)
  | xd (fs:List (Str×V))
  | met (f x:Addr)
  | rng (lo hi:Int)
  | iC (o:Obj) (u:HO)
  | tbl (ps:Array Value)
  | ext (φ:Heap→Prop)
abbrev Hp:=Addr→Option HO
def upd(H:Hp)(a:Addr)(o:HO):Hp:=λb=>if b=a then some o else H b
theorem bB{H:Hp}{a:Addr}{o:HO}:upd H a o a=some o:=by unfold upd;rw[if_pos rfl]
theorem aP{H:Hp}{a b:Addr}{o:HO}(h:b≠a):upd H a o b=H b:=by unfold upd;rw[if_neg h]
theorem MP{H:Hp}{a b:Addr}{o u:HO}(h:H a=some o)(h':H b=some u)(d:o≠u):a≠b:=by
 intro e;subst e;rw[h]at h';exact d (E4 h')
theorem cO{H:Hp}{a b:Addr}{o:HO}(h:H a=some o)(h':H b=none):a≠b:=by
 intro e;subst e;rw[h]at h';cases h'
section
variable(P:Program)(w:World)
def bW(H:Hp)(h:Heap)(a:Addr):HO→Prop
 | .lst xs=>xs.length≤sizeLine∧∃(its:List Value)(n:Nat),Vals xs its∧h.get? a=some {cls:=.type "list", data:=.seq its.toArray n}
 | .tup xs=>xs.length≤sizeLine∧∃its:List Value,Vals xs its∧IsTup h a its.toArray
 | .dK kvs=>kvs.length≤sizeLine∧(a==sysModules)=false∧∃vs,KV kvs vs∧h.DictOf (cA P w) a vs
 | .dT kvs=>kvs.length≤sizeLine∧(a==sysModules)=false∧∃xs:List (List Key×Addr×Value),
   Paired (λ(p:List Key×V) (q:List Key×Addr×Value)=>p.1=q.1∧H q.2.1=some (.tup (p.1.map kV))∧RelV p.2 q.2.2) kvs xs ∧
   ∃o es ep,h.get? a=some o∧o.ExactDict∧o.data=.dict es ep∧es.toList=xs.map (entryOfKey (tupleKind (cA P w)))∧(xs.map (·.1)).Nodup
 | .set S n=>h.SetOf (intKind P w) a S n
 | .ins C dx fs=>H dx=some (.own a)∧fs.length≤1000∧dx≠a∧h.get? a=some (Q7 C dx) ∧
   ∃mA,h.Ns1 dx mA∧(∀f,qL (fs.lookup f) (mA f))∧X0 mA (fs.map (·.1))
 | .own _=>∃o,h.get? a=some o
 | .xd fs=>∃mA,h.Ns1 a mA∧∀f,qL (fs.lookup f) (mA f)
 | .rng lo hi=>∃t u v,h.get? a=some {cls:=.type "range", data:=.fields #[.int lo t,.int hi u,.int 1 v]}
 | .iC o u=>h.get? a=some o∧bW H h a u
 | .tbl ps=>h.get? a=some {cls:=.none,data:=.fields ps}
 | .met f x=>h.get? a=some (O8 (.ref f) (.ref x))
 | .ext φ=>φ h∧(∃o,h.get? a=some o)∧∀h1 h2:Heap,φ h1→(∀o,h1.get? a=some o→h2.get? a=some o)→φ h2
def nG(H:Hp)(h:Heap):Prop:=∀a o,H a=some o→bW P w H h a o
end
section
variable{P:Program}{w:World}{H H':Hp}{h h':Heap}{a:Addr}{o:HO}
theorem bW.lt(x:bW P w H h a o):a<h.objs.size:=by
 cases o with
 | lst xs=>obtain⟨_,_,_,_,e⟩:=x;exact Heap.lt_size e
 | tup xs=>obtain⟨_,_,_,p⟩:=x;exact p.lt
 | dK kvs=>obtain⟨_,_,_,_,o,_,_,e,_⟩:=x;exact Heap.lt_size e
 | dT kvs=>obtain⟨_,_,_,_,o,_,_,e,_⟩:=x;exact Heap.lt_size e
 | set S n=>obtain⟨o,_,_,_,e,_⟩:=x;exact Heap.lt_size e
 | ins C dx fs=>obtain⟨_,_,_,e,_⟩:=x;exact Heap.lt_size e
 | own y=>obtain⟨_,e⟩:=x;exact Heap.lt_size e
 | xd fs=>obtain⟨_,⟨_,_,_,e,_⟩,_⟩:=x;exact Heap.lt_size e
 | rng lo hi=>obtain⟨_,_,_,e⟩:=x;exact Heap.lt_size e
 | iC ob u=>obtain⟨e,_⟩:=x;exact Heap.lt_size e
 | tbl ps=>exact Heap.lt_size (show h.get? a=some _ from x)
 | met f y=>exact Heap.lt_size (show h.get? a=some _ from x)
 | ext φ=>obtain⟨_,⟨_,e⟩,_⟩:=x;exact Heap.lt_size e
theorem Paired.Zk{α β:Type}{F G:α→β→Prop}:∀{l₁:List α} {l₂:List β},Paired F l₁ l₂→(∀a b,F a b→G a b)→Paired G l₁ l₂
 | _,_,.nil,_=>.nil
 | _,_,.cons r t,f=>.cons (f _ _ r) (Paired.Zk t f)
theorem bW.stay(x:bW P w H h a o)(k:∀b u,(b=a∨H b=some (.own a))→h.get? b=some u→h'.get? b=some u)
  (ho:∀b,H b=some (.own a)→H' b=some (.own a)) (ht:∀b xs,H b=some (.tup xs)→H' b=some (.tup xs)):bW P w H' h' a o:=by
 induction o with
 | lst xs=>obtain⟨z,its,n,r,e⟩:=x;exact⟨z,its,n,r,k _ _ (.inl rfl) e⟩
 | tup xs=>obtain⟨z,its,r,ob,e,c⟩:=x;exact⟨z,its,r,ob,k _ _ (.inl rfl) e,c⟩
 | dK kvs=>obtain⟨z,y,vs,r,ob,es,ep,e,c⟩:=x;exact⟨z,y,vs,r,ob,es,ep,k _ _ (.inl rfl) e,c⟩
 | dT kvs=>
  obtain⟨z,y,xs,r,ob,es,ep,e,c⟩:=x
  exact⟨z,y,xs,Paired.Zk r λp q z=>⟨z.1,ht _ _ z.2.1,z.2.2⟩,ob,es,ep,k _ _ (.inl rfl) e,c⟩
 | set S n=>obtain⟨ob,es,ep,t,e,c⟩:=x;exact⟨ob,es,ep,t,k _ _ (.inl rfl) e,c⟩
 | ins C dx fs=>
  obtain⟨d,z,ne,e,mA,⟨od,es,ep,e2,c⟩,r⟩:=x
  exact⟨ho _ d,z,ne,k _ _ (.inl rfl) e,mA,⟨od,es,ep,k _ _ (.inr d) e2,c⟩,r⟩
 | own y=>obtain⟨ob,e⟩:=x;exact⟨ob,k _ _ (.inl rfl) e⟩
 | xd fs=>obtain⟨mA,⟨od,es,ep,e,c⟩,r⟩:=x;exact⟨mA,⟨od,es,ep,k _ _ (.inl rfl) e,c⟩,r⟩
 | rng lo hi=>obtain⟨t,u,v,e⟩:=x;exact⟨t,u,v,k _ _ (.inl rfl) e⟩
 | iC ob u ih=>obtain⟨e,q⟩:=x;exact⟨k _ _ (.inl rfl) e,ih q⟩
 | tbl ps=>
  have e:h.get? a=some {cls:=.none,data:=.fields ps}:=x
  show h'.get? a=some {cls:=.none,data:=.fields ps}
  exact k a _ (.inl rfl) e
 | met f y=>
  have e:h.get? a=some (O8 (.ref f) (.ref y)):=x
  show h'.get? a=some (O8 (.ref f) (.ref y))
  exact k a _ (.inl rfl) e
 | ext φ=>obtain⟨p,⟨o,e⟩,st⟩:=x;exact⟨st _ _ p λo q=>k _ _ (.inl rfl) q,⟨o,k _ _ (.inl rfl) e⟩,st⟩
theorem nG.lt(x:nG P w H h)(e:H a=some o):a<h.objs.size:=(x a o e).lt
theorem nG.fresh(x:nG P w H h)(e:h.objs.size≤a):H a=none:=by
 cases q:H a with
 | none=>rfl
 | some u=>exact absurd (B0 (x.lt q) e) (E2 _)
theorem nG.kept(x:nG P w H h)(k:∀b u,h.get? b=some u→h'.get? b=some u):nG P w H h':=λa o e=>
 (x a o e).stay (λb u _ q=>k b u q) (λ_ q=>q) λ_ _ q=>q
theorem nG.laid(x:nG P w H h)(k:∀b u,h.get? b=some u→h'.get? b=some u)(hp:h.objs.size≤a)(new:bW P w (upd H a o) h' a o):nG P w (upd H a o) h':=λb u e=>by
 have hn:=x.fresh hp
 by_cases hb:b=a
 ·subst hb;rw[bB]at e;cases e;exact new
 ·rw[aP hb]at e
  exact(x b u e).stay (λc v _ q=>k c v q) (λc q=>by rw[aP (cO q hn)];exact q) λc xs q=>by rw[aP (cO q hn)];exact q
end
def Rd(H:Hp)(a:Addr)(u:HO):Prop:=H a=some u∨∃o,H a=some (.iC o u)
theorem Rd.ok{P:Program}{w:World}{H:Hp}{h:Heap}{a:Addr}{u:HO}(r:Rd H a u)(x:nG P w H h):bW P w H h a u:=by
 rcases r with r | ⟨o,r⟩
 ·exact x a u r
 ·obtain⟨_,q⟩:=x a _ r
  exact q
def LK:Option HO→Prop
 | some (.lst _)=>True
 | some (.dK _)=>True
 | some (.dT _)=>True
 | some (.set _ _)=>True
 | some (.ins _ _ _)=>True
 | some (.ext _)=>True
 | _=>False
section
variable{P:Program}{w:World}{H:Hp}{h h':Heap}{x e:Addr}{o':HO}
theorem nG.write(ok:nG P w H h)(mu:LK (H x))(he:e=x∨H e=some (.own x))(k:∀b u,b≠e→h.get? b=some u→h'.get? b=some u)(heo:∃u,h'.get? e=some u)
  (new:bW P w (upd H x o') h' x o'):nG P w (upd H x o') h':=λb u q=>by
 have Nr:∀c y,H c=some (.own y)→c≠x:=λc y r z=>by subst z;rw[r]at mu;exact mu
 have Uy:∀c xs,H c=some (.tup xs)→c≠x:=λc xs r z=>by subst z;rw[r]at mu;exact mu
 by_cases hb:b=x
 ·subst hb;rw[bB]at q;cases q;exact new
 ·rw[aP hb]at q
  by_cases hbe:b=e
  ·have q':H b=some (.own x):=by
    rcases he with z | z
    ·exact absurd (hbe.trans z) hb
    ·rw[hbe];exact z
   rw[q]at q';cases q'
   obtain⟨v,hv⟩:=heo
   exact⟨v,by rw[hbe];exact hv⟩
  ·refine(ok b u q).stay (λc v hc r=>k c v ?_ r) (λc r=>by rw[aP (Nr c b r)];exact r) λc xs r=>by rw[aP (Uy c xs r)];exact r
   rcases hc with rfl | hc
   ·exact hbe
   ·rintro rfl
    rcases he with z | z
    ·exact Nr c b hc z
    ·rw[hc]at z;cases z;exact hb rfl
end
structure Un(fs ex:List Addr)(H H':Hp)(h h':Heap):Prop where
 keep:∀b o,h.get? b=some o→H b=none→b∉fs→b∉ex→h'.get? b=some o
 slot:∀b o,h.get? b=some o→H b=none→b∈fs→b∉ex→∃sl,h'.get? b=some {o with slots:=sl}
 free:∀b o,h.get? b=some o→H b=none→b∉ex→H' b=none
 there:∀b o,h.get? b=some o→b∉ex→∃o',h'.get? b=some o'
 tups:∀b xs,H b=some (.tup xs)→H' b=some (.tup xs)
 wD:∀b o u,H b=some (.iC o u)→H' b=some (.iC o u)
 yM:∀b ps,H b=some (.tbl ps)→∃more,H' b=some (.tbl (ps++more))
section
variable{fs fs' ex ex':List Addr}{H H1 H2:Hp}{h h1 h2 h':Heap}{a x e:Addr}{o:HO}
theorem Un.any(u:Un fs ex H H1 h h1){b:Addr}{ob:Obj}(q:h.get? b=some ob)(n:H b=none)(hx:b∉ex):∃sl,h1.get? b=some {ob with slots:=sl}:=by
 by_cases hb:b∈fs
 ·exact u.slot b ob q n hb hx
 ·exact⟨ob.slots,u.keep b ob q n hb hx⟩
theorem Un.kept(k:∀b u,h.get? b=some u→h'.get? b=some u):Un fs ex H H h h':=
 ⟨λb ob q _ _ _=>k b ob q,λb ob q _ _ _=>⟨ob.slots,k b ob q⟩,λ_ _ _ n _=>n,λb ob q _=>⟨ob,k b ob q⟩,λ_ _ q=>q,λ_ _ _ q=>q,λ_ ps q=>⟨#[],by rw[q];simp⟩⟩
theorem Un.refl:Un fs ex H H h h:=Un.kept λ_ _ q=>q
theorem Un.laid(k:∀b u,h.get? b=some u→h'.get? b=some u)(hp:h.objs.size≤a)(hn:H a=none):Un fs ex H (upd H a o) h h' where
 keep:=λb u q _ _ _=>k b u q
 slot:=λb u q _ _ _=>⟨u.slots,k b u q⟩
 free:=λb u q n _=>by rw[aP (C6 (B0 (Heap.lt_size q) hp))];exact n
 there:=λb u q _=>⟨u,k b u q⟩
 tups:=λb xs q=>by rw[aP (cO q hn)];exact q
 wD:=λb u xs q=>by rw[aP (cO q hn)];exact q
 yM:=λb ps q=>⟨#[],by rw[aP (cO q hn),q];simp⟩
theorem Un.write(mu:LK (H x))(he:e=x∨H e=some (.own x))(k:∀b u,b≠e→h.get? b=some u→h'.get? b=some u)(heo:∃u,h'.get? e=some u):Un fs ex H (upd H x o) h h':=by
 have hx:∀b,H b=none→b≠x:=λb n z=>by subst z;rw[n]at mu;exact mu
 have hb:∀b,H b=none→b≠e:=λb n z=>by
  subst z
  rcases he with r | r
  ·exact hx b n r
  ·rw[n]at r;cases r
 have hm:∀b u,H b=some u→¬LK (some u)→b≠x:=λb u q nm z=>by subst z;rw[q]at mu;exact nm mu
 refine⟨λb u q n _ _=>k b u (hb b n) q,λb u q n _ _=>⟨u.slots,k b u (hb b n) q⟩,λb u q n _=>by rw[aP (hx b n)];exact n,λb u q _=>?_,
  λb xs q=>by rw[aP (hm b _ q λz=>z)];exact q,λb u xs q=>by rw[aP (hm b _ q λz=>z)];exact q,λb ps q=>⟨#[],by rw[aP (hm b _ q λz=>z),q];simp⟩⟩
 by_cases hbe:b=e
 ·subst hbe;exact heo
 ·exact⟨u,k b u hbe q⟩
end
def TY(h:Heap)(H:Hp):List Addr:=(D3 h.objs.size).filter λa=>(H a).isSome
def yN(h:Heap)(H:Hp):Heap:=V5 h (TY h H)
theorem Ke(h:Heap)(H:Hp):(yN h H).objs.size=h.objs.size:=PySem.W.hideAll_size _ _
theorem Nt{h:Heap}{H:Hp}{b:Addr}{o:Obj}(e:h.get? b=some o)(n:H b=none):(yN h H).get? b=some o:=
 PySem.W.hideAll_get _ e λhm=>by
  have q:(H b).isSome=true:=(V6.mp hm).2
  rw[n]at q;simp at q
theorem Uz{h:Heap}{H:Hp}{b:Addr}{o:Obj}(e:(yN h H).get? b=some o):h.get? b=some o∧H b=none:=by
 have e':h.get? b=some o:=PySem.W.of_hideAll (TY h H) e
 refine⟨e',?_⟩
 cases q:H b with
 | none=>rfl
 | some x=>
  have hm:b∈TY h H:=V6.mpr ⟨L9.mpr (Heap.lt_size e'),by simp[q]⟩
  have z:(yN h H).get? b=none:=PySem.W.hideAll_none (TY h H) hm
  rw[z]at e;cases e
def Va(g h:Heap)(L:Addr):List (Addr×Obj):=(D3 h.objs.size).filterMap λa=>if a=L∨(g.get? a).isSome=true then none else(h.get? a).map λo=>(a,o)
def rest(g h:Heap)(L d:Addr):List (Addr×Obj):=(Va g h L).filter λp=>decide (p.1≠d)
end L2
namespace L2
open PySem PySem.Spec PyProof.Rows
structure Mod(K:aA)(mg:Str→Option Value)(base:Heap):Prop where
 WQ:K.In base
 glob:base.Ns mainGlobals mg
 blt:∃mb,base.Ns builtinsNs mb∧∀x:Str,x ≠ "__name__" → mb x=bootBuiltins x
 nolimit:base.NoLimit
structure Cx where
 prog:Program
 w:World
 K:aA
 mg:Str→Option Value
 base:Heap
 A:Around
 N:List Str
 s₀:Shared
 H₀:Hp
 env:Env
 outer:List Env
 stack:List Env
 ex:List Addr
 fn:Str→Bool
 calm:Bool
 pn:List (Addr×Obj)
 xe:Value→Shared→Prop
def frs(l:List Env):List Addr:=l.filterMap (·.frame)
abbrev Cx.fs(X:Cx):List Addr:=frs X.outer
def MT(sc:Scope)(x:Str):Prop:=sc.names.lookup x=some .local∨sc.names.lookup x=some .cell∨sc.names.lookup x=some .free
def Loc(sc:Scope)(x:Str):Prop:=sc.names.lookup x=some .local∨sc.names.lookup x=some .cell
def Look(env:Env)(h:Heap)(m:Str→Option Value)(x:Str)(u:Value):Prop:=
 (env.kindOf x=some .local∧m x=some u)∨((env.kindOf x=some .cell∨env.kindOf x=some .free)∧∃c,env.cells.lookup x=some c∧h.IsCell c (some u))
structure Cx.Ok(X:Cx):Prop where
 mod:Mod X.K X.mg X.base
 kind:X.env.scope.kind=.function
 glob:X.env.globals=mainGlobals
 blt:X.env.builtins=builtinsNs
 above:X.s₀.heap.objs.size≤X.env.locals
 inj:∀x y c,X.env.cells.lookup x=some c→X.env.cells.lookup y=some c→x=y
 has:∀x,(X.env.kindOf x=some .cell∨X.env.kindOf x=some .free)→∃c,X.env.cells.lookup x=some c
 cab:∀x c,X.fn x=true→X.env.cells.lookup x=some c→X.s₀.heap.objs.size≤c
 hd:X.calm=true→X.A.handled=none
 frames:X.A.frames=some X.stack
 UG:X.stack=X.outer∨(X.stack=X.env::X.outer∧X.env.frame=some X.env.locals)
 bc:∀b∈X.ex,b≠X.env.locals∧∀x c,X.env.cells.lookup x=some c→c≠b
 bs:∀b o,X.base.get? b=some o→X.s₀.heap.get? b=some o∧X.H₀ b=none
 Uo:X.base.objs.size≤X.s₀.heap.objs.size
 Kf:∀b o,X.base.get? b=some o→b∉X.ex
 Vb:∀b∈X.ex,b∉X.fs
 tL:X.s₀.heap.FunFrames X.base X.outer
 LQ:∀b∈X.fs,X.H₀ b=none
structure Inv(X:Cx)(pins:List (Addr×Obj))(σ:List (Option V))(H:Hp)(s:Shared):Prop where
 ok:X.Ok
 os:s.os=X.s₀.os
 bare:AllBare s.gens
 base:Un X.fs X.ex X.H₀ H X.s₀.heap s.heap
 loc:∃m,s.heap.Ns X.env.locals m∧∀(i:Nat)(x:Str)(v:V),X.N[i]?=some x→σ[i]?=some (some v)→MT X.env.scope x→∃u,RelV v u∧Look X.env s.heap m x u
 cell:∀x c,X.env.cells.lookup x=some c→∃v,s.heap.IsCell c v
 free:H X.env.locals=none
 iD:∀x c,X.env.cells.lookup x=some c→H c=none
 pin:∀p∈X.pn++pins,s.heap.get? p.1=some p.2∧H p.1=none∧p.1≠X.env.locals∧p.1∉X.fs∧∀v,p.2.data≠.cell v
 hok:nG X.prog X.w H s.heap
 len:σ.length=X.N.length
section
variable{X:Cx}{pins:List (Addr×Obj)}{σ:List (Option V)}{H H':Hp}{s:Shared}{h':Heap}
theorem Cx.Ok.WR(ok:X.Ok){b:Addr}{o:Obj}(e:X.base.get? b=some o):b∉X.fs:=λhb=>by
 have:=(ok.tL.mem hb).1
 rw[e]at this;cases this
theorem Inv.bs(I:Inv X pins σ H s):∀b o,X.base.get? b=some o→s.heap.get? b=some o∧H b=none:=λb o e=>
 ⟨I.base.keep b o (I.ok.bs b o e).1 (I.ok.bs b o e).2 (I.ok.WR e) (I.ok.Kf b o e),I.base.free b o (I.ok.bs b o e).1 (I.ok.bs b o e).2 (I.ok.Kf b o e)⟩
theorem Inv.bk(I:Inv X pins σ H s):∀b o,X.base.get? b=some o→s.heap.get? b=some o:=λb o e=>(I.bs b o e).1
theorem Inv.mod(I:Inv X pins σ H s):Mod X.K X.mg X.base:=I.ok.mod
theorem Inv.yO(I:Inv X pins σ H s):X.K.In s.heap:=I.ok.mod.WQ.keeps I.bk
theorem Inv.lt(I:Inv X pins σ H s):X.env.locals<s.heap.objs.size:=let ⟨_,hn,_⟩:=I.loc;hn.lt
theorem Inv.sz(I:Inv X pins σ H s):X.s₀.heap.objs.size≤s.heap.objs.size:=C7 I.ok.above (K9 I.lt)
theorem Inv.WT(I:Inv X pins σ H s){a:Addr}(h:s.heap.objs.size≤a):a∉X.fs:=λhb=>by
 obtain⟨_,o,ho,_⟩:=I.ok.tL.mem hb
 exact absurd (B0 (Heap.lt_size ho) (C7 I.sz h)) (E2 _)
theorem Inv.Up(I:Inv X pins σ H s):∀x c,X.env.cells.lookup x=some c→c≠X.env.locals:=λx c e z=>by
 obtain⟨v,o,ho,hd⟩:=I.cell x c e
 obtain⟨m,⟨o',es,ep,ho',hd',_⟩,_⟩:=I.loc
 rw[z,ho']at ho;cases ho;rw[hd']at hd;cases hd
theorem Inv.tL(I:Inv X pins σ H s):s.heap.FunFrames X.base X.outer:=by
 have all:∀(l:List Env),(∀b∈frs l,b∈X.fs)→X.s₀.heap.FunFrames X.base l→s.heap.FunFrames X.base l:=by
  intro l
  induction l with
  | nil=>intro _ _;trivial
  | cons env r ih=>
   intro hs hl
   obtain⟨hk,⟨L,o,hf,hn,ho,hd⟩,hr⟩:=hl
   have hL:L∈X.fs:=hs L (by unfold frs;rw[M4,hf];exact C4)
   obtain⟨sl,e⟩:=I.base.slot L o ho (I.ok.LQ L hL) hL λz=>I.ok.Vb L z hL
   exact⟨hk,⟨L,_,hf,hn,e,hd⟩,ih (λb hb=>hs b (by unfold frs;rw[M4,hf];exact B7 _ hb)) hr⟩
 exact all X.outer (λ_ hb=>hb) I.ok.tL
theorem Inv.stack(I:Inv X pins σ H s):s.heap.FunFrames X.base X.stack:=by
 rcases I.ok.UG with e | ⟨e,hf⟩
 ·rw[e];exact I.tL
 ·rw[e]
  obtain⟨m,hn,_⟩:=I.loc
  refine .cons (by rw[I.ok.kind];decide) hf hn ?_ I.tL
  exact Heap.get?_none_of_le (C7 I.ok.Uo I.ok.above)
theorem Inv.qM(I:Inv X pins σ H s):∀b∈frs X.stack,b∈X.env.locals::X.fs:=λb hb=>by
 rcases I.ok.UG with e | ⟨e,hf⟩
 ·rw[e]at hb;exact B7 _ hb
 ·rw[e]at hb
  unfold frs at hb
  rw[M4,hf]at hb
  exact hb
theorem Inv.yP(I:Inv X pins σ H s):∀b∈frs X.stack,H b=none:=λb hb=>by
 rcases B8.mp (I.qM b hb)with e | hb
 ·rw[e];exact I.free
 ·obtain⟨_,o,ho,_⟩:=I.ok.tL.mem hb
  exact I.base.free b o ho (I.ok.LQ b hb) λz=>I.ok.Vb b z hb
theorem Inv.step{g':Array GenState}{t':Nat}{d':Drawn}{ch:List Addr}(I:Inv X pins σ H s)
  (hch:∀b∈ch,(b∈X.ex∨X.s₀.heap.objs.size≤b)∧b≠X.env.locals∧(∀x c,X.env.cells.lookup x=some c→c≠b)∧∀p∈X.pn++pins,p.1≠b)
  (keep:∀b o,b≠X.env.locals→b∉X.fs→b∉ch→s.heap.get? b=some o→H b=none→h'.get? b=some o)
  (slot:∀b o,b≠X.env.locals→b∈X.fs→b∉ch→s.heap.get? b=some o→H b=none→∃sl,h'.get? b=some {o with slots:=sl}) (free:∀b o,b∉ch→s.heap.get? b=some o→H b=none→H' b=none)
  (there:∀b o,b∉ch→s.heap.get? b=some o→∃o',h'.get? b=some o')
  (tups:∀b xs,H b=some (.tup xs)→H' b=some (.tup xs)) (wD:∀b o u,H b=some (.iC o u)→H' b=some (.iC o u)) (yM:∀b ps,H b=some (.tbl ps)→∃more,H' b=some (.tbl (ps++more)))
  (ns:∀m,s.heap.Ns X.env.locals m→h'.Ns X.env.locals m) (hok:nG X.prog X.w H' h') (hg:AllBare g') :
  Inv X pins σ H' {s with heap:=h',gens:=g',drawn:=d',toks:=t'}:=by
 have bf:∀b o,X.s₀.heap.get? b=some o→b≠X.env.locals:=λb o e=>C6 (B0 (Heap.lt_size e) I.ok.above)
 have LR:∀b o,X.s₀.heap.get? b=some o→b∉X.ex→b∉ch:=λb o e hx hb=>by
  rcases(hch b hb).1 with z | z
  ·exact hx z
  ·exact absurd (B0 (Heap.lt_size e) z) (E2 _)
 have cellK:∀x c,X.env.cells.lookup x=some c→∀v,s.heap.IsCell c v→h'.IsCell c v:=λx c e v ⟨o,ho,hd⟩=>by
  have NB:c∉ch:=λz=>(hch c z).2.2.1 x c e rfl
  by_cases hc:c∈X.fs
  ·obtain⟨sl,q⟩:=slot c o (I.Up x c e) hc NB ho (I.iD x c e)
   exact⟨_,q,hd⟩
  ·exact⟨o,keep c o (I.Up x c e) hc NB ho (I.iD x c e),hd⟩
 refine⟨I.ok,I.os,hg,⟨λb o e n hb hx=>?_,λb o e n hb hx=>?_,λb o e n hx=>?_,λb o e hx=>?_,λb xs e=>tups b xs (I.base.tups b xs e),λb o xs e=>wD b o xs (I.base.wD b o xs e),λb ps e=>?_⟩,?_,λx c e=>?_,?_,λx c e=>?_,λp hp=>?_,hok,I.len⟩
 ·exact keep b o (bf b o e) hb (LR b o e hx) (I.base.keep b o e n hb hx) (I.base.free b o e n hx)
 ·obtain⟨sl,e1⟩:=I.base.slot b o e n hb hx
  obtain⟨sl',e2⟩:=slot b _ (bf b o e) hb (LR b o e hx) e1 (I.base.free b o e n hx)
  exact⟨sl',e2⟩
 ·obtain⟨o',e1⟩:=I.base.there b o e hx
  exact free b o' (LR b o e hx) e1 (I.base.free b o e n hx)
 ·obtain⟨o',e1⟩:=I.base.there b o e hx
  exact there b o' (LR b o e hx) e1
 ·obtain⟨m1,e1⟩:=I.base.yM b ps e
  obtain⟨m2,e2⟩:=yM b _ e1
  exact⟨m1++m2,by rw[e2,Array.append_assoc]⟩
 ·obtain⟨m,hn,hl⟩:=I.loc
  refine⟨m,ns m hn,λi x v e1 e2 e3=>?_⟩
  obtain⟨u,r,l⟩:=hl i x v e1 e2 e3
  refine⟨u,r,?_⟩
  rcases l with l | ⟨k,c,e,z⟩
  ·exact .inl l
  ·exact .inr ⟨k,c,e,cellK x c e _ z⟩
 ·obtain⟨v,z⟩:=I.cell x c e
  exact⟨v,cellK x c e v z⟩
 ·obtain⟨m,⟨o,_,_,ho,_⟩,_⟩:=I.loc
  exact free _ o (λz=>(hch _ z).2.1 rfl) ho I.free
 ·obtain⟨v,o,ho,hd⟩:=I.cell x c e
  exact free c o (λz=>(hch c z).2.2.1 x c e rfl) ho (I.iD x c e)
 ·obtain⟨e,n,ne,nf,d⟩:=I.pin p hp
  have NB:p.1∉ch:=λz=>(hch p.1 z).2.2.2 p hp rfl
  exact⟨keep p.1 p.2 ne nf NB e n,free p.1 p.2 NB e n,ne,nf,d⟩
theorem Inv.un{t':Nat}(I:Inv X pins σ H s)(u:Un X.fs [] H H' s.heap h')(hok:nG X.prog X.w H' h'):Inv X pins σ H' {s with heap:=h',toks:=t'}:=by
 obtain⟨m,⟨o,es,ep,ho,r⟩,_⟩:=id I.loc
 obtain⟨sl,hL⟩:=u.any ho I.free (by simp)
 exact I.step (g':=s.gens) (d':=s.drawn) (ch:=[]) (λ_ z=>nomatch z) (λb o _ hb _ e n=>u.keep b o e n hb (by simp)) (λb o _ hb _ e n=>u.slot b o e n hb (by simp)) (λb o _ e n=>u.free b o e n (by simp)) (λb o _ e=>u.there b o e (by simp)) u.tups u.wD u.yM (λm' hm=>by
  obtain⟨o',es',ep',ho',r'⟩:=hm
  rw[ho]at ho';cases ho'
  exact⟨_,es',ep',hL,r'⟩) hok I.bare
theorem Inv.call{g':Array GenState}{t':Nat}{d':Drawn}{ch:List Addr}(I:Inv X pins σ H s)(u:Un (frs X.stack) ch H H' s.heap h')(hok:nG X.prog X.w H' h')(hg:AllBare g')
  (hch:∀b∈ch,(b∈X.ex∨X.s₀.heap.objs.size≤b)∧b≠X.env.locals∧(∀x c,X.env.cells.lookup x=some c→c≠b)∧∀p∈X.pn++pins,p.1≠b) :
  Inv X pins σ H' {s with heap:=h',gens:=g',drawn:=d',toks:=t'}:=by
 obtain⟨m,⟨o,es,ep,ho,r⟩,_⟩:=id I.loc
 obtain⟨sl,hL⟩:=u.any ho I.free λz=>(hch _ z).2.1 rfl
 exact I.step (ch:=ch) hch (λb o hL hb hc e n=>u.keep b o e n (λz=>(B8.mp (I.qM b z)).elim hL hb) hc) (λb o _ _ hc e n=>u.any e n hc) (λb o hc e n=>u.free b o e n hc) (λb o hc e=>u.there b o e hc) u.tups u.wD u.yM (λm' hm=>by
  obtain⟨o',es',ep',ho',r'⟩:=hm
  rw[ho]at ho';cases ho'
  exact⟨_,es',ep',hL,r'⟩) hok hg
theorem Inv.turned{t':Nat}{it:Addr}(I:Inv X pins σ H s)(k:∀b o,b≠it→s.heap.get? b=some o→h'.get? b=some o)(hn:H it=none)(hL:it≠X.env.locals)
  (h1:it∈X.ex∨X.s₀.heap.objs.size≤it) (h2:∀x c,X.env.cells.lookup x=some c→c≠it) (h3:∀p∈X.pn++pins,p.1≠it):Inv X pins σ H {s with heap:=h',toks:=t'}:=by
 have bh:∀b u,H b=some u→b≠it:=λb u e z=>by rw[z,hn]at e;cases e
 refine I.step (g':=s.gens) (d':=s.drawn) (ch:=[it]) (λb hb=>?_) (λb o _ _ hc e _=>k b o (λz=>hc (by simp[z])) e) (λb o _ _ hc e _=>⟨o.slots,k b o (λz=>hc (by simp[z])) e⟩) (λ_ _ _ _ n=>n)
  (λb o hc e=>⟨o,k b o (λz=>hc (by simp[z])) e⟩) (λ_ _ e=>e) (λ_ _ _ e=>e) (λb ps e=>⟨#[],by rw[e];simp⟩) (λm hm=>?_) (λb u e=>?_) I.bare
 ·have e:b=it:=by simpa using hb
  subst e
  exact⟨h1,hL,h2,h3⟩
 ·obtain⟨o,es,ep,ho,r⟩:=hm
  exact⟨o,es,ep,k _ o (Ne.symm hL) ho,r⟩
 ·refine(I.hok b u e).stay (λc v hc q=>k c v ?_ q) (λ_ q=>q) λ_ _ q=>q
  rcases hc with z | z
  ·rw[z];exact bh b u e
  ·exact bh c _ z
theorem Inv.tok(I:Inv X pins σ H s)(t:Nat):Inv X pins σ H {s with toks:=t}:=I.un (h':=s.heap) (t':=t) Un.refl I.hok
theorem Inv.kept{t':Nat}(I:Inv X pins σ H s)(k:∀b u,s.heap.get? b=some u→h'.get? b=some u):Inv X pins σ H {s with heap:=h',toks:=t'}:=I.un (Un.kept k) (I.hok.kept k)
theorem Inv.laid{a:Addr}{o:HO}{t':Nat}(I:Inv X pins σ H s)(k:∀b u,s.heap.get? b=some u→h'.get? b=some u)(hp:s.heap.objs.size≤a)(new:bW X.prog X.w (upd H a o) h' a o) :
  Inv X pins σ (upd H a o) {s with heap:=h',toks:=t'}:=I.un (Un.laid k hp (I.hok.fresh hp)) (I.hok.laid k hp new)
theorem Inv.write{x e:Addr}{o:HO}{t':Nat}(I:Inv X pins σ H s)(mu:LK (H x))(he:e=x∨H e=some (.own x))(k:∀b u,b≠e→s.heap.get? b=some u→h'.get? b=some u)(heo:∃u,h'.get? e=some u)
  (new:bW X.prog X.w (upd H x o) h' x o):Inv X pins σ (upd H x o) {s with heap:=h',toks:=t'}:=I.un (Un.write mu he k heo) (I.hok.write mu he k heo new)
theorem Inv.weak{σ':List (Option V)}(I:Inv X pins σ H s)(hl:σ'.length=σ.length)(w:∀(i:Nat) v,σ'[i]?=some (some v)→σ[i]?=some (some v)):Inv X pins σ' H s:=
 ⟨I.ok,I.os,I.bare,I.base,let ⟨m,hn,hl'⟩:=I.loc;⟨m,hn,λi x v e1 e2 e3=>hl' i x v e1 (w i v e2) e3⟩,I.cell,I.free,I.iD,I.pin,I.hok,hl.trans I.len⟩
theorem Inv.Hg{Nu:List (Addr×Obj)}(I:Inv X pins σ H s)(h:∀p∈Nu,s.heap.get? p.1=some p.2∧H p.1=none∧p.1≠X.env.locals∧p.1∉X.fs∧∀v,p.2.data≠.cell v):Inv X Nu σ H s:=
 ⟨I.ok,I.os,I.bare,I.base,I.loc,I.cell,I.free,I.iD,λp hp=>(E7.mp hp).elim (λz=>I.pin p (K4 _ z)) (h p),I.hok,I.len⟩
theorem Ay{N:List Str}(hN:N.Nodup){i j:Nat}{x:Str}(a:N[i]?=some x)(b:N[j]?=some x):i=j:=by
 obtain⟨h1,e1⟩:=B9.mp a
 obtain⟨h2,e2⟩:=B9.mp b
 exact(List.getElem_inj hN).mp (e1.trans e2.symm)
theorem wO{M:Model}{A:Around}{E:Value→Shared→Prop}{i:Nat}{x:Str}{v:V}{u:Value}{Q:Unit→Shared→Prop}(I:Inv X pins σ H s)(hN:X.N.Nodup)(hi:X.N[i]?=some x)(hx:Loc X.env.scope x)(r:RelV v u)
  (h:∀s',Inv X pins (σ.set i (some v)) H s'→(∃a,Heap.SameBut a s.heap s'.heap∧(a=X.env.locals∨X.env.cells.lookup x=some a))→Q () s') (hf:X.fn x=true∨X.env.scope.names.lookup x=some .local:=by first | exact .inl rfl | exact .inr rfl | assumption):wpAny M A (storeName X.env x u) Q E s:=by
 obtain⟨m,hn,hl⟩:=id I.loc
 have hcls:(X.env.scope.kind==.class||(X.env.scope.kind==.module&&X.env.locals != X.env.globals))=false:=by rw[I.ok.kind];rfl
 have bj:i<σ.length:=by rw[I.len];exact(B9.mp hi).1
 have Up:=I.Up
 have tracked:∀{a:Addr} {h':Heap},(∃o,s.heap.get? a=some o∧H a=none)→Heap.SameBut a s.heap h'→nG X.prog X.w H h':=λ{a h'} ha hs b ob e=>by
  obtain⟨_,_,hfree⟩:=ha
  refine(I.hok b ob e).stay (λc w' hc q=>(hs.2 c ?_).trans q) (λ_ q=>q) λ_ _ q=>q
  rintro rfl
  rcases hc with rfl | hc
  ·rw[hfree]at e;cases e
  ·rw[hfree]at hc;cases hc
 rcases hx with hk | hk
 ·refine wpAny_storeName_local hk hn (λh' hn' hs=>?_) hcls
  obtain⟨oL,_,_,hoL,_⟩:=id hn
  refine h _ ⟨I.ok,I.os,I.bare,⟨λb o e n hb hx=>?_,λb o e n hb hx=>?_,I.base.free,λb o e hx=>?_,I.base.tups,I.base.wD,I.base.yM⟩,⟨_,hn',λj y v' e1 e2 e3=>?_⟩,λy c e=>?_,I.free,I.iD,λp hp=>?_,tracked ⟨oL,hoL,I.free⟩ hs,by simpa using I.len⟩ ⟨_,hs,.inl rfl⟩
  ·exact(hs.2 b (C6 (B0 (Heap.lt_size e) I.ok.above))).trans (I.base.keep b o e n hb hx)
  ·obtain⟨sl,e1⟩:=I.base.slot b o e n hb hx
   exact⟨sl,(hs.2 b (C6 (B0 (Heap.lt_size e) I.ok.above))).trans e1⟩
  ·obtain⟨o',e1⟩:=I.base.there b o e hx
   exact⟨o',(hs.2 b (C6 (B0 (Heap.lt_size e) I.ok.above))).trans e1⟩
  ·by_cases hj:j=i
   ·subst hj
    rw[hi]at e1;cases e1
    rw[L7 bj]at e2
    cases e2
    exact⟨u,r,.inl ⟨hk,by simp⟩⟩
   ·rw[K5 (Ne.symm hj)]at e2
    obtain⟨u',r',q⟩:=hl j y v' e1 e2 e3
    refine⟨u',r',?_⟩
    rcases q with ⟨k,e⟩ | ⟨k,c,e,z⟩
    ·refine .inl ⟨k,?_⟩
     have:y≠x:=λe=>hj (Ay hN e1 (e▸hi))
     simp[this,e]
    ·exact .inr ⟨k,c,e,z.sameBut hs (Up y c e)⟩
  ·obtain⟨w',z⟩:=I.cell y c e
   exact⟨w',z.sameBut hs (Up y c e)⟩
  ·obtain⟨e,n,ne,nf,d⟩:=I.pin p hp
   exact⟨(hs.2 p.1 ne).trans e,n,ne,nf,d⟩
 ·have hfn:X.fn x=true:=by
   rcases hf with z | z
   ·exact z
   ·rw[z]at hk;cases hk
  obtain⟨c,hc⟩:=I.ok.has x (.inl hk)
  obtain⟨w',z⟩:=I.cell x c hc
  refine wpAny_storeName_cell I.ok.kind hk hc z (λh' hc' hs=>?_)
  obtain⟨oc,hoc,WW⟩:=id z
  refine h {s with heap:=h'} ⟨I.ok,I.os,I.bare,⟨λb o e n hb hx=>?_,λb o e n hb hx=>?_,I.base.free,λb o e hx=>?_,I.base.tups,I.base.wD,I.base.yM⟩,⟨m,hn.sameBut hs (Ne.symm (Up x c hc)),λj y v' e1 e2 e3=>?_⟩,λy c' e=>?_,I.free,I.iD,λp hp=>?_,tracked ⟨oc,hoc,I.iD x c hc⟩ hs,by simpa using I.len⟩ ⟨c,hs,.inr hc⟩
  ·exact(hs.2 b (C6 (B0 (Heap.lt_size e) (I.ok.cab x c hfn hc)))).trans (I.base.keep b o e n hb hx)
  ·obtain⟨sl,e1⟩:=I.base.slot b o e n hb hx
   exact⟨sl,(hs.2 b (C6 (B0 (Heap.lt_size e) (I.ok.cab x c hfn hc)))).trans e1⟩
  ·obtain⟨o',e1⟩:=I.base.there b o e hx
   exact⟨o',(hs.2 b (C6 (B0 (Heap.lt_size e) (I.ok.cab x c hfn hc)))).trans e1⟩
  ·by_cases hj:j=i
   ·subst hj
    rw[hi]at e1;cases e1
    rw[L7 bj]at e2
    cases e2
    exact⟨u,r,.inr ⟨.inl hk,c,hc,hc'⟩⟩
   ·rw[K5 (Ne.symm hj)]at e2
    obtain⟨u',r',q⟩:=hl j y v' e1 e2 e3
    refine⟨u',r',?_⟩
    rcases q with q | ⟨k,c',e,z'⟩
    ·exact .inl q
    ·refine .inr ⟨k,c',e,z'.sameBut hs ?_⟩
     rintro rfl
     exact hj (Ay hN e1 (I.ok.inj _ _ _ e hc▸hi))
  ·by_cases hcc:c'=c
   ·subst hcc;exact⟨_,hc'⟩
   ·obtain⟨w2,z2⟩:=I.cell y c' e
    exact⟨w2,z2.sameBut hs hcc⟩
  ·obtain⟨e,n,ne,nf,d⟩:=I.pin p hp
   refine⟨(hs.2 p.1 ?_).trans e,n,ne,nf,d⟩
   intro q
   rw[q,hoc]at e
   have q':oc=p.2:=E4 e
   exact d w' (by rw[←q'];exact WW)
theorem Az{M:Model}{A:Around}{E:Value→Shared→Prop}{i:Nat}{x:Str}{v:V}{u:Value}{Q:Unit→Shared→Prop}(I:Inv X pins σ H s)(hN:X.N.Nodup)(hi:X.N[i]?=some x)(hx:Loc X.env.scope x)(r:RelV v u)
  (h:∀s',Inv X pins (σ.set i (some v)) H s'→Q () s') (hf:X.fn x=true∨X.env.scope.names.lookup x=some .local:=by first | exact .inl rfl | exact .inr rfl | assumption):wpAny M A (storeName X.env x u) Q E s:=
 wO I hN hi hx r (λs' I' _=>h s' I') hf
theorem Inv.call'{s':Shared}{ch:List Addr}(I:Inv X pins σ H s)(ho:s'.os=s.os)(u:Un (frs X.stack) ch H H' s.heap s'.heap)(hok:nG X.prog X.w H' s'.heap)(hg:AllBare s'.gens)
  (hch:∀b∈ch,(b∈X.ex∨X.s₀.heap.objs.size≤b)∧b≠X.env.locals∧(∀x c,X.env.cells.lookup x=some c→c≠b)∧∀p∈X.pn++pins,p.1≠b):Inv X pins σ H' s':=by
 obtain⟨h',g',d',t',o'⟩:=s'
 have e:o'=s.os:=ho
 subst e
 exact I.call (g':=g') (t':=t') (d':=d') u hok hg hch
end
abbrev XK:=Value→Option Addr→Hp→Prop
abbrev St:=List (Option V)
abbrev VK:=V→Hp→Prop
abbrev TE:=St→Hp→VK→Prop
abbrev TT:=St→Hp→(Bool→Hp→Prop)→Prop
abbrev TA:=St→Hp→(List V→Hp→Prop)→Prop
structure Ends where
 nx:St→Hp→Prop
 rt:VK
 bk:St→Hp→Prop:=λ_ _=>False
 ct:St→Hp→Prop:=λ_ _=>False
abbrev TS:=Ends→St→Hp→Prop
def EP(X:Cx)(pins:List (Addr×Obj))(σ:St)(Q:VK)(u:Value)(s':Shared):Prop:=∃v H',Inv X pins σ H' s'∧RelV v u∧Q v H'
def TP(X:Cx)(pins:List (Addr×Obj))(σ:St)(Q:Bool→Hp→Prop)(b:Bool)(s':Shared):Prop:=∃H',Inv X pins σ H' s'∧Q b H'
def AP(X:Cx)(pins:List (Addr×Obj))(σ:St)(Q:List V→Hp→Prop)(us:List Value)(s':Shared):Prop:=∃vs H',Inv X pins σ H' s'∧Vals vs us∧Q vs H'
def SP(X:Cx)(pins:List (Addr×Obj))(D:Ends)(f:Flow)(s':Shared):Prop:=
 match f with
 | .next=>∃σ' H',Inv X pins σ' H' s'∧D.nx σ' H'
 | .brk=>∃σ' H',Inv X pins σ' H' s'∧D.bk σ' H'
 | .cont=>∃σ' H',Inv X pins σ' H' s'∧D.ct σ' H'
 | .ret u=>∃v σ' H',Inv X pins σ' H' s'∧RelV v u∧D.rt v H'
def PE(X:Cx)(e:Expr)(t:TE):Prop:=
 ∀(pins:List (Addr×Obj))(s:Shared)(σ:St)(H:Hp)(Q:VK),Inv X pins σ H s→t σ H Q→wpAny (model X.prog X.w) X.A (eval e X.env) (EP X pins σ Q) X.xe s
def PT(X:Cx)(e:Expr)(t:TT):Prop:=
 ∀(pins:List (Addr×Obj))(s:Shared)(σ:St)(H:Hp)(Q:Bool→Hp→Prop),Inv X pins σ H s→t σ H Q→wpAny (model X.prog X.w) X.A (isTrue e X.env (eval e X.env)) (TP X pins σ Q) X.xe s
def PW(X:Cx)(e:Expr)(t:TT):Prop:=
 ∀(whole:Sem Value)(pins:List (Addr×Obj))(s:Shared)(σ:St)(H:Hp)(Q:Bool→Hp→Prop),Inv X pins σ H s→t σ H Q→wpAny (model X.prog X.w) X.A (isTrue e X.env whole) (TP X pins σ Q) X.xe s
theorem PW.pt{X:Cx}{e:Expr}{t:TT}(h:PW X e t):PT X e t:=h _
def PA(X:Cx)(es:List Expr)(t:TA):Prop:=
 ∀(pos:Pos)(pins:List (Addr×Obj))(s:Shared)(σ:St)(H:Hp)(Q:List V→Hp→Prop),Inv X pins σ H s→t σ H Q→wpAny (model X.prog X.w) X.A (spliced (backTo pos (starEach es X.env))) (AP X pins σ Q) X.xe s
def PS(X:Cx)(st:Stmt)(t:TS):Prop:=
 ∀(pins:List (Addr×Obj))(s:Shared)(σ:St)(H:Hp)(D:Ends),Inv X pins σ H s→t D σ H→wpAny (model X.prog X.w) X.A (exec st X.env) (SP X pins D) X.xe s
def Dw(X:Cx)(st:List Stmt)(t:TS):Prop:=
 ∀(pins:List (Addr×Obj))(s:Shared)(σ:St)(H:Hp)(D:Ends),Inv X pins σ H s→t D σ H→wpAny (model X.prog X.w) X.A (execs st X.env) (SP X pins D) X.xe s
theorem cJ{α:Type}{t:Sem α}{Q Q':α→Shared→Prop}{M:Model}{A:Around}{E:Value→Shared→Prop}{s:Shared}(h:wpAny M A t Q E s)(hQ:∀a s,Q a s→Q' a s):wpAny M A t Q' E s:=wpAny_mono h hQ λ_ _ x=>x
end L2
namespace L2
open PySem PySem.Spec PyProof.Rows
section
variable{X:Cx}
def cB(i:Nat):TE:=λσ H Q=>∃v,σ[i]?=some (some v)∧Q v H
def tC(v:V):TE:=λ_ H Q=>Q v H
theorem Zm{i:Nat}{x:Str}{pos:Pos}(hN:X.N[i]?=some x)(hv:MT X.env.scope x)(hd:(x==("__debug__" : Str))=false:=by decide) (hcd:(x==("__classdict__" : Str))=false:=by decide):PE X (.Name x pos) (cB i):=by
  intro pins s σ H Q I h
  obtain⟨v,e,h⟩:=h
  obtain⟨m,hn,hl⟩:=I.loc
  obtain⟨u,r,l⟩:=hl i x v hN e hv
  have fin:EP X pins σ Q u s:=⟨v,H,I,r,h⟩
  rcases l with ⟨hk,hm⟩ | ⟨hk,c,hc,hcell⟩
  · exact wpAny_Name (wpAny_loadName_local I.ok.kind hk hn hm fin) hd
  · rcases hk with hk | hk
    · exact wpAny_Name (wpAny_loadName_cell I.ok.kind hk hc hcell fin) hd
    · exact wpAny_Name (wpAny_loadName_free I.ok.kind hk hc hcell fin hcd) hd
theorem Nv{i j pos}:PE X (.Constant (.int i) j pos) (tC (.int i)):=λ_ _ _ H _ I h=>wpAny_Constant_int ⟨.int i,H,I.tok _,⟨_,rfl⟩,h⟩
theorem NK{b j pos}:PE X (.Constant (.bool b) j pos) (tC (.bl b)):=λ_ _ _ H _ I h=>Constant_bool ⟨.bl b,H,I,rfl,h⟩
def Gl(X:Cx)(x:Str):Prop:=X.env.kindOf x=some .globalImplicit
theorem Hh{E:Value→Shared→Prop}{pins:List (Addr×Obj)}{s:Shared}{σ:St}{H:Hp}{x:Str}{u:Value}{pos:Pos}{Q:Value→Shared→Prop}(I:Inv X pins σ H s)(hg:Gl X x)(hm:X.mg x=some u)(h:Q u s)
  (hd:(x==("__debug__" : Str))=false:=by decide):wpAny (model X.prog X.w) X.A (eval (.Name x pos) X.env) Q E s:=
 Calls.Name_function_global I.ok.kind hg (Calls.loadGlobal_global (by rw[I.ok.glob];exact I.mod.glob.keeps I.bk) hm h) hd
theorem kZ{E:Value→Shared→Prop}{pins:List (Addr×Obj)}{s:Shared}{σ:St}{H:Hp}{x:Str}{u:Value}{pos:Pos}{Q:Value→Shared→Prop}(I:Inv X pins σ H s)(hg:Gl X x)(hm:X.mg x=none)(hv:bootBuiltins x=some u)(h:Q u s)
  (hn:x ≠ "__name__" := by decide) (hd:(x==("__debug__" : Str))=false:=by decide):wpAny (model X.prog X.w) X.A (eval (.Name x pos) X.env) Q E s:=by
 obtain⟨mb,h1,h2⟩:=I.mod.blt
 exact Calls.Name_function_global I.ok.kind hg (Calls.loadGlobal_builtin (by rw[I.ok.glob];exact I.mod.glob.keeps I.bk) hm (by rw[I.ok.blt];exact h1.keeps I.bk) ((h2 x hn).trans hv) h) hd
theorem Vc{x:Str}{v:V}{u:Value}{pos:Pos}(hg:Gl X x)(hm:X.mg x=some u)(r:RelV v u)(hd:(x==("__debug__" : Str))=false:=by decide):PE X (.Name x pos) (tC v):=
 λ_ _ _ H _ I h=>Hh I hg hm ⟨v,H,I,r,h⟩ hd
theorem jO{x:Str}{v:V}{u:Value}{pos:Pos}(hg:Gl X x)(hm:X.mg x=none)(hv:bootBuiltins x=some u)(r:RelV v u)(hn:x ≠ "__name__" := by decide) (hd:(x==("__debug__" : Str))=false:=by decide):PE X (.Name x pos) (tC v):=
 λ_ _ _ H _ I h=>kZ I hg hm hv ⟨v,H,I,r,h⟩ hn hd
variable{a b:Expr}{ta tb:TE}{pos:Pos}
def tB(t:TE):TT:=λσ H Q=>t σ H λx H1=>∃c,x=.bl c∧Q c H1
theorem Zo{e:Expr}{t:TE}(h:PE X e t)(he:∀whole,isTrue e X.env whole=(do let v ←whole;standAt e.pos;holding [v] (truthy v)):=by intro _;rfl):PT X e (tB t):=by
 intro pins s σ H Q I hw
 refine isTrue_plain (cJ (h pins s σ H _ I hw) λv s1 ⟨x,H1,I1,r1,q1⟩=>?_) (he _)
 obtain⟨d,rfl,q⟩:=q1
 cases r1
 exact wpAny_truthy_bool ⟨H1,I1,q⟩
variable{tA UJ:TT}{rest:List Expr}
def Zq(t u:TT):TT:=λσ H Q=>t σ H λc H1=>if c=true then u σ H1 Q else Q false H1
def WX(t u:TT):TT:=λσ H Q=>t σ H λc H1=>if c=true then Q true H1 else u σ H1 Q
def Zr(t:TT):TT:=λσ H Q=>t σ H λc H1=>Q (!c) H1
theorem Vd(ha:PT X a tA):PW X (.BoolOp .And [a] pos) tA:=by
 intro wh pins s σ H Q I h
 refine isTrue_and (cJ (ha pins s σ H Q I h) λc s1 e=>?_)
 cases c with
 | true=>exact isTrue_and_nil e
 | false=>exact e
theorem Zt(ha:PT X a tA):PW X (.BoolOp .Or [a] pos) tA:=by
 intro wh pins s σ H Q I h
 refine isTrue_or (cJ (ha pins s σ H Q I h) λc s1 e=>?_)
 cases c with
 | false=>exact isTrue_or_nil e
 | true=>exact e
theorem Zu(ha:PT X a tA)(hb:PW X (.BoolOp .And (b::rest) pos) UJ):PW X (.BoolOp .And (a::b::rest) pos) (Zq tA UJ):=by
 intro wh pins s σ H Q I h
 refine isTrue_and (cJ (ha pins s σ H _ I h) λc s1 ⟨H1,I1,q1⟩=>?_)
 cases c with
 | true=>exact hb wh pins s1 σ H1 Q I1 q1
 | false=>exact⟨H1,I1,q1⟩
theorem NP(ha:PT X a tA)(hb:PW X (.BoolOp .Or (b::rest) pos) UJ):PW X (.BoolOp .Or (a::b::rest) pos) (WX tA UJ):=by
 intro wh pins s σ H Q I h
 refine isTrue_or (cJ (ha pins s σ H _ I h) λc s1 ⟨H1,I1,q1⟩=>?_)
 cases c with
 | true=>exact⟨H1,I1,q1⟩
 | false=>exact hb wh pins s1 σ H1 Q I1 q1
theorem Zv(ha:PT X a tA):PT X (.UnaryOp .Not a pos) (Zr tA):=by
 intro pins s σ H Q I h
 exact isTrue_not (ha pins s σ H (λc H1=>Q (!c) H1) I h)
def Ye(ta tb:TE):TE:=λσ H Q=>ta σ H λx H1=>∃c,x=.bl c∧if c=true then tb σ H1 Q else Q (.bl false) H1
def Yg(ta:TE):TE:=λσ H Q=>ta σ H λx H1=>∃c,x=.bl c∧Q (.bl (!c)) H1
theorem Zw{op}{t:TE}(h:PE X a t):PE X (.BoolOp op [a] pos) t:=λpins s σ H Q I hw=>BoolOp_one (h pins s σ H Q I hw)
theorem Zx(ha:PE X a ta)(hb:PE X (.BoolOp .And (b::rest) pos) tb):PE X (.BoolOp .And (a::b::rest) pos) (Ye ta tb):=by
 intro pins s σ H Q I h
 refine BoolOp_and (cJ (ha pins s σ H _ I h) λv s1 ⟨x,H1,I1,r1,q1⟩=>?_)
 obtain⟨c,rfl,q1⟩:=q1
 cases r1
 refine wpAny_truthy_bool ?_
 cases c with
 | true=>exact hb pins s1 σ H1 Q I1 q1
 | false=>exact⟨.bl false,H1,I1,rfl,q1⟩
theorem Zy(ha:PE X a ta):PE X (.UnaryOp .Not a pos) (Yg ta):=by
 intro pins s σ H Q I h
 refine UnaryOp_ (cJ (ha pins s σ H _ I h) λv s1 ⟨x,H1,I1,r1,q1⟩=>?_)
 obtain⟨c,rfl,q1⟩:=q1
 cases r1
 exact not_of (wpAny_truthy_bool ⟨.bl (!c),H1,I1,rfl,q1⟩)
end
end L2
namespace L2
open PySem PySem.Spec PyProof.Rows
def iM(K:aA)(H:Hp)(a:Addr)(xs:List V):Prop:=
 Rd H a (.lst xs) ∨
  ∃(o:Obj)(its:Array Value)(n:Nat),K.lookup a=some o∧o.cls=.type "list" ∧ o.dict=none∧o.data=.seq its n∧its.size≤sizeLine∧Vals xs its.toList
def jP(K:aA)(H:Hp)(a:Addr)(xs:List V):Prop:=
 Rd H a (.tup xs) ∨
  ∃(o:Obj)(its:Array Value)(n:Nat),K.lookup a=some o∧o.cls=.type "tuple" ∧ o.data=.seq its n∧its.size≤sizeLine∧Vals xs its.toList
def WY:Value→Option V
 | .none=>some .non
 | .bool b=>some (.bl b)
 | .int i _=>some (.int i)
 | .str x _=>some (.str x)
 | .bytes b _=>some (.byt b)
 | .float b _=>some (.flt b)
 | .ref a=>some (.ref a)
 | .type n=>some (.ty n)
 | _=>none
theorem RelV.abs{x:V}{u:Value}(r:RelV x u):WY u=some x:=by
 cases x with
 | non=>cases r;rfl
 | bl _=>cases r;rfl
 | int _=>obtain⟨t,rfl⟩:=r;rfl
 | str _=>obtain⟨t,rfl⟩:=r;rfl
 | byt _=>obtain⟨t,rfl⟩:=r;rfl
 | flt _=>obtain⟨t,rfl⟩:=r;rfl
 | ref _=>cases r;rfl
 | ty _=>cases r;rfl
theorem RelV.inj{x y:V}{u:Value}(r:RelV x u)(q:RelV y u):x=y:=E4 (r.abs.symm.trans q.abs)
theorem Vals.inj:∀{xs ys:List V} {us:List Value},Vals xs us→Vals ys us→xs=ys
 | _,_,_,.nil,.nil=>rfl
 | _,_,_,.cons r t,.cons r' t'=>by rw[r.inj r',Vals.inj t t']
section
variable{X:Cx}{pins:List (Addr×Obj)}{σ:St}{H:Hp}{s:Shared}{a:Addr}{xs ys:List V}
theorem iM.of{K:aA}(h:H a=some (.lst xs)):iM K H a xs:=.inl (.inl h)
theorem jP.of{K:aA}(h:H a=some (.tup xs)):jP K H a xs:=.inl (.inl h)
theorem Inv.list(I:Inv X pins σ H s)(h:iM X.K H a xs):∃its:List Value,Vals xs its∧PlainL s.heap a its.toArray∧xs.length≤sizeLine:=by
 rcases h with h | ⟨o,its,n,hk,hc,hd,hs,hz,r⟩
 ·obtain⟨z,its,n,r,e⟩:=h.ok I.hok
  exact⟨its,r,⟨_,n,e,rfl,rfl,rfl⟩,z⟩
 ·refine⟨its.toList,r,⟨o,n,I.yO a o hk,hc,hd,by simpa using hs⟩,?_⟩
  have e:=r.length
  simp only[F2]at e
  omega
theorem Inv.tuple(I:Inv X pins σ H s)(h:jP X.K H a xs):∃its:List Value,Vals xs its∧IsTup s.heap a its.toArray∧xs.length≤sizeLine:=by
 rcases h with h | ⟨o,its,n,hk,hc,hs,hz,r⟩
 ·obtain⟨z,its,r,p⟩:=h.ok I.hok
  exact⟨its,r,p,z⟩
 ·refine⟨its.toList,r,⟨o,I.yO a o hk,hc,n,by simpa using hs⟩,?_⟩
  have e:=r.length
  simp only[F2]at e
  omega
theorem Inv.Ba(I:Inv X pins σ H s)(h:iM X.K H a xs)(h':iM X.K H a ys):xs=ys:=by
 obtain⟨its,r,⟨o,n,e,_,_,d⟩,_⟩:=I.list h
 obtain⟨its',r',⟨o',n',e',_,_,d'⟩,_⟩:=I.list h'
 rw[e]at e';cases e'
 rw[d]at d'
 injection d' with d1 _
 have:its=its':=by simpa using congrArg X1 d1
 subst this
 exact r.inj r'
theorem Inv.wQ(I:Inv X pins σ H s)(h:jP X.K H a xs)(h':jP X.K H a ys):xs=ys:=by
 obtain⟨its,r,⟨o,e,_,n,d⟩,_⟩:=I.tuple h
 obtain⟨its',r',⟨o',e',_,n',d'⟩,_⟩:=I.tuple h'
 rw[e]at e';cases e'
 rw[d]at d'
 injection d' with d1 _
 have:its=its':=by simpa using congrArg X1 d1
 subst this
 exact r.inj r'
end
abbrev Cx.wish(X:Cx)(E:Value→Shared→Prop):Cx:={X with xe:=E}
abbrev Cx.Zz(X:Cx):Cx:=X.wish λ_ _=>False
theorem Cx.Ok.wish{X:Cx}(ok:X.Ok)(E:Value→Shared→Prop):(X.wish E).Ok:=
 ⟨ok.mod,ok.kind,ok.glob,ok.blt,ok.above,ok.inj,ok.has,ok.cab,ok.hd,ok.frames,ok.UG,ok.bc,ok.bs,ok.Uo,ok.Kf,ok.Vb,ok.tL,ok.LQ⟩
theorem Cx.Ok.lA{X:Cx}{E:Value→Shared→Prop}(ok:(X.wish E).Ok):X.Ok:=
 ⟨ok.mod,ok.kind,ok.glob,ok.blt,ok.above,ok.inj,ok.has,ok.cab,ok.hd,ok.frames,ok.UG,ok.bc,ok.bs,ok.Uo,ok.Kf,ok.Vb,ok.tL,ok.LQ⟩
section
variable{X:Cx}{pins:List (Addr×Obj)}{σ:St}{H:Hp}{s:Shared}{E:Value→Shared→Prop}
theorem Inv.wish(I:Inv X pins σ H s)(E:Value→Shared→Prop):Inv (X.wish E) pins σ H s:=⟨I.ok.wish E,I.os,I.bare,I.base,I.loc,I.cell,I.free,I.iD,I.pin,I.hok,I.len⟩
theorem Inv.lA(I:Inv (X.wish E) pins σ H s):Inv X pins σ H s:=⟨I.ok.lA,I.os,I.bare,I.base,I.loc,I.cell,I.free,I.iD,I.pin,I.hok,I.len⟩
theorem SP.lA{D:Ends}{f:Flow}{s':Shared}(h:SP (X.wish E) pins D f s'):SP X pins D f s':=by
 cases f with
 | next=>obtain⟨σ',H',I,q⟩:=h;exact⟨σ',H',I.lA,q⟩
 | brk=>obtain⟨σ',H',I,q⟩:=h;exact⟨σ',H',I.lA,q⟩
 | cont=>obtain⟨σ',H',I,q⟩:=h;exact⟨σ',H',I.lA,q⟩
 | ret u=>obtain⟨v,σ',H',I,r,q⟩:=h;exact⟨v,σ',H',I.lA,r,q⟩
theorem Dw.Zz{st:List Stmt}{t:TS}(h:Dw X.Zz st t):Dw X st t:=λpins s σ H D I hw=>
 wpAny_mono (h pins s σ H D (I.wish _) hw) (λ_ _ q=>q.lA) λ_ _ z=>False.elim z
end
section
variable{X:Cx}{st:Stmt}{rest:List Stmt}{t u:TS}{e:Expr}{te:TE}{pos:Pos}
def Yh:TS:=λD σ H=>D.nx σ H
def Nx(t u:TS):TS:=λD σ H=>t {D with nx:=u D} σ H
theorem Ve:Dw X [] Yh:=λ_ _ σ H _ I h=>wpAny_execs_nil ⟨σ,H,I,h⟩
theorem Bb(h1:PS X st t)(h2:Dw X rest u):Dw X (st::rest) (Nx t u):=by
 intro pins s σ H D I h
 refine wpAny_execs_cons (cJ (h1 pins s σ H {D with nx:=u D} I h) λf s1 q=>?_)
 cases f with
 | next=>
  obtain⟨σ',H',I',q⟩:=q
  exact h2 pins s1 σ' H' D I' q
 | ret v=>exact q
 | brk=>exact q
 | cont=>exact q
theorem yQ(h1:PS X st t):Dw X [st] t:=by
 intro pins s σ H D I h
 refine wpAny_execs_cons (cJ (h1 pins s σ H D I h) λf s1 q=>?_)
 cases f with
 | next=>exact wpAny_execs_nil q
 | ret v=>exact q
 | brk=>exact q
 | cont=>exact q
theorem Inv.quiet{pins:List (Addr×Obj)}{σ:St}{H:Hp}{s:Shared}(I:Inv X pins σ H s):interactive X.env=false:=by simp[interactive,I.ok.kind]
def tO(te:TE):TS:=λD σ H=>te σ H λ_ H1=>D.nx σ H1
theorem sX(he:PE X e te)(hs:swapsWith e none pos.line X.env=pure false:=by rfl):PS X (.Expr e pos) (tO te):=by
 intro pins s σ H D I h
 exact wpAny_Expr_any (cJ (he pins s σ H _ I h) λv s1 ⟨x,H1,I1,r1,q1⟩=>⟨σ,H1,I1,q1⟩) I.quiet hs
def BJ(te:TE):TS:=λD σ H=>te σ H D.rt
theorem Ny(he:PE X e te):PS X (.Return (some e) pos) (BJ te):=by
 intro pins s σ H D I h
 exact wpAny_Return_some (cJ (he pins s σ H _ I h) λv s1 ⟨x,H1,I1,r1,q1⟩=>⟨x,σ,H1,I1,r1,q1⟩)
def NQ(c:TT)(t u:TS):TS:=λD σ H=>c σ H λb H1=>if b=true then t D σ H1 else u D σ H1
theorem NT{c:Expr}{a b:List Stmt}{tc:TT}(hc:PT X c tc)(ha:Dw X a t)(hb:Dw X b u):PS X (.If c a b pos) (NQ tc t u):=by
 intro pins s σ H D I h
 refine wpAny_If (cJ (hc pins s σ H _ I h) λd s1 ⟨H1,I1,q1⟩=>?_)
 cases d with
 | true=>exact ha pins s1 σ H1 D I1 q1
 | false=>exact hb pins s1 σ H1 D I1 q1
end
abbrev TG:=V→St→Hp→(St→Hp→Prop)→Prop
def PG(X:Cx)(target:Expr)(t:TG):Prop:=
 ∀(pins:List (Addr×Obj))(s:Shared)(σ:St)(H:Hp)(v:V)(u:Value)(Q:St→Hp→Prop),Inv X pins σ H s→RelV v u→t v σ H Q →
  wpAny (model X.prog X.w) X.A (assign target X.env u) (λ_ s'=>∃σ' H',Inv X pins σ' H' s'∧Q σ' H') X.xe s
abbrev BK:=V→V→V→Hp→(Hp→Prop)→Prop
def NZ(X:Cx)(t:BK):Prop:=
 ∀(pins:List (Addr×Obj))(s:Shared)(σ:St)(H:Hp)(o i v:V)(ov iv u:Value)(Q:Hp→Prop),Inv X pins σ H s→RelV o ov→RelV i iv→RelV v u→t o i v H Q →
  wpAny (model X.prog X.w) X.A (setItem ov iv u) (λ_ s'=>∃H',Inv X pins σ H' s'∧Q H') X.xe s
section
variable{X:Cx}{pos:Pos}
def bU(i:Nat):TG:=λv σ H Q=>Q (σ.set i (some v)) H
theorem dJ{i:Nat}{x:Str}(hN:X.N.Nodup)(hi:X.N[i]?=some x)(hx:Loc X.env.scope x)(hf:X.fn x=true∨X.env.scope.names.lookup x=some .local:=by first | exact .inl rfl | exact .inr rfl | assumption):PG X (.Name x pos) (bU i):=by
 intro pins s σ H v u Q I r h
 exact wpAny_assign_Name (Az I hN hi hx r (λs' I'=>⟨_,H,I',h⟩) hf)
def Ea(to ti:TE)(t:BK):TG:=λv σ H Q=>to σ H λo H1=>ti σ H1 λi H2=>t o i v H2 λH3=>Q σ H3
theorem Nz{o i:Expr}{to ti:TE}{t:BK}(ho:PE X o to)(hi:PE X i ti)(hs:NZ X t)
  (ha:∀v,assign (.Subscript o i pos) X.env v=(do
   let ov ←holding [v] (eval o X.env)
   let iv ←holding [v,ov] (eval i X.env)
   standAt pos
   holding [v,ov,iv] (setItem ov iv v)
   release [v,ov,iv] []):=by intro _;rfl):PG X (.Subscript o i pos) (Ea to ti t):=by
 intro pins s σ H v u Q I r h
 rw[ha]
 refine wpAny_bind (wpAny_holding (cJ (ho pins s σ H _ I h) λov s1 ⟨x,H1,I1,r1,q1⟩=>?_))
 refine wpAny_bind (wpAny_holding (cJ (hi pins s1 σ H1 _ I1 q1) λiv s2 ⟨y,H2,I2,r2,q2⟩=>?_))
 refine wpAny_bind (wpAny_standAt (wpAny_bind (wpAny_holding (cJ (hs pins s2 σ H2 x y v ov iv u _ I2 r1 r2 r q2) λ_ s3 ⟨H3,I3,q3⟩=>?_))))
 exact wpAny_release ⟨σ,H3,I3,q3⟩
def nH(te:TE)(g:TG):TS:=λD σ H=>te σ H λx H1=>g x σ H1 D.nx
theorem Oa{tg e:Expr}{te:TE}{g:TG}(he:PE X e te)(hg:PG X tg g)(hs:swapsWithSole [tg] e pos.line X.env=pure false:=by rfl)(hw:swappedStores [tg] e X.env=pure none:=by rfl)
  (h1:(assignEach [tg] X.env).map (·.2)=[assign tg X.env]:=by rfl):PS X (.Assign [tg] e pos) (nH te g):=by
 intro pins s σ H D I h
 refine wpAny_Assign_stores (cJ (he pins s σ H _ I h) λv s1 ⟨x,H1,I1,r1,q1⟩=>?_) hs hw
 rw[h1]
 exact cJ (hg pins s1 σ H1 x v _ I1 r1 q1) λ_ s2 q=>q
theorem bI{i:Nat}{x:Str}{e:Expr}{te:TE}{pos':Pos}(hN:X.N.Nodup)(hi:X.N[i]?=some x)(hx:Loc X.env.scope x)(he:PE X e te)(hs:swapsWith e (some (.Name x pos')) pos.line X.env=pure false:=by rfl)(hf:X.fn x=true∨X.env.scope.names.lookup x=some .local:=by first | exact .inl rfl | exact .inr rfl | assumption) :
  PS X (.Assign [.Name x pos'] e pos) (nH te (bU i)):=by
 intro pins s σ H D I h
 refine wpAny_Assign_Name (cJ (he pins s σ H _ I h) λv s1 ⟨y,H1,I1,r1,q1⟩=>?_) hs
 exact Az I1 hN hi hx r1 (λs2 I2=>⟨_,H1,I2,q1⟩) hf
end
section
variable{X:Cx}{pos:Pos}
end
structure It where
 go:Nat→Hp→Prop
 OD:Nat→Hp→V→Hp→Prop
 stop:Nat→Hp→Prop
def sH(X:Cx)(pins:List (Addr×Obj))(H:Hp)(b:Addr):Prop:=
 H b=none∧b≠X.env.locals∧b∉X.fs∧(b∈X.ex∨X.s₀.heap.objs.size≤b)∧(∀x c,X.env.cells.lookup x=some c→c≠b)∧∀p∈X.pn++pins,p.1≠b
theorem Inv.Vf{X:Cx}{pins:List (Addr×Obj)}{σ:St}{H H':Hp}{s:Shared}{b:Addr}(I:Inv X pins σ H s)(hb:s.heap.objs.size≤b)(hn:H' b=none):sH X pins H' b:=by
 refine⟨hn,F6 (B0 I.lt hb),I.WT hb,.inr (C7 I.sz hb),λx c e z=>?_,λp hp z=>?_⟩
 ·obtain⟨v,q⟩:=I.cell x c e
  exact absurd (B0 q.lt (by rw[z];exact hb)) (E2 _)
 ·exact absurd (B0 (Heap.lt_size (I.pin p hp).1) (by rw[z];exact hb)) (E2 _)
structure Turn(P:Program)(w:World)(K:aA)(tg:Expr)(J:It)(fp:List Addr)(it:Addr)(tn:Nat→Heap→Prop):Prop where
 mem:it∈fp
 obj:∀i h,tn i h→∀b∈fp,∃o,h.get? b=some o∧∀v,o.data≠.cell v
 keep:∀i h h',tn i h→(∀b∈fp,∀o,h.get? b=some o→h'.get? b=some o)→tn i h'
 item:∀(X:Cx),X.prog=P→X.w=w→X.K=K→X.calm=true→∀(i:Nat)(pins:List (Addr×Obj))(s:Shared)(σ:St)(H:Hp)(E:Value→Shared→Prop),Inv X pins σ H s→(∀b∈fp,sH X pins H b)→tn i s.heap→J.go i H →
  wpAny (model P w) X.A (pyNext (.ref it)) (λr s1=>∃u,r=some u ∧
   wpAny (model P w) X.A (letOwnedTupleGo tg (.ref it) u) (λ_ s2=>∃x H',Inv X pins σ H' s2∧RelV x u∧J.OD i H x H'∧tn (i+1) s2.heap∧∀b∈fp,H' b=none) E s1) E s
 done:∀(X:Cx),X.prog=P→X.w=w→X.K=K→X.calm=true→∀(i:Nat)(pins:List (Addr×Obj))(s:Shared)(σ:St)(H:Hp)(E:Value→Shared→Prop),Inv X pins σ H s→(∀b∈fp,sH X pins H b)→tn i s.heap→J.stop i H →
  wpAny (model P w) X.A (pyNext (.ref it)) (λr s1=>r=none∧Inv X pins σ H s1) E s
 self:∀(A:Around)(i:Nat)(s:Shared)(Q:Value→Shared→Prop)(E:Value→Shared→Prop),tn i s.heap→Q (.ref it) s→wpAny (model P w) A (pyIter (.ref it)) Q E s
abbrev TI:=St→Hp→(It→Hp→Prop)→Prop
def PIE(X:Cx)(pins:List (Addr×Obj))(σ:St)(tg:Expr)(R:It→Hp→Prop)(itv:Value)(s2:Shared):Prop:=
 ∃(it:Addr)(fp:List Addr)(tn:Nat→Heap→Prop)(J:It)(H':Hp),itv=.ref it∧Inv X pins σ H' s2∧Turn X.prog X.w X.K tg J fp it tn∧tn 0 s2.heap∧(∀b∈fp,sH X pins H' b)∧R J H'
def PI(X:Cx)(tg iter:Expr)(wi:TI):Prop:=
 ∀(pins:List (Addr×Obj))(s:Shared)(σ:St)(H:Hp)(R:It→Hp→Prop),Inv X pins σ H s→wi σ H R →
  wpAny (model X.prog X.w) X.A (eval iter X.env) (λv s1=>wpAny (model X.prog X.w) X.A (pyIter v) (PIE X pins σ tg R) X.xe s1) X.xe s
theorem Hi{M:Model}{A:Around}{E:Value→Shared→Prop}{s:Shared}{tg:Expr}{it:Addr}{u:Value}{o:Obj}{n:String}{vs:Array Value}{Q:Unit→Shared→Prop}(ho:s.heap.get? it=some o)(hc:o.cls=.type n)(hd:o.data=.fields vs)
    (hn:["enumerate", "zip", "dict_itemiterator", "dict_reverseitemiterator", "odict_iterator", "itertools.zip_longest", "itertools.pairwise"].contains n=false) (hQ:Q () s):wpAny M A (letOwnedTupleGo tg (.ref it) u) Q E s:=by
  unfold letOwnedTupleGo
  cases tg<;>first
    | exact wpAny_pure hQ
    | (cases u<;>first
        | exact wpAny_pure hQ
        | (refine wpAny_bind (wpAny_load ho ?_)
           rw[hc,hd]
           show wpAny M A (if(["enumerate", "zip", "dict_itemiterator", "dict_reverseitemiterator", "odict_iterator", "itertools.zip_longest", "itertools.pairwise"].contains n&&vs[0]?==some (rawInt _))=true then _ else _) Q E s
           rw[if_neg (by intro h;rw[hn,Bool.false_and]at h;cases h)]
           exact wpAny_pure hQ))
def XC(K:aA)(a:Addr):It:=
 ⟨λi H=>∃xs x,iM K H a xs∧xs[i]?=some x,λi H x H'=>H'=H∧∀xs,iM K H a xs→xs[i]?=some x,λi H=>∃xs,iM K H a xs∧xs.length≤i⟩
def XD(K:aA)(a:Addr):It:=
 ⟨λi H=>∃xs x,jP K H a xs∧xs[i]?=some x,λi H x H'=>H'=H∧∀xs,jP K H a xs→xs[i]?=some x,λi H=>∃xs,jP K H a xs∧xs.length≤i⟩
def UL(lo:Int)(n:Nat):It:=⟨λi _=>i<n,λi H x H'=>H'=H∧x=.int (lo+i),λi _=>n≤i⟩
theorem Kg{P:Program}{w:World}{K:aA}{tg:Expr}(a it:Addr):Turn P w K tg (XC K a) [it] it (λi h=>h.IsListIter it a i) where
 mem:=by simp
 obj:=λi h st b hb=>by
  have e:b=it:=by simpa using hb
  subst e
  obtain⟨o,e,c,d⟩:=st
  exact⟨o,e,λv z=>by rw[d]at z;cases z⟩
 keep:=λi h h' st k=>st.at λo e=>k it (by simp) o e
 item:=by
  intro X hP hw hK hc i pins s σ H E I hf st hg
  subst hP hw hK
  obtain⟨xs,x,hq,hx⟩:=hg
  obtain⟨its,rv,p,hz⟩:=I.list hq
  obtain⟨u,hu,ru⟩:=rv.get hx
  obtain⟨f0,f1,f2,f3,f4,f5⟩:=hf it (by simp)
  refine wpAny_pyNext_list_item st p.isList (x:=u) (by simpa using hu) λh' st' sb=>?_
  have I1:Inv X pins σ H {s with heap:=h'}:=I.turned (t':=s.toks) (λb o hb e=>(sb.2 b hb).trans e) f0 f1 f3 f4 f5
  obtain⟨o,e,c,d⟩:=id st'
  exact⟨u,rfl,Hi (s:={s with heap:=h'}) e c d (by decide) ⟨x,H,I1,ru,⟨rfl,λys hy=>by rw[I.Ba hy hq];exact hx⟩,st',λb hb=>(hf b hb).1⟩⟩
 done:=by
  intro X hP hw hK hc i pins s σ H E I hf st hg
  subst hP hw hK
  obtain⟨xs,hq,hx⟩:=hg
  obtain⟨its,rv,p,hz⟩:=I.list hq
  obtain⟨f0,f1,f2,f3,f4,f5⟩:=hf it (by simp)
  have hl:=rv.length
  exact wpAny_pyNext_list_end (I.ok.hd hc) st p.isList (by simp;omega) λh' eb=>⟨rfl,I.turned (t':=s.toks) (λb o hb e=>eb b o hb e) f0 f1 f3 f4 f5⟩
 self:=λ_ _ _ _ _ st h=>wpAny_pyIter_listiter st h
theorem Eb{P:Program}{w:World}{K:aA}{tg:Expr}(a it:Addr):Turn P w K tg (XD K a) [it] it (λi h=>h.IsTupleIter it a i) where
 mem:=by simp
 obj:=λi h st b hb=>by
  have e:b=it:=by simpa using hb
  subst e
  obtain⟨o,e,c,d⟩:=st
  exact⟨o,e,λv z=>by rw[d]at z;cases z⟩
 keep:=λi h h' st k=>st.at λo e=>k it (by simp) o e
 item:=by
  intro X hP hw hK hc i pins s σ H E I hf st hg
  subst hP hw hK
  obtain⟨xs,x,hq,hx⟩:=hg
  obtain⟨its,rv,p,hz⟩:=I.tuple hq
  obtain⟨u,hu,ru⟩:=rv.get hx
  obtain⟨f0,f1,f2,f3,f4,f5⟩:=hf it (by simp)
  refine wpAny_pyNext_tuple_item st (show s.heap.IsTuple a its.toArray from p) (x:=u) (by simpa using hu) λh' st' sb=>?_
  have I1:Inv X pins σ H {s with heap:=h'}:=I.turned (t':=s.toks) (λb o hb e=>(sb.2 b hb).trans e) f0 f1 f3 f4 f5
  obtain⟨o,e,c,d⟩:=id st'
  exact⟨u,rfl,Hi (s:={s with heap:=h'}) e c d (by decide) ⟨x,H,I1,ru,⟨rfl,λys hy=>by rw[I.wQ hy hq];exact hx⟩,st',λb hb=>(hf b hb).1⟩⟩
 done:=by
  intro X hP hw hK hc i pins s σ H E I hf st hg
  subst hP hw hK
  obtain⟨xs,hq,hx⟩:=hg
  obtain⟨its,rv,p,hz⟩:=I.tuple hq
  obtain⟨f0,f1,f2,f3,f4,f5⟩:=hf it (by simp)
  have hl:=rv.length
  exact wpAny_pyNext_tuple_end (I.ok.hd hc) st (show s.heap.IsTuple a its.toArray from p) (by simp;omega) λh' eb=>⟨rfl,I.turned (t':=s.toks) (λb o hb e=>eb b o hb e) f0 f1 f3 f4 f5⟩
 self:=λ_ _ _ _ _ st h=>wpAny_pyIter_tupleiter st h
theorem Ec{P:Program}{w:World}{K:aA}{tg:Expr}(it:Addr)(lo:Int)(n:Nat):Turn P w K tg (UL lo n) [it] it (λi h=>IsRangeIter h it (lo+(i:Nat)*1) ((n:Int)-(i:Nat)) 1) where
 mem:=by simp
 obj:=λi h st b hb=>by
  have e:b=it:=by simpa using hb
  subst e
  exact⟨_,st,λv z=>by
   have z':Data.fields _=Data.cell v:=z
   cases z'⟩
 keep:=λi h h' st k=>k it (by simp) _ st
 item:=by
  intro X hP hw hK hc i pins s σ H E I hf st hg
  subst hP hw hK
  obtain⟨f0,f1,f2,f3,f4,f5⟩:=hf it (by simp)
  have W:=Walks.range (prog:=X.prog) (w:=X.w) (I.ok.hd hc) it lo 1 n
  refine W.item i s _ _ hg st λv h' tk hv st' kk=>?_
  obtain⟨t,rfl⟩:=hv
  have I1:Inv X pins σ H {s with heap:=h',toks:=tk}:=I.turned (λb o hb e=>kk b o (by simpa using hb) e) f0 f1 f3 f4 f5
  refine⟨_,rfl,Hi (s:={s with heap:=h',toks:=tk}) (n := "range_iterator") st' rfl rfl (by decide) ⟨.int (lo+i),H,I1,⟨t,?_⟩,⟨rfl,rfl⟩,st',λb hb=>(hf b hb).1⟩⟩
  rw[Int.mul_one]
 done:=by
  intro X hP hw hK hc i pins s σ H E I hf st hg
  subst hP hw hK
  obtain⟨f0,f1,f2,f3,f4,f5⟩:=hf it (by simp)
  exact wpAny_pyNext_range_end (I.ok.hd hc) st (by have:n≤i:=hg;omega) λh' eb=>⟨rfl,I.turned (t':=s.toks) (λb o hb e=>eb b o hb e) f0 f1 f3 f4 f5⟩
 self:=λ_ _ _ _ _ st h=>wpAny_pyIter_rangeiter st h
end L2
namespace L2
open PySem PySem.Spec PyProof.Rows
section
variable{X:Cx}{tg:Expr}
def Yi(K:aA)(tl:TE):TI:=λσ H R=>tl σ H λx H1=>∃a,x=.ref a∧(∃xs,iM K H1 a xs)∧R (XC K a) H1
def OJ(K:aA)(tl:TE):TI:=λσ H R=>tl σ H λx H1=>∃a,x=.ref a∧(∃xs,jP K H1 a xs)∧R (XD K a) H1
theorem Vg{l:Expr}{tl:TE}(hl:PE X l tl):PI X tg l (Yi X.K tl):=by
 intro pins s σ H R I h
 refine cJ (hl pins s σ H _ I h) λv s1 ⟨x,H1,I1,r1,q1⟩=>?_
 obtain⟨a,e,⟨xs,hq⟩,q⟩:=q1
 subst e
 cases r1
 obtain⟨its,rv,p,hz⟩:=I1.list hq
 refine wpAny_pyIter_list p.isList ?_
 refine⟨s1.heap.objs.size,[s1.heap.objs.size],_,_,H1,rfl,I1.kept (t':=s1.toks) λb o e=>Heap.get?_push_of_some _ e,Kg a _,⟨_,Heap.get?_push_size _ rfl,rfl,rfl⟩,λb hb=>?_,q⟩
 have e:b=s1.heap.objs.size:=by simpa using hb
 subst e
 exact I1.Vf (B6 _) (I1.hok.fresh (B6 _))
theorem BL{l:Expr}{tl:TE}(hl:PE X l tl):PI X tg l (OJ X.K tl):=by
 intro pins s σ H R I h
 refine cJ (hl pins s σ H _ I h) λv s1 ⟨x,H1,I1,r1,q1⟩=>?_
 obtain⟨a,e,⟨xs,hq⟩,q⟩:=q1
 subst e
 cases r1
 obtain⟨its,rv,p,hz⟩:=I1.tuple hq
 refine wpAny_pyIter_tuple (show s1.heap.IsTuple a its.toArray from p) ?_
 refine⟨s1.heap.objs.size,[s1.heap.objs.size],_,_,H1,rfl,I1.kept (t':=s1.toks) λb o e=>Heap.get?_push_of_some _ e,Eb a _,⟨_,Heap.get?_push_size _ rfl,rfl,rfl⟩,λb hb=>?_,q⟩
 have e:b=s1.heap.objs.size:=by simpa using hb
 subst e
 exact I1.Vf (B6 _) (I1.hok.fresh (B6 _))
theorem Ob{pins:List (Addr×Obj)}{σ:St}{H:Hp}{s:Shared}{R:It→Hp→Prop}{E:Value→Shared→Prop}{lo hi:Int}{t u v:Tok}{tk:Nat}(I:Inv X pins σ H s)(h1:-(2 ^ 62)≤lo)(h2:lo<2 ^ 62)(h3:-(2 ^ 62)≤hi)(h4:hi<2 ^ 62)
  (q:R (UL lo (hi-lo).toNat) H):wpAny (model X.prog X.w) X.A (pyIter (.ref s.heap.objs.size)) (PIE X pins σ tg R) E {s with heap:=s.heap.push {cls:=.type "range", data:=.fields #[.int lo t,.int hi u,.int 1 v]},toks:=tk}:=by
 refine wpAny_pyIter_range (IsRange.new ..) (small_one h1 h2 h3 h4) ?_
 have I1:Inv X pins σ H {s with heap:=s.heap.push {cls:=.type "range", data:=.fields #[.int lo t,.int hi u,.int 1 v]},toks:=tk}:=I.kept λb o e=>Heap.get?_push_of_some _ e
 refine⟨(s.heap.push {cls:=.type "range", data:=.fields #[.int lo t,.int hi u,.int 1 v]}).objs.size,[(s.heap.push {cls:=.type "range", data:=.fields #[.int lo t,.int hi u,.int 1 v]}).objs.size],_,_,H,rfl,
  I1.kept (t':=tk) λb o e=>Heap.get?_push_of_some _ e,Ec _ lo (hi-lo).toNat,?_,λb hb=>?_,q⟩
 ·have e1:lo+((0:Nat):Int)*1=lo:=by simp
  have e2:(((hi-lo).toNat:Nat):Int)-((0:Nat):Int)=Builtin.Range.rangeSize lo hi 1:=by rw[rangeSize_one];split<;>omega
  show IsRangeIter _ _ (lo+((0:Nat):Int)*1) ((((hi-lo).toNat:Nat):Int)-((0:Nat):Int)) 1
  rw[e1,e2]
  exact Heap.get?_push_size _ rfl
 ·have e:b=(s.heap.push {cls:=.type "range", data:=.fields #[.int lo t,.int hi u,.int 1 v]}).objs.size:=by simpa using hb
  subst e
  exact I1.Vf (B6 _) (I1.hok.fresh (B6 _))
def Oc(ta:TA):TI:=λσ H R=>ta σ H λvs H1=>∃j:Int,vs=[.int j]∧-(2 ^ 62)≤j∧j<2 ^ 62∧R (UL 0 j.toNat) H1
theorem wR{a:Expr}{ta:TA}{p pos:Pos}(hg:Gl X "range") (hm:X.mg "range" = none) (ha:PA X [a] ta) (hs:starEach [a] X.env=[(false,eval a X.env)]:=by rfl):PI X tg (.Call (.Name "range" p) [a] [] pos) (Oc ta):=by
 intro pins s σ H R I h
 refine Call_ (kZ I hg hm boot_range (I0 (cJ (ha pos pins s σ H _ I h) λus s1 ⟨vs,H1,I1,r1,q1⟩=>?_) hs rfl))
 obtain⟨j,e,q1,q2,q⟩:=q1
 subst e
 cases r1 with
 | cons r rr=>
  cases rr
  obtain⟨t,rfl⟩:=r
  exact call_range_1 (Ob I1 (by omega) (by omega) q1 q2 (by simpa using q))
def Ed(wi:TI)(g:TG)(tb:TS):TS:=λD σ H=>wi σ H λJ H1=>∃W:Nat→Nat→St→Hp→Prop,(∃m,W 0 m σ H1)∧∀i m σ H,W i m σ H →
 (J.stop i H∧D.nx σ H)∨(J.go i H∧∃N:St→Hp→Prop,(∀σ' H',N σ' H'→∃m',m'<m∧W (i+1) m' σ' H')∧∀x H',J.OD i H x H'→g x σ H' λσ2 H2=>tb {D with nx:=N,ct:=N,bk:=D.nx} σ2 H2)
def qN(fp:List Addr)(h:Heap):List (Addr×Obj):=fp.filterMap λb=>(h.get? b).map λo=>(b,o)
theorem eG{fp:List Addr}{h:Heap}{b:Addr}{o:Obj}(hb:b∈fp)(e:h.get? b=some o):(b,o)∈qN fp h:=T3.mpr ⟨b,hb,by rw[e];rfl⟩
theorem Kh{fp:List Addr}{h:Heap}{p:Addr×Obj}(hp:p∈qN fp h):p.1∈fp∧h.get? p.1=some p.2:=by
 obtain⟨b,hb,e⟩:=T3.mp hp
 cases q:h.get? b with
 | none=>rw[q]at e;cases e
 | some o=>
  rw[q]at e
  have e':(b,o)=p:=E4 e
  subst e'
  exact⟨hb,q⟩
theorem Inv.pinned{pins:List (Addr×Obj)}{σ:St}{H:Hp}{s:Shared}{fp:List Addr}(I:Inv X pins σ H s)(hf:∀b∈fp,sH X pins H b)(ho:∀b∈fp,∃o,s.heap.get? b=some o∧∀v,o.data≠.cell v):Inv X (pins++qN fp s.heap) σ H s:=
 I.Hg λp hp=>(E7.mp hp).elim (λz=>I.pin p (C9 _ z)) λz=>by
  obtain⟨hb,e⟩:=Kh z
  obtain⟨f0,f1,f2,_⟩:=hf p.1 hb
  obtain⟨o,e',d⟩:=ho p.1 hb
  rw[e]at e';cases e'
  exact⟨e,f0,f1,f2,d⟩
theorem Inv.lB{pins pl:List (Addr×Obj)}{σ:St}{H:Hp}{s:Shared}(I:Inv X (pins++pl) σ H s):Inv X pins σ H s:=I.Hg λp hp=>I.pin p (C9 _ (K4 _ hp))
theorem Ef{iter:Expr}{body:List Stmt}{wi:TI}{g:TG}{tb:TS}{pos:Pos}(hp:PassesOwn (model X.prog X.w) X.A X.env X.xe)(hc:X.calm=true)(hi:PI X tg iter wi)(hg:PG X tg g)(hb:Dw X body tb)
  (hs:∀x,foldedSetIterable iter X.env x=pure x:=by intro _;rfl):PS X (.For tg iter body [] pos) (Ed wi g tb):=by
 intro pins s σ H D I h
 refine wpAny_For (cJ (hi pins s σ H _ I h) λv s1 h1=>cJ h1 λitv s2 h2=>?_) hs
 obtain⟨it,fp,tn,J,H2,e,I2,T,st2,f2,W,⟨m0,w0⟩,turn⟩:=h2
 subst e
 have stat:∀{H':Hp},(∀b∈fp,H' b=none)→∀b∈fp,sH X pins H' b:=λhn b hb=>⟨hn b hb,(f2 b hb).2⟩
 refine codeAny_forLoop_any (λn s'=>∃i σ' H',Inv X pins σ' H' s'∧tn i s'.heap∧(∀b∈fp,H' b=none)∧W i n σ' H') ?_ m0 ⟨0,σ,H2,I2,st2,λb hb=>(f2 b hb).1,w0⟩
 rintro n s3 ⟨i,σ3,H3,I3,st3,fr3,w3⟩
 rcases turn i n σ3 H3 w3 with ⟨stop,qn⟩ | ⟨go,N,hN,step⟩
 ·refine wpAny_passesOwn hp (cJ (T.done X rfl rfl rfl hc i pins s3 σ3 H3 X.xe I3 (stat fr3) st3 stop) λr s4 ⟨hr,I4⟩=>?_)
  subst hr
  exact wpAny_execs_nil ⟨σ3,H3,I4,qn⟩
 ·refine wpAny_passesOwn hp (cJ (T.item X rfl rfl rfl hc i pins s3 σ3 H3 X.xe I3 (stat fr3) st3 go) λr s4 ⟨u,hr,h4⟩=>?_)
  subst hr
  refine wpAny_passesOwn hp (cJ h4 λ_ s5 ⟨x,H5,I5,r5,y5,st5,fr5⟩=>?_)
  have ir:=I5.pinned (stat fr5) (T.obj _ _ st5)
  refine wpAny_passesOwn hp (cJ (hg _ s5 σ3 H5 x u _ ir r5 (step x H5 y5)) λ_ s6 ⟨σ6,H6,I6,q6⟩=>?_)
  refine wpAny_passesOwn hp (cJ (hb _ s6 σ6 H6 _ I6 q6) λf s7 q7=>?_)
  have again:∀{σ7:St} {H7:Hp},Inv X (pins++qN fp s5.heap) σ7 H7 s7→N σ7 H7→∃m,m<n∧∃i σ' H',Inv X pins σ' H' s7∧tn i s7.heap∧(∀b∈fp,H' b=none)∧W i m σ' H':=λ{σ7 H7} I7 n7=>by
   obtain⟨m',hm,w7⟩:=hN σ7 H7 n7
   refine⟨m',hm,i+1,σ7,H7,I7.lB,T.keep _ _ _ st5 λb hb o e=>(I7.pin (b,o) (C9 _ (C9 _ (eG hb e)))).1,λb hb=>?_,w7⟩
   obtain⟨o,e,d⟩:=T.obj _ _ st5 b hb
   exact(I7.pin (b,o) (C9 _ (C9 _ (eG hb e)))).2.1
  cases f with
  | next=>obtain⟨σ7,H7,I7,n7⟩:=q7;exact again I7 n7
  | cont=>obtain⟨σ7,H7,I7,n7⟩:=q7;exact again I7 n7
  | brk=>obtain⟨σ7,H7,I7,q7⟩:=q7;exact⟨σ7,H7,I7.lB,q7⟩
  | ret v=>obtain⟨x7,σ7,H7,I7,r7,q7⟩:=q7;exact⟨x7,σ7,H7,I7.lB,r7,q7⟩
end
end L2
namespace L2
open PySem PySem.Spec PyProof.Rows
abbrev R2:=V→V→Hp→VK→Prop
def pC(X:Cx)(f:Value→Value→Sem Value)(r:R2):Prop:=
 ∀(pins:List (Addr×Obj))(s:Shared)(σ:St)(H:Hp)(x y:V)(v u:Value)(Q:VK),Inv X pins σ H s→RelV x v→RelV y u→r x y H Q →
  wpAny (model X.prog X.w) X.A (f v u) (EP X pins σ Q) X.xe s
def fW(X:Cx)(f:Value)(r:List V→Hp→VK→Prop):Prop:=
 ∀(pins:List (Addr×Obj))(s:Shared)(σ:St)(H:Hp)(xs:List V)(us:List Value)(Q:VK),Inv X pins σ H s→Vals xs us→r xs H Q →
  wpAny (model X.prog X.w) X.A (call f us) (EP X pins σ Q) X.xe s
def wB(r:R2)(ta tb:TE):TE:=λσ H Q=>ta σ H λx H1=>tb σ H1 λy H2=>r x y H2 Q
def UT(r:V→Hp→VK→Prop)(ta:TE):TE:=λσ H Q=>ta σ H λx H1=>r x H1 Q
def rI(C:Int→Int→Prop)(g:Int→Int→V):R2:=λx y H Q=>∃i j,x=.int i∧y=.int j∧C i j∧Q (g i j) H
def Od(g:Int→Int→V):R2:=λx y H Q=>∃i j,x=.int i∧y=.int j∧Q (g i j) H
section
variable{X:Cx}{a b c:Expr}{ta tb tc:TE}{pos:Pos}
theorem BP(ha:PE X a ta)(hb:PE X b tb){pins:List (Addr×Obj)}{s:Shared}{σ:St}{H:Hp}{R:V→V→Hp→Prop}(I:Inv X pins σ H s)
  (h:ta σ H λx H1=>tb σ H1 λy H2=>R x y H2) {Q:Value→Shared→Prop} {f:Value→Value→Sem Value}
  (hf:∀v u s2 x y H2,Inv X pins σ H2 s2→RelV x v→RelV y u→R x y H2→wpAny (model X.prog X.w) X.A (f v u) Q X.xe s2) :
  wpAny (model X.prog X.w) X.A (eval a X.env) (λv s₁=>wpAny (model X.prog X.w) X.A (eval b X.env) (λu s₂=>wpAny (model X.prog X.w) X.A (f v u) Q X.xe s₂) X.xe s₁) X.xe s:=by
 refine cJ (ha pins s σ H _ I h) λv s1 ⟨x,H1,I1,r1,q1⟩=>?_
 refine cJ (hb pins s1 σ H1 _ I1 q1) λu s2 ⟨y,H2,I2,r2,q2⟩=>?_
 exact hf v u s2 x y H2 I2 r1 r2 q2
theorem PB{op:Operator}{r:R2}(ho:pC X (binaryOp op) r)(ha:PE X a ta)(hb:PE X b tb):PE X (.BinOp a op b pos) (wB r ta tb):=by
 intro pins s σ H Q I h
 exact wpAny_BinOp (BP ha hb I h λv u s2 x y H2 I2 rx ry q=>ho pins s2 σ H2 x y v u Q I2 rx ry q)
theorem PJ{f:Value→Value→Sem Value}{C:Int→Int→Prop}{g:Int→Int→Int}
  (rule:∀(i j:Int)(t u:Tok)(s:Shared)(Q:Value→Shared→Prop)(E:Value→Shared→Prop),C i j→Q (.int (g i j) s.toks) {s with toks:=s.toks+1}→wpAny (model X.prog X.w) X.A (f (.int i t) (.int j u)) Q E s) :
  pC X f (rI C λi j=>.int (g i j)):=by
 intro pins s σ H x y v u Q I rx ry h
 obtain⟨i,j,rfl,rfl,hc,q⟩:=h
 obtain⟨t,rfl⟩:=rx
 obtain⟨t',rfl⟩:=ry
 exact rule i j t t' s _ _ hc ⟨.int (g i j),H,I.tok _,⟨_,rfl⟩,q⟩
theorem PK{f:Value→Value→Sem Value}{g:Int→Int→Int}
  (rule:∀(i j:Int)(t u:Tok)(s:Shared)(Q:Value→Shared→Prop)(E:Value→Shared→Prop),Q (.int (g i j) s.toks) {s with toks:=s.toks+1}→wpAny (model X.prog X.w) X.A (f (.int i t) (.int j u)) Q E s) :
  pC X f (Od λi j=>.int (g i j)):=by
 intro pins s σ H x y v u Q I rx ry h
 obtain⟨i,j,rfl,rfl,q⟩:=h
 obtain⟨t,rfl⟩:=rx
 obtain⟨t',rfl⟩:=ry
 exact rule i j t t' s _ _ ⟨.int (g i j),H,I.tok _,⟨_,rfl⟩,q⟩
theorem PL{f:Value→Value→Sem Value}{g:Int→Int→Bool}
  (rule:∀(i j:Int)(t u:Tok)(s:Shared)(Q:Value→Shared→Prop)(E:Value→Shared→Prop),Q (.bool (g i j)) s→wpAny (model X.prog X.w) X.A (f (.int i t) (.int j u)) Q E s) :
  pC X f (Od λi j=>.bl (g i j)):=by
 intro pins s σ H x y v u Q I rx ry h
 obtain⟨i,j,rfl,rfl,q⟩:=h
 obtain⟨t,rfl⟩:=rx
 obtain⟨t',rfl⟩:=ry
 exact rule i j t t' s _ _ ⟨.bl (g i j),H,I,rfl,q⟩
def Kl(i j:Int):Prop:=0<j∧j<1073741824
def Km(i j:Int):Prop:=0≤j∧j≤1000000∧i.natAbs<2 ^ 64
def wF(i j:Int):Prop:=(-(2 ^ 64)<i∧i<2 ^ 64)∨(-(2 ^ 64)<j∧j<2 ^ 64)
theorem wF.ok{i j:Int}(h:wF i j):IntMulOk i j:=by
 rcases h with ⟨h1,h2⟩ | ⟨h1,h2⟩
 ·exact .of_left (intBits_le_64 h1 h2)
 ·exact .of_right (intBits_le_64 h1 h2)
theorem BR:pC X (binaryOp .Add) (Od λi j=>.int (i+j)):=PK λ_ _ _ _ _ _ _ q=>add_int q
theorem BV:pC X (binaryOp .Sub) (Od λi j=>.int (i-j)):=PK λ_ _ _ _ _ _ _ q=>sub_int q
theorem BW:pC X (binaryOp .Mult) (rI wF λi j=>.int (i*j)):=PJ λ_ _ _ _ _ _ _ hc q=>mul_int q hc.ok
theorem Vh:pC X (binaryOp .FloorDiv) (rI Kl λi j=>.int (i/j)):=PJ λi j _ _ _ _ _ hc q=>by
 have h1:(0:Int)<j:=hc.1
 have h2:j<1073741824:=hc.2
 exact floordiv_int (by omega) (by rw[Int.fdiv_eq_ediv_of_nonneg i (by omega)];exact q) (.inl (PyProof.noPylong_small (by omega)))
theorem BX:pC X (binaryOp .Mod) (rI (λ_ j=>0<j) λi j=>.int (i%j)):=PJ λi j _ _ _ _ _ hc q=>by
 have h1:(0:Int)<j:=hc
 exact mod_int' (by omega) (by rw[Int.fmod_eq_emod_of_nonneg i (by omega)];exact q)
theorem BZ:pC X (binaryOp .Pow) (rI Km λi j=>.int (i ^ j.toNat)):=PJ λ_ _ _ _ _ _ _ hc q=>pow_int_small hc.1 hc.2.1 hc.2.2 q
end
def Vi:V→V→Bool
  | .non,.non=>true | .non,.int _=>true | .int _,.non=>true | .non,.bl _=>true | .bl _,.non=>true | .non,.str _=>true | .str _,.non=>true
  | .int _,.int _=>true | .bl _,.bl _=>true | .str _,.str _=>true | .byt _,.byt _=>true
  | .int _,.str _=>true | .str _,.int _=>true | .bl _,.str _=>true | .str _,.bl _=>true
  | _,_=>false
def XF:R2:=λx y H Q=>Vi x y=true∧Q (.bl (decide (x=y))) H
def bu:R2:=λx y H Q=>Vi x y=true∧Q (.bl (!decide (x=y))) H
theorem Hj{i j:Int}:decide (V.int i=V.int j)=(i==j):=by
 rw[L5]
 simp
theorem Oe{i j:Bool}:decide (V.bl i=V.bl j)=(i==j):=by
 rw[L5]
 simp
theorem Ho{i j:Str}:decide (V.str i=V.str j)=(i==j):=by
 rw[L5]
 simp
theorem Hq{i j:Array UInt8}:decide (V.byt i=V.byt j)=(i.toList==j.toList):=by
 rw[L5]
 cases i
 cases j
 simp
section
variable{X:Cx}{a b c:Expr}{ta tb tc:TE}{pos:Pos}
theorem bD{pins:List (Addr×Obj)}{σ:St}{H:Hp}{s:Shared}{Q:VK}{k k':Bool}(I:Inv X pins σ H s)(q:Q (.bl k) H)(e:k=k'):EP X pins σ Q (.bool k') s:=by
 subst e
 exact⟨.bl k,H,I,rfl,q⟩
theorem PN:pC X (compareOp .Eq) XF:=by
 intro pins s σ H x y v u Q I rx ry h
 obtain⟨hs,q⟩:=h
 cases x with
 | non=>
  cases rx
  cases y with
  | non=>cases ry;exact PySem.EqNone.eq_none_none (bD I q (by simp))
  | bl j=>cases ry;exact PySem.EqNone.eq_none_bool (bD I q (by simp))
  | int j=>obtain⟨t',rfl⟩:=ry;exact PySem.EqNone.eq_none_int (bD I q (by simp))
  | str j=>obtain⟨t',rfl⟩:=ry;exact PySem.EqNone.eq_none_str (bD I q (by simp))
  | _=>exact absurd (show false=true from hs) D1
 | bl i=>
  cases rx
  cases y with
  | non=>cases ry;exact PySem.EqNone.eq_bool_none (bD I q (by simp))
  | bl j=>cases ry;exact eq_bool (bD I q Oe)
  | str j=>obtain⟨t',rfl⟩:=ry;exact PySem.EqMixed.eq_bool_str (bD I q (by simp))
  | _=>exact absurd (show false=true from hs) D1
 | int i=>
  obtain⟨t,rfl⟩:=rx
  cases y with
  | non=>cases ry;exact PySem.EqNone.eq_int_none (bD I q (by simp))
  | int j=>obtain⟨t',rfl⟩:=ry;exact eq_int (bD I q Hj)
  | str j=>obtain⟨t',rfl⟩:=ry;exact PySem.EqMixed.eq_int_str (bD I q (by simp))
  | _=>exact absurd (show false=true from hs) D1
 | str i=>
  obtain⟨t,rfl⟩:=rx
  cases y with
  | non=>cases ry;exact PySem.EqNone.eq_str_none (bD I q (by simp))
  | bl j=>cases ry;exact PySem.EqMixed.eq_str_bool (bD I q (by simp))
  | int j=>obtain⟨t',rfl⟩:=ry;exact PySem.EqMixed.eq_str_int (bD I q (by simp))
  | str j=>obtain⟨t',rfl⟩:=ry;exact eq_str (bD I q Ho)
  | _=>exact absurd (show false=true from hs) D1
 | byt i=>
  obtain⟨t,rfl⟩:=rx
  cases y with
  | byt j=>obtain⟨t',rfl⟩:=ry;exact PySem.W.eq_bytes (bD I q Hq)
  | _=>exact absurd (show false=true from hs) D1
 | _=>cases y<;>exact absurd (show false=true from hs) D1
theorem PQ:pC X (compareOp .NotEq) bu:=by
 intro pins s σ H x y v u Q I rx ry h
 obtain⟨hs,q⟩:=h
 cases x with
 | non=>
  cases rx
  cases y with
  | non=>cases ry;exact PySem.EqNone.ne_none_none (bD I q (by simp))
  | bl j=>cases ry;exact PySem.EqNone.ne_none_bool (bD I q (by simp))
  | int j=>obtain⟨t',rfl⟩:=ry;exact PySem.EqNone.ne_none_int (bD I q (by simp))
  | str j=>obtain⟨t',rfl⟩:=ry;exact PySem.EqNone.ne_none_str (bD I q (by simp))
  | _=>exact absurd (show false=true from hs) D1
 | bl i=>
  cases rx
  cases y with
  | non=>cases ry;exact PySem.EqNone.ne_bool_none (bD I q (by simp))
  | bl j=>cases ry;exact ne_bool (bD I q (congrArg not Oe))
  | str j=>obtain⟨t',rfl⟩:=ry;exact PySem.EqMixed.ne_bool_str (bD I q (by simp))
  | _=>exact absurd (show false=true from hs) D1
 | int i=>
  obtain⟨t,rfl⟩:=rx
  cases y with
  | non=>cases ry;exact PySem.EqNone.ne_int_none (bD I q (by simp))
  | int j=>obtain⟨t',rfl⟩:=ry;exact ne_int (bD I q (congrArg not Hj))
  | str j=>obtain⟨t',rfl⟩:=ry;exact PySem.EqMixed.ne_int_str (bD I q (by simp))
  | _=>exact absurd (show false=true from hs) D1
 | str i=>
  obtain⟨t,rfl⟩:=rx
  cases y with
  | non=>cases ry;exact PySem.EqNone.ne_str_none (bD I q (by simp))
  | bl j=>cases ry;exact PySem.EqMixed.ne_str_bool (bD I q (by simp))
  | int j=>obtain⟨t',rfl⟩:=ry;exact PySem.EqMixed.ne_str_int (bD I q (by simp))
  | str j=>obtain⟨t',rfl⟩:=ry;exact ne_str (bD I q (congrArg not Ho))
  | _=>exact absurd (show false=true from hs) D1
 | byt i=>
  obtain⟨t,rfl⟩:=rx
  cases y with
  | byt j=>obtain⟨t',rfl⟩:=ry;exact PySem.W.ne_bytes (bD I q (congrArg not Hq))
  | _=>exact absurd (show false=true from hs) D1
 | _=>cases y<;>exact absurd (show false=true from hs) D1
theorem Yj:pC X (compareOp .Lt) (Od λi j=>.bl (decide (i<j))):=PL λ_ _ _ _ _ _ _ q=>lt_int q
theorem Yk:pC X (compareOp .Gt) (Od λi j=>.bl (decide (j<i))):=PL λ_ _ _ _ _ _ _ q=>gt_int q
theorem pC.or{f:Value→Value→Sem Value}{r r':R2}(h:pC X f r)(h':pC X f r'):pC X f (λx y H Q=>r x y H Q∨r' x y H Q):=by
 intro pins s σ H x y v u Q I rx ry q
 rcases q with q | q
 ·exact h pins s σ H x y v u Q I rx ry q
 ·exact h' pins s σ H x y v u Q I rx ry q
theorem cU(b:Expr){op:CmpOp}(h:op≠.In:=by decide)(h2:op≠.NotIn:=by decide):behindInMarks op b=false:=by
 have e1:(op==CmpOp.In)=false:=by cases op<;>first | rfl | exact absurd rfl h
 have e2:(op==CmpOp.NotIn)=false:=by cases op<;>first | rfl | exact absurd rfl h2
 cases b<;>simp[behindInMarks,e1,e2]
theorem Vj{op:CmpOp}{r:R2}(ho:pC X (compareOp op) r)(ha:PE X a ta)(hb:PE X b tb)(hm:behindInMarks op b=false):PE X (.Compare a [op] [b] pos) (wB r ta tb):=by
 intro pins s σ H Q I h
 exact wpAny_Compare1 (BP ha hb I h λv u s2 x y H2 I2 rx ry q=>ho pins s2 σ H2 x y v u Q I2 rx ry q) hm
def Og(t:TE):TT:=λσ H Q=>t σ H λx H'=>∃k,x=.bl k∧Q k H'
theorem Vk{op:CmpOp}{r:R2}(ho:pC X (compareOp op) r)(ha:PE X a ta)(hb:PE X b tb)(hm:behindInMarks op b=false):PT X (.Compare a [op] [b] pos) (Og (wB r ta tb)):=by
 intro pins s σ H Q I h
 refine wpAny_isTrue_Compare1 (cJ (ha pins s σ H _ I h) λv s1 ⟨x,H1,I1,r1,q1⟩=>cJ (hb pins s1 σ H1 _ I1 q1) λu s2 ⟨y,H2,I2,r2,q2⟩=>
  cJ (ho pins s2 σ H2 x y v u _ I2 r1 r2 q2) λc s3 ⟨z,H3,I3,r3,k,e,q3⟩=>?_) hm
 subst e
 cases r3
 exact wpAny_truthy_bool ⟨H3,I3,q3⟩
theorem tQ:(sizeLine:Nat)<2 ^ 63:=by rw[sizeLine_eq];decide
theorem vals1{x:V}{us:List Value}(r:Vals [x] us):∃u,us=[u]∧RelV x u:=by
 cases r with
 | cons r1 r2=>cases r2;exact⟨_,rfl,r1⟩
theorem vals2{x y:V}{us:List Value}(r:Vals [x,y] us):∃u w',us=[u,w']∧RelV x u∧RelV y w':=by
 cases r with
 | cons r1 r2=>
  cases r2 with
  | cons r3 r4=>cases r4;exact⟨_,_,rfl,r1,r3⟩
theorem Ko(hc:X.calm=true):fW X (.builtin "max") (λxs H Q=>∃i j,xs=[.int i,.int j]∧Q (.int (if j > i then j else i)) H):=by
 intro pins s σ H xs us Q I r h
 obtain⟨i,j,rfl,q⟩:=h
 obtain⟨u,w',rfl,⟨t,rfl⟩,⟨t',rfl⟩⟩:=vals2 r
 refine max_two_ints (I.ok.hd hc) λh' tk k=>⟨_,H,I.kept k,?_,q⟩
 by_cases hj:j > i
 ·rw[if_pos hj,if_pos hj];exact⟨_,rfl⟩
 ·rw[if_neg hj,if_neg hj];exact⟨_,rfl⟩
theorem Kq(hc:X.calm=true):fW X (.builtin "min") (λxs H Q=>∃i j,xs=[.int i,.int j]∧Q (.int (if j<i then j else i)) H):=by
 intro pins s σ H xs us Q I r h
 obtain⟨i,j,rfl,q⟩:=h
 obtain⟨u,w',rfl,⟨t,rfl⟩,⟨t',rfl⟩⟩:=vals2 r
 refine min_two_ints (I.ok.hd hc) λh' tk k=>⟨_,H,I.kept k,?_,q⟩
 by_cases hj:j<i
 ·rw[if_pos hj,if_pos hj];exact⟨_,rfl⟩
 ·rw[if_neg hj,if_neg hj];exact⟨_,rfl⟩
end
end L2
namespace L2
open PySem PySem.Spec PyProof.Rows
structure CG(h:Heap)(x dx C:Addr)(mA:Str→Option Value):Prop where
 obj:h.get? x=some (Q7 C dx)
 ns:h.Ns1 dx mA
 ne:dx≠x
theorem Kr{h:Heap}{dx:Addr}{mA:Str→Option Value}(n:h.Ns1 dx mA):∃od,h.get? dx=some od∧∀name,R5 name od=some (mA name):=by
 obtain⟨o,es,ep,ho,hd,hk,_,hm⟩:=n
 refine⟨o,ho,λname=>?_⟩
 have e:=hm name
 unfold nsFind findBy at e
 rw[←Array.find?_toList]at e
 unfold R5
 rw[hd]
 dsimp only
 split
 ·rename_i y q
  rw[q]at e
  exact congrArg some e
 ·rename_i q
  rw[q]at e
  have a:es.toList.any (·.refKey)=false:=by
   rw[List.any_eq_false]
   intro y hy
   obtain⟨z,t,hkey⟩:=hk y (Array.mem_toList_iff.mp hy)
   simp[DictEntry.refKey,hkey]
  have a':¬es.toList.any (·.refKey)=true:=by rw[a];exact D1
  rw[if_neg a']
  exact congrArg some e
theorem CG.look{h:Heap}{x dx C:Addr}{mA:Str→Option Value}(I:CG h x dx C mA):∃od,PySem.W.InstAt h x (Q7 C dx) C (some od)∧∀name,R5 name od=some (mA name):=
 let ⟨od,ho,hl⟩:=Kr I.ns
 ⟨od,⟨I.obj,rfl,rfl,ho⟩,hl⟩
section
variable{prog:Program}{w:World}{A:Around}{E:Value→Shared→Prop}{s:Shared}{K:aA}{x dx C f:Addr}{mA:Str→Option Value}{name:Str}{v:Value}
end
theorem qL.some_of{v:V}{o:Option Value}(r:qL (some v) o):∃u,o=some u∧RelV v u:=by
 cases o with
 | none=>exact(show False from r).elim
 | some u=>exact⟨u,rfl,r⟩
section
variable{P:Program}{w:World}{H H':Hp}{h h':Heap}{a C dx:Addr}{fs fs':List (Str×V)}
theorem Vl(hok:nG P w H h)(e:H a=some (.ins C dx fs)):∃mA,CG h a dx C mA∧(∀f,qL (fs.lookup f) (mA f))∧X0 mA (fs.map (·.1))∧fs.length≤1000∧H dx=some (.own a):=by
 obtain⟨d,z,ne,ob,mA,n,r,q⟩:=(show bW P w H h a (.ins C dx fs)from hok a _ e)
 exact⟨mA,⟨ob,n,ne⟩,r,q,z,d⟩
end
structure UW(K:aA)(C:Addr):Prop where
 pg:V0 K C Str.empty=true
 hd:PySem.W.hasDictIn K C=true
 po:PySem.W.plainOver K C=true
 sa:J0 K (.ref C) "__setattr__" = some (some (.builtin "object.__setattr__"))
theorem UW.get{K:aA}{C:Addr}(c:UW K C)(f:Str):V0 K C f=true:=c.pg
def CJ(K:aA)(C:Addr)(f:Str):Prop:=J0 K (.ref C) f=some none
structure qm(K:aA)(C:Addr)(f:Str)(v:V)(u:Value):Prop where
 at_:J0 K (.ref C) f=some (some u)
 rel:RelV v u
 get:O9 K u "__get__" = some none
 cp:PySem.W.copiedNames.contains f=false
structure Meth(K:aA)(C:Addr)(m:Str)(f:Addr):Prop where
 at_:J0 K (.ref C) m=some (some (.ref f))
 fn:X2 K (.ref f)=true
 kp:G9 K (.ref f)=true
section
variable{X:Cx}{pins:List (Addr×Obj)}{σ:St}{H:Hp}{s:Shared}{a C dx:Addr}{fs:List (Str×V)}{f:Str}{v:V}{A:Around}{E:Value→Shared→Prop}
end
section
variable{X:Cx}{o e value:Expr}{f:Str}{pos pos' tpos:Pos}{ta tv:TE}
end
section
variable{X:Cx}{pins:List (Addr×Obj)}{σ:St}{H:Hp}{s:Shared}{A:Around}{E:Value→Shared→Prop}{Q:Value→Shared→Prop}{c:Value}{b:Bool}
inductive sI(K:aA)(H:Hp):V→Value→Prop where
 | non:sI K H .non (.type "NoneType")
 | bl (x:Bool):sI K H (.bl x) (.type "bool")
 | int (i:Int):sI K H (.int i) (.type "int")
 | str (x:Str):sI K H (.str x) (.type "str")
 | flt (x:UInt64):sI K H (.flt x) (.type "float")
 | lst {a:Addr} {xs:List V} (e:H a=some (.lst xs)):sI K H (.ref a) (.type "list")
 | iC {a:Addr} {o:Obj} {xs:List V} (e:H a=some (.iC o (.lst xs))):sI K H (.ref a) (.type "list")
 | tup {a:Addr} {xs:List V} (e:H a=some (.tup xs)):sI K H (.ref a) (.type "tuple")
 | dK {a:Addr} {kvs:List (Key×V)} (e:H a=some (.dK kvs)):sI K H (.ref a) (.type "dict")
 | dT {a:Addr} {kvs:List (List Key×V)} (e:H a=some (.dT kvs)):sI K H (.ref a) (.type "dict")
 | ins {a C dx:Addr} {fs:List (Str×V)} (e:H a=some (.ins C dx fs)) (cl:UW K C) (ha:J0 K (.ref C) "__class__" = some (some (.builtin "object.__class__")))
   (hn:O9 K (.builtin "object.__class__") "__get__" = some (some (.builtin "getset_descriptor.__get__"))) (htk:V7 K (.builtin "object.__class__")=some true)
   (hm:W7 K C (.type "object")=some true):sI K H (.ref a) (.ref C)
theorem wU{x:V}{u t:Value}(I:Inv X pins σ H s)(rx:RelV x u)(ty:sI X.K H x t)(e:E8 X.K t c=some b)(h:∀tk,Q (.bool b) {s with toks:=tk}) :
  wpAny (model X.prog X.w) A (call (.builtin "isinstance") [u,c]) Q E s:=by
 cases ty with
 | non=>cases(show u=Value.none from rx);exact F1 PySem.W.kitx_none I.yO True.intro e (λz=>nomatch z) h
 | bl y=>cases(show u=Value.bool y from rx);exact F1 PySem.W.kitx_bool I.yO True.intro e (λz=>nomatch z) h
 | int i=>obtain⟨t,q⟩:=(show ∃t,u=Value.int i t from rx);cases q;exact F1 PySem.W.kitx_int I.yO True.intro e (λz=>nomatch z) h
 | str y=>obtain⟨t,q⟩:=(show ∃t,u=Value.str y t from rx);cases q;exact F1 PySem.W.kitx_str I.yO True.intro e (λz=>nomatch z) h
 | flt y=>obtain⟨t,q⟩:=(show ∃t,u=Value.float y t from rx);cases q;exact F1 PySem.W.kitx_float I.yO True.intro e (λz=>nomatch z) h
 | @lst a xs ea=>
  cases(show u=Value.ref a from rx)
  obtain⟨_,_,n,_,h1⟩:=(show bW X.prog X.w H s.heap a (.lst xs)from I.hok a _ ea)
  exact F1 P0 I.yO ⟨_,h1,rfl⟩ e (λz=>nomatch z) h
 | @iC a ob xs ea=>
  cases(show u=Value.ref a from rx)
  obtain⟨_,_,_,n,_,h1⟩:=(show bW X.prog X.w H s.heap a (.iC ob (.lst xs))from I.hok a _ ea)
  exact F1 P0 I.yO ⟨_,h1,rfl⟩ e (λz=>nomatch z) h
 | @tup a xs ea=>
  cases(show u=Value.ref a from rx)
  obtain⟨_,_,_,p⟩:=(show bW X.prog X.w H s.heap a (.tup xs)from I.hok a _ ea)
  obtain⟨o,h1,h2,_⟩:=p
  exact F1 T4 I.yO ⟨o,h1,h2⟩ e (λz=>nomatch z) h
 | @dK a kvs ea=>
  cases(show u=Value.ref a from rx)
  obtain⟨_,_,vs,_,p⟩:=(show bW X.prog X.w H s.heap a (.dK kvs)from I.hok a _ ea)
  obtain⟨o,es,ep,h1,h2,_⟩:=p
  exact F1 T9 I.yO ⟨o,h1,h2.1⟩ e (λz=>nomatch z) h
 | @dT a kvs ea=>
  cases(show u=Value.ref a from rx)
  obtain⟨_,_,xs,_,o,es,ep,h1,h2,_⟩:=(show bW X.prog X.w H s.heap a (.dT kvs)from I.hok a _ ea)
  exact F1 T9 I.yO ⟨o,h1,h2.1⟩ e (λz=>nomatch z) h
 | @ins a C dx fs ea cl ha hn htk hm=>
  cases(show u=Value.ref a from rx)
  obtain⟨mA,O,_⟩:=Vl I.hok ea
  obtain⟨od,J,_⟩:=O.look
  exact F1 (PySem.W.kitx_own (cl.get _) cl.hd ha hn htk hm) I.yO J e (λz=>nomatch z) h
end
end L2
namespace L2
open PySem PySem.Spec PyProof.Rows
structure gK(k:Nat)(A:Around):Prop where
 hd:A.handled=none
 dp:A.depth+3*k+5<recursionLimit
 un:A.units+16*k+200<cLine
theorem gK.mono{j k:Nat}{A:Around}(r:gK k A)(h:j≤k):gK j A:=⟨r.hd,by have:=r.dp;omega,by have:=r.un;omega⟩
theorem gK.deeper{k:Nat}{A:Around}(r:gK (k+1) A)(env:Env):gK k (A.deeper env):=
 ⟨r.hd,by have:=r.dp;show A.depth+1+3*k+5<_;omega,by have:=r.un;show A.units+3+16*k+200<_;omega⟩
theorem gK.depth{k:Nat}{A:Around}(r:gK k A):A.depth<recursionLimit:=by have:=r.dp;omega
theorem gK.units{k:Nat}{A:Around}(r:gK k A):A.units+64<cLine:=by have:=r.un;omega
def qO:TA:=λ_ H Q=>Q [] H
def dY(ta:TE)(tr:TA):TA:=λσ H Q=>ta σ H λx H1=>tr σ H1 λxs H2=>Q (x::xs) H2
section
variable{X:Cx}{e:Expr}{es:List Expr}{te:TE}{t:TA}{pos:Pos}
theorem oE:PA X [] qO:=λ_ _ _ _ H Q I h=>Calls.spliced_nil ⟨[],H,I,.nil,h⟩
theorem fZ(ha:PE X e te)(hr:PA X es t)(hs:starEach (e::es) X.env=(false,eval e X.env)::starEach es X.env:=by rfl):PA X (e::es) (dY te t):=by
 intro pos pins s σ H Q I h
 rw[hs]
 show wpAny _ _ (spliced ((false,eval e X.env)::backTo pos (starEach es X.env))) _ _ s
 refine Calls.spliced_cons (cJ (ha pins s σ H _ I h) λu s1 ⟨x,H1,I1,r1,q1⟩=>?_)
 exact cJ (hr pos pins s1 σ H1 _ I1 q1) λus s2 ⟨xs,H2,I2,r2,q2⟩=>⟨x::xs,H2,I2,.cons r1 r2,q2⟩
def Eg(t:TA):TE:=λσ H Q=>t σ H λxs H1=>xs.length≤sizeLine∧∀p,H1 p=none→Q (.ref p) (upd H1 p (.tup xs))
def Oh(t:TA):TE:=λσ H Q=>t σ H λxs H1=>xs.length≤sizeLine∧∀p,H1 p=none→Q (.ref p) (upd H1 p (.lst xs))
theorem Oi{x1}(h:PA X es t):PE X (.Tuple es x1 pos) (Eg t):=by
 intro pins s σ H Q I hq
 refine wpAny_Tuple_spliced (cJ (h pos pins s σ H _ I hq) λus s1 ⟨xs,H1,I1,r,z,q⟩=>⟨by rw[←r.length];exact z,?_⟩)
 have hf:H1 s1.heap.objs.size=none:=I1.hok.fresh (B6 _)
 refine⟨.ref s1.heap.objs.size,upd H1 s1.heap.objs.size (.tup xs),I1.laid (t':=s1.toks) (λb u e=>Heap.get?_push_of_some _ e) (B6 _) ?_,rfl,q _ hf⟩
 exact⟨z,us,r,⟨_,Heap.get?_push_size _ rfl,rfl,_,rfl⟩⟩
theorem Oj(h:PA X es t):PE X (.List es pos) (Oh t):=by
 intro pins s σ H Q I hq
 refine wpAny_List_spliced (cJ (h pos pins s σ H _ I hq) λus s1 ⟨xs,H1,I1,r,z,q⟩=>⟨by rw[←r.length];exact z,?_⟩)
 have hf:H1 s1.heap.objs.size=none:=I1.hok.fresh (B6 _)
 refine⟨.ref s1.heap.objs.size,upd H1 s1.heap.objs.size (.lst xs),I1.laid (t':=s1.toks) (λb u e=>Heap.get?_push_of_some _ e) (B6 _) ?_,rfl,q _ hf⟩
 exact⟨z,us,0,r,Heap.get?_push_size _ rfl⟩
end
abbrev Sp:=List V→Hp→VK→XK→Prop
abbrev Ks:=List Env→Hp→Shared→XK→Value→Shared→Prop
structure Vm(P:Program)(w:World)(K:aA)(mg:Str→Option Value)(base:Heap)(A:Around)(outer:List Env)(s:Shared)(H:Hp):Prop where
 frames:A.frames=some outer
 mod:Mod K mg base
 bs:∀b o,base.get? b=some o→s.heap.get? b=some o∧H b=none
 Uo:base.objs.size≤s.heap.objs.size
 tL:s.heap.FunFrames base outer
 LQ:∀b∈frs outer,H b=none
 hok:nG P w H s.heap
 bare:AllBare s.gens
def CE(outer:List Env)(P:Program)(w:World)(H:Hp)(s:Shared)(Q:VK)(u:Value)(s':Shared):Prop:=
 ∃v H',s'.os=s.os∧AllBare s'.gens∧Un (frs outer) [] H H' s.heap s'.heap∧nG P w H' s'.heap∧RelV v u∧Q v H'
def CR(CX:Ks)(outer:List Env)(P:Program)(w:World)(H:Hp)(s:Shared)(Q:VK)(E:XK)(r:Result)(s':Shared):Prop:=
 match r with
 | .ok (.ret u)=>CE outer P w H s Q u s'
 | .ok _=>False
 | .error e=>CX outer H s E e s'
structure qP(P:Program)(w:World)(K:aA)(mg:Str→Option Value)(base:Heap)(CX:Ks)(k:Nat)(f:Addr)(fd:FuncData)(ps:List Str)(sp:Sp):Prop where
 len:∀vs H Q E,sp vs H Q E→vs.length=ps.length
 run:∀(A:Around)(outer:List Env)(s:Shared)(H:Hp)(args:Args)(us:List Value)(vs:List V)(Q:VK)(E:XK),gK k A→Vm P w K mg base A outer s H→BindsTo s fd args (ps.zip us)→Vals vs us→sp vs H Q E →
  codeAny (model P w) A (.call (.ref f) args) (CR CX outer P w H s Q E) s
section
variable{X:Cx}{pins:List (Addr×Obj)}{σ:St}{H:Hp}{s s':Shared}
theorem Inv.env0(I:Inv X pins σ H s):Vm X.prog X.w X.K X.mg X.base X.A X.stack s H:=
 ⟨I.ok.frames,I.ok.mod,I.bs,C7 I.ok.Uo I.sz,I.stack,I.yP,I.hok,I.bare⟩
theorem Inv.after{Q:VK}{u:Value}(I:Inv X pins σ H s)(h:CE X.stack X.prog X.w H s Q u s'):EP X pins σ Q u s':=by
 obtain⟨v,H',os,bare,un,hok,r,q⟩:=h
 obtain⟨hh,g,d,t,os'⟩:=s'
 obtain rfl:os'=s.os:=os
 exact⟨v,H',I.call (h':=hh) (g':=g) (d':=d) (t':=t) (ch:=[]) un hok bare (λb z=>absurd z (by simp)),r,q⟩
end
def Bc(sp:Sp)(Yl:List V)(E:XK)(t:TA):TE:=λσ H Q=>t σ H λvs H1=>sp (vs++Yl) H1 Q E
def Binds(K:aA)(fd:FuncData)(ps:List Str)(ds:List Value):Prop:=
 ∀(s:Shared)(us:List Value),K.In s.heap→(us++ds).length=ps.length→BindsTo s fd ⟨us,[]⟩ (ps.zip (us++ds))
theorem Binds.all{K:aA}{fd:FuncData}{ps:List Str}(h:∀us:List Value,us.length=ps.length→bindArgs fd ⟨us,[]⟩=pure (ps.zip us)):Binds K fd ps []:=λs us _ hl=>by
 rw[Q8]at hl ⊢
 exact .of_eq (h us hl)
def Passes(CX:Ks)(X:Cx)(E:XK):Prop:=∀(pins:List (Addr×Obj))(σ:St)(H:Hp)(s:Shared)(e:Value)(s':Shared),Inv X pins σ H s→CX X.stack H s E e s'→X.xe e s'
section
variable{X:Cx}{CX:Ks}{k:Nat}{f C:Addr}{fd:FuncData}{ps:List Str}{sp:Sp}{Yl:List V}{ds:List Value}{E:XK}{x m:Str}{p pos apos:Pos}{e o:Expr}{es:List Expr}{ta:TE}{t:TA}
theorem CK{pins:List (Addr×Obj)}{σ:St}{H:Hp}{s:Shared}{Q:VK}{us:List Value}{vs:List V}(F:qP X.prog X.w X.K X.mg X.base CX k f fd ps sp)(hr:gK k X.A)(hb:Binds X.K fd ps ds)(hd:Vals Yl ds)(hx:Passes CX X E)
  (I:Inv X pins σ H s) (r:Vals vs us) (h:sp (vs++Yl) H Q E):wpAny (model X.prog X.w) X.A (call (.ref f) us) (EP X pins σ Q) X.xe s:=by
 have r2:Vals (vs++Yl) (us++ds):=r.append hd
 have hl:(us++ds).length=ps.length:=by rw[←r2.length];exact F.len _ _ _ _ h
 refine wpAny_call (codeAny_mono (F.run X.A X.stack s H ⟨us,[]⟩ (us++ds) (vs++Yl) Q E hr I.env0 (hb s us I.yO hl) r2 h) λr s' hq=>?_)
 cases r with
 | error e=>exact hx pins σ H s e s' I hq
 | ok fl=>
  cases fl with
  | ret u=>exact I.after hq
  | next=>exact False.elim hq
  | brk=>exact False.elim hq
  | cont=>exact False.elim hq
theorem Vn(F:qP X.prog X.w X.K X.mg X.base CX k f fd ps sp)(hr:gK k X.A)(hg:Gl X x)(hm:X.mg x=some (.ref f))(hk:G9 X.K (.ref f)=true)(hb:Binds X.K fd ps ds)(hd:Vals Yl ds)(hx:Passes CX X E)
  (ha:PA X (e::es) t) (hdb:(x==("__debug__" : Str))=false:=by decide) (he:starEach (e::es) X.env=(false,eval e X.env)::starEach es X.env:=by rfl) (hpl:(backTo pos (starEach es X.env)).any (·.1)=false:=by rfl) :
  PE X (.Call (.Name x p) (e::es) [] pos) (Bc sp Yl E t):=by
 intro pins s σ H Q I h
 refine wpAny_Call_Name_kw (Hh I hg hm ?_ hdb)
 refine PySem.W.callWith_K (h₀:=X.base) I.ok.mod.WQ hk (cJ (ha pos pins s σ H _ I h) λus s1 ⟨vs,H1,I1,r,q⟩=>⟨I1.yO,?_⟩) he hpl
 exact CK F hr hb hd hx I1 r q
structure Mk(K:aA)(C f:Addr):Prop where
 makes:PySem.W.makesIn K C=true
 init:J0 K (.ref C) "__init__" = some (some (.ref f))
 fn:X2 K (.ref f)=true
 kp:G9 K (.ref C)=true
end
section
variable{X:Cx}{CX:Ks}{k:Nat}{f C:Addr}{fd:FuncData}{ps ks:List Str}{sp:Sp}{E:XK}{x m:Str}{p pos apos kpos:Pos}{e o:Expr}{es:List Expr}{kws:List Keyword}{te ta:TE}{t tk:TA}{nm:Option Str}
structure XH(K:aA)(fd:FuncData)(ps ks:List Str)(g:List Value→List Value→List Value)(gV:List V→List V→List V):Prop where
 to:∀(s:Shared)(us ws:List Value),K.In s.heap→(g us ws).length=ps.length→BindsTo s fd ⟨us,ks.zip ws⟩ (ps.zip (g us ws))
 rel:∀{vs:List V} {us:List Value} {zs:List V} {ws:List Value},Vals vs us→Vals zs ws→Vals (gV vs zs) (g us ws)
variable{g:List Value→List Value→List Value}{gV:List V→List V→List V}
end
structure bL(N P:List Str)(sc:Scope):Prop where
 kind:sc.kind=.function
 co:sc.isCoroutine=false
 gen:sc.isGenerator=false
 nd:N.Nodup
 pre:N.take P.length=P
 par:∀x∈P,sc.names.lookup x=some .local∨sc.names.lookup x=some .cell
 CN:∀y∈sc.names,y.2≠.free
theorem wV{kindOf:Str→Option NameKind}{x:Str}:∀{binds:List (Str×Value)} {m:Str→Option Value},(∀v,(x,v)∉binds)→bindL kindOf binds m x=m x
 | [],_,_=>rfl
 | (n,v)::r,m,h=>by
  unfold bindL
  rw[wV λw hw=>h w (B7 _ hw)]
  split
  ·have:x≠n:=by rintro rfl;exact h v C4
   simp[this]
  ·rfl
theorem wW{kindOf:Str→Option NameKind}{x:Str}:∀{binds:List (Str×Value)} {m:Str→Option Value},(∀v,(x,v)∉binds)→bindC kindOf binds m x=m x
 | [],_,_=>rfl
 | (n,v)::r,m,h=>by
  unfold bindC
  rw[wW λw hw=>h w (B7 _ hw)]
  split
  ·rfl
  ·have:x≠n:=by rintro rfl;exact h v C4
   simp[this]
theorem wX{kindOf:Str→Option NameKind}{x:Str}{v:Value}:∀{P:List Str} {vs:List Value} {i:Nat} {m:Str→Option Value},P.Nodup→P[i]?=some x→vs[i]?=some v→kindOf x=some .local →
  bindL kindOf (P.zip vs) m x=some v
 | [],_,_,_,_,h,_,_=>by simp at h
 | _::_,[],_,_,_,_,h,_=>by simp at h
 | p::P,w::vs,0,m,nd,h1,h2,hk=>by
  simp at h1 h2;subst h1;subst h2
  show bindL kindOf ((p,w)::P.zip vs) m p=_
  unfold bindL
  rw[wV λv hv=>(J5.mp nd).1 (Q9 hv).1,if_pos hk]
  simp
 | p::P,w::vs,i+1,m,nd,h1,h2,hk=>by
  show bindL kindOf ((p,w)::P.zip vs) m x=_
  unfold bindL
  exact wX (i:=i) (J5.mp nd).2 (by simpa using h1) (by simpa using h2) hk
theorem wY{kindOf:Str→Option NameKind}{x:Str}{v:Value}:∀{P:List Str} {vs:List Value} {i:Nat} {m:Str→Option Value},P.Nodup→P[i]?=some x→vs[i]?=some v→kindOf x≠some .local →
  bindC kindOf (P.zip vs) m x=some v
 | [],_,_,_,_,h,_,_=>by simp at h
 | _::_,[],_,_,_,_,h,_=>by simp at h
 | p::P,w::vs,0,m,nd,h1,h2,hk=>by
  simp at h1 h2;subst h1;subst h2
  show bindC kindOf ((p,w)::P.zip vs) m p=_
  unfold bindC
  rw[wW λv hv=>(J5.mp nd).1 (Q9 hv).1,if_neg hk]
  simp
 | p::P,w::vs,i+1,m,nd,h1,h2,hk=>by
  show bindC kindOf ((p,w)::P.zip vs) m x=_
  unfold bindC
  exact wY (i:=i) (J5.mp nd).2 (by simpa using h1) (by simpa using h2) hk
def start(N:List Str)(vs:List V):St:=vs.map some++F5 (N.length-vs.length) none
def yR(CX:Ks)(P:Program)(w:World)(K:aA)(mg:Str→Option Value)(base:Heap)(N:List Str)(qual:Str)(scope:Scope)(f:Addr)(cd:Value)(A:Around)(outer:List Env)(s:Shared)(H:Hp)(E:XK):Cx where
 prog:=P
 w:=w
 K:=K
 mg:=mg
 base:=base
 A:=A.deeper (envOfC qual scope s.heap.objs.size f cd)
 N:=N
 s₀:=s
 H₀:=H
 env:=envOfC qual scope s.heap.objs.size f cd
 outer:=outer
 stack:=envOfC qual scope s.heap.objs.size f cd::outer
 ex:=[]
 calm:=true
 fn:=λ_=>true
 pn:=[]
 xe:=λe s'=>wpAny (model P w) (A.deeper (envOfC qual scope s.heap.objs.size f cd)) (leaving (envOfC qual scope s.heap.objs.size f cd) e) (λ_ s''=>CX outer H s E e s'') (λe' s''=>CX outer H s E e' s'') s'
theorem Bd{sc:Scope}{n:Nat}{x:Str}(h:sc.names.lookup x=some .cell):∃c,(cellsFrom n sc.names []).lookup x=some c:=by
 have q:=R0 sc.names n [] (.inl h)
 exact Option.isSome_iff_exists.mp q
theorem Ku{CX:Ks}{P:Program}{w:World}{K:aA}{mg:Str→Option Value}{base:Heap}{N ps:List Str}{qual:Str}{scope:Scope}{f:Addr}{cd:Value}{A:Around}{outer:List Env}{s s1:Shared}{H:Hp}{E:XK}{us:List Value}{vs:List V}
  (S:bL N ps scope) (hd:A.handled=none) (e0:Vm P w K mg base A outer s H) (hl:vs.length=ps.length) (r:Vals vs us)
  (x:InCallC s s.heap.objs.size (bindL (envOfC qual scope s.heap.objs.size f cd).kindOf (ps.zip us) λ_=>none) (cellsFrom (s.heap.objs.size+1) scope.names []) (bindC (envOfC qual scope s.heap.objs.size f cd).kindOf (ps.zip us) λ_=>none) s1) :
  Inv (yR CX P w K mg base N qual scope f cd A outer s H E) [] (start N vs) H s1:=by
 have hpl:ps.length≤N.length:=by have:=congrArg List.length S.pre;rw[G0]at this;omega
 obtain⟨h1,tk,rfl,hk⟩:=x.done
 have PX:∀b:Addr,b∉(yR CX P w K mg base N qual scope f cd A outer s H E).ex:=λb z=>absurd (show b∈([]:List Addr)from z) (by simp)
 refine⟨⟨e0.mod,S.kind,rfl,rfl,B6 _,λy z c h1 h2=>?_,λy hy=>?_,λy c _ h=>?_,λ_=>hd,Around.frames_deeper e0.frames,.inr ⟨rfl,rfl⟩,λb z=>absurd z (PX b),e0.bs,e0.Uo,λb _ _=>PX b,λb z=>absurd z (PX b),e0.tL,e0.LQ⟩,
  rfl,e0.bare,Un.kept hk,⟨_,x.toInCall.ns,λi y v h1 h2 h3=>?_⟩,λy c h=>⟨_,x.cell y c h⟩,e0.hok.fresh (B6 _),λy c h=>?_,λp hp=>absurd (show p∈([]:List (Addr×Obj))from hp) (by simp),e0.hok.kept hk,?_⟩
 ·exact name_of_addr x.apart (E3 h1) (E3 h2)
 ·have hy:scope.names.lookup y=some .cell∨scope.names.lookup y=some .free:=hy
  rcases hy with hy | hy
  ·exact Bd hy
  ·exact absurd rfl (S.CN _ (E3 hy))
 ·exact K9 (x.above y c (E3 h))
 ·have hi:i<vs.length:=by
   unfold start at h2
   by_cases hi:i<vs.length
   ·exact hi
   ·rw[M3 (by simpa using hi)]at h2
    rw[Q3]at h2
    split at h2<;>cases h2
  have ha:vs[i]?=some v:=by
   unfold start at h2
   rw[M6 (by simpa using hi),C3]at h2
   cases e:vs[i]? with
   | none=>rw[e]at h2;cases h2
   | some a=>rw[e]at h2;cases h2;rfl
  obtain⟨u,hu,rv⟩:=r.get ha
  have hp:ps[i]?=some y:=by
   rw[←S.pre,List.getElem?_take_of_lt (by omega)];exact h1
  have bw:ps.Nodup:=by rw[←S.pre];exact S.nd.sublist (U0 _ _)
  refine⟨u,rv,?_⟩
  rcases S.par y (E5 hp)with k | k
  ·exact .inl ⟨k,wX bw hp hu k⟩
  ·obtain⟨c,e⟩:=Bd (n:=s.heap.objs.size+1) k
   refine .inr ⟨.inl k,c,e,?_⟩
   have q:=x.cell y c e
   rw[wY bw hp hu (by show scope.names.lookup y≠_;rw[k];decide)]at q
   exact q
 ·exact e0.hok.fresh (K9 (x.above y c (E3 h)))
 ·unfold start
  show _=N.length
  rw[D4,A9,R6]
  omega
theorem QB{CX:Ks}{P:Program}{w:World}{K:aA}{mg:Str→Option Value}{base:Heap}{k:Nat}{f:Addr}{name qual:Str}{params:Arguments}{body:List Stmt}{scope:Scope}{dV kV doc pm cdv ct oc:Value}{an od:Option Addr}
  {osl:Array (Option Value)} {N ps:List Str} {sp:Sp} (lk:K.lookup f=some ⟨oc,od,.func (F7 name qual params body scope dV kV doc pm an cdv ct),osl⟩) (hcd:M0 K cdv qual=true) (S:bL N ps scope)
  (len:∀vs H Q E,sp vs H Q E→vs.length=ps.length)
  (hbody:∀(A:Around)(outer:List Env)(s:Shared)(H:Hp)(vs:List V)(Q:VK)(E:XK),gK k (A.deeper (envOfC qual scope s.heap.objs.size f cdv))→sp vs H Q E →
   ∃t,Dw (yR CX P w K mg base N qual scope f cdv A outer s H E) body t∧t {nx:=λ_ H'=>Q .non H',rt:=Q} (start N vs) H) :
  qP P w K mg base CX (k+1) f (F7 name qual params body scope dV kV doc pm an cdv ct) ps sp:=by
 refine⟨len,λA outer s H args us vs Q E hr e0 hb r hsp=>?_⟩
 have hl:=len _ _ _ _ hsp
 have KX:K.In s.heap:=e0.mod.WQ.keeps λb o e=>(e0.bs b o e).1
 have lim:s.heap.NoLimit:=e0.mod.nolimit.keeps λb o e=>(e0.bs b o e).1
 have hkind:∀y∈ps.zip us,scope.names.lookup y.1=some .local∨(scope.names.lookup y.1=some .cell∧((cellsFrom (s.heap.objs.size+1) scope.names []).lookup y.1).isSome=true):=λ⟨n,v⟩ hy=>by
  rcases S.par n (Q9 hy).1 with q | q
  ·exact .inl q
  ·exact .inr ⟨q,R0 _ _ _ (.inl q)⟩
 refine codeAny_call_function hr.depth (KX _ _ lk) rfl S.co S.gen rfl (PySem.W.codeRec_of KX hcd) (hb _ _ _ _ ?_)
 refine wpAny_newFunctionEnv_cells S.kind hkind λenv he s1 x=>?_
 subst he
 refine⟨lim.keeps x.toInCall.keep,codeAny_func ?_⟩
 obtain⟨t,ht,hq⟩:=hbody A outer s H vs Q E (hr.deeper _) hsp
 have I:Inv (yR CX P w K mg base N qual scope f cdv A outer s H E) [] (start N vs) H s1:=Ku S hr.hd e0 hl r x
 refine wpAny_mono (ht [] s1 (start N vs) H _ I hq) (λfl s' hs=>?_) λe s' hs=>hs
 have fin:∀{σ':St} {H':Hp} {v:V} {u:Value},Inv (yR CX P w K mg base N qual scope f cdv A outer s H E) [] σ' H' s'→RelV v u→Q v H'→CE outer P w H s Q u s':=
  λ{σ' H' v u} J rv q=>⟨v,H',J.os,J.bare,J.base,J.hok,rv,q⟩
 cases fl with
 | ret u=>
  obtain⟨v,σ',H',J,rv,q⟩:=hs
  exact fin J rv q
 | next=>
  obtain⟨σ',H',J,q⟩:=hs
  exact fin (v:=V.non) (u:=Value.none) J rfl q
 | brk=>
  obtain⟨_,_,_,q⟩:=hs
  exact False.elim q
 | cont=>
  obtain⟨_,_,_,q⟩:=hs
  exact False.elim q
end L2
namespace L2
open PySem PySem.Spec PyProof.Rows
section
variable{X:Cx}{x:Str}{p pos:Pos}{e:Expr}{es:List Expr}{t:TA}{id T:String}{r:List V→Hp→VK→Prop}
def Uq(r:List V→Hp→VK→Prop)(t:TA):TE:=λσ H Q=>t σ H λvs H1=>r vs H1 Q
theorem tR(hc:fW X (.builtin id) r)(hg:Gl X x)(hm:X.mg x=none)(hv:bootBuiltins x=some (.builtin id))(ha:PA X (e::es) t)(hn:x ≠ "__name__" := by decide) (hdb:(x==("__debug__" : Str))=false:=by decide)
  (he:starEach (e::es) X.env=(false,eval e X.env)::starEach es X.env:=by rfl) (hpl:(backTo pos (starEach es X.env)).any (·.1)=false:=by rfl):PE X (.Call (.Name x p) (e::es) [] pos) (Uq r t):=by
 intro pins s σ H Q I h
 refine wpAny_Call_Name_kw (kZ I hg hm hv ?_ hn hdb)
 exact N9 (cJ (ha pos pins s σ H _ I h) λus s1 ⟨vs,H1,I1,r1,q1⟩=>hc pins s1 σ H1 vs us Q I1 r1 q1) he hpl
theorem Kv(hc:fW X (.type T) r)(hg:Gl X x)(hm:X.mg x=none)(hv:bootBuiltins x=some (.type T))(ha:PA X (e::es) t)(hn:x ≠ "__name__" := by decide) (hdb:(x==("__debug__" : Str))=false:=by decide)
  (he:starEach (e::es) X.env=(false,eval e X.env)::starEach es X.env:=by rfl) (hpl:(backTo pos (starEach es X.env)).any (·.1)=false:=by rfl):PE X (.Call (.Name x p) (e::es) [] pos) (Uq r t):=by
 intro pins s σ H Q I h
 refine wpAny_Call_Name_kw (kZ I hg hm hv ?_ hn hdb)
 exact I0 (cJ (ha pos pins s σ H _ I h) λus s1 ⟨vs,H1,I1,r1,q1⟩=>hc pins s1 σ H1 vs us Q I1 r1 q1) he hpl
end
end L2
namespace HT
open PySem PyProof.Rows
section
open PySem.SeqAt
open PySem.AutoSeq1 (wpAny_loadPart')
open PySem.MeetsSeq PySem.MeetsSeq2 PySem.MeetsSeq3
end
section
variable{prog:Program}{w:World}{A:Around}{E:Value→Shared→Prop}{s:Shared}
def cN(n d:Nat):Option Int→Nat
 | none=>d
 | some v=>if v<0 then(v+(n:Int)).toNat else min v.toNat n
theorem Vo(n d k:Nat):cN n d (some (k:Int))=min k n:=by
 show (if(k:Int)<0 then((k:Int)+(n:Int)).toNat else min (k:Int).toNat n)=min k n
 rw[if_neg (by omega),D2]
theorem CP(n d:Nat)(hd:d≤n)(o:Option Int):cN n d o≤n:=by
 cases o with
 | none=>exact hd
 | some v=>
  show (if v<0 then(v+(n:Int)).toNat else min v.toNat n)≤n
  by_cases hv:v<0
  ·rw[if_pos hv];omega
  ·rw[if_neg hv];exact Nat.min_le_right _ _
theorem Hr(v:Int)(n d:Nat):(if v<0 then max (v+(n:Int)) 0 else min v (n:Int))=((cN n d (some v):Nat):Int):=by
 show (if v<0 then max (v+(n:Int)) 0 else min v (n:Int))=(((if v<0 then(v+(n:Int)).toNat else min v.toNat n):Nat):Int)
 by_cases hv:v<0
 ·simp only[if_pos hv];omega
 ·simp only[if_neg hv];omega
theorem Eh(lo hi:Option Int)(n:Nat):Builtin.Slice.sliceAdjust lo hi 1 (n:Int)=(((cN n 0 lo:Nat):Int),((cN n n hi:Nat):Int)):=by
 have h1:¬((1:Int)<0):=by omega
 unfold Builtin.Slice.sliceAdjust
 simp only[h1,if_false]
 refine Prod.ext ?_ ?_
 ·cases lo with
  | none=>rfl
  | some v=>exact Hr v n 0
 ·cases hi with
  | none=>rfl
  | some v=>exact Hr v n n
theorem Ei(i j:Nat):Builtin.Slice.slicePlaces (i:Int) (j:Int) 1=j-i:=by
 unfold Builtin.Slice.slicePlaces
 have h1:(1:Int) > 0:=by omega
 simp only[h1,if_true,Int.ediv_one]
 split<;>omega
theorem tU{v:Value}{o:Option Int}{Q:Option Int→Shared→Prop}(p:IsPart v o)(h:Q o s):wpAny (model prog w) A (Builtin.Slice.slicePartIndex v) Q E s:=by
 cases p with
 | none=>exact slicePart_none h
 | int i t=>exact slicePart_int h
theorem jB{sl:Addr}{vl vu:Value}{lo hi:Option Int}{n:Nat}{Q:Int×Int×Nat→Shared→Prop}(hs:s.heap.IsSliceOf sl vl vu .none)(pl:IsPart vl lo)(pu:IsPart vu hi)
  (h:Q (((cN n 0 lo:Nat):Int),1,cN n n hi-cN n 0 lo) s):wpAny (model prog w) A (Builtin.Slice.sliceApplied (.ref sl) (pure (n:Int))) Q E s:=by
 obtain⟨os,hos,hcs,hds⟩:=id hs
 unfold Builtin.Slice.sliceApplied Builtin.Slice.sliceFields
 refine wpAny_bind (wpAny_bind (wpAny_field hos hds (x:=vl) rfl (wpAny_bind (wpAny_field hos hds (x:=vu) rfl (wpAny_bind (wpAny_field hos hds (x:=.none) rfl (wpAny_pure ?_)))))))
 refine wpAny_bind (slicePart_none ?_)
 show wpAny _ _ (if((1:Int)==0)=true then _ else _) _ _ s
 rw[if_neg (by decide)]
 refine wpAny_bind (tU pl (wpAny_bind (tU pu (wpAny_bind (wpAny_pure ?_)))))
 show wpAny _ _ (match Builtin.Slice.sliceAdjust lo hi 1 (n:Int)with | (lo,hi)=>pure (lo,(1:Int),Builtin.Slice.slicePlaces lo hi 1)) _ _ s
 rw[Eh lo hi n]
 show wpAny _ _ (pure (((cN n 0 lo:Nat):Int),(1:Int),Builtin.Slice.slicePlaces ((cN n 0 lo:Nat):Int) ((cN n n hi:Nat):Int) 1)) _ _ s
 rw[Ei]
 exact wpAny_pure h
theorem Ol(xs:Array Value)(i k:Nat):((D3 k).filterMap λ(m:Nat)=>xs[((i:Int)+(m:Int)*1).toNat]?).toArray=((xs.toList.drop i).take k).toArray:=by
 have e:(λ(m:Nat)=>xs[((i:Int)+(m:Int)*1).toNat]?)=λm=>xs[i+m]?:=by
  funext m
  have:((i:Int)+(m:Int)*1).toNat=i+m:=by omega
  rw[this]
 rw[e]
 have:=pick_run xs i k
 rw[List.filterMap_map]at this
 have e2:((λx=>xs[x]?)∘λx=>i+x)=λm=>xs[i+m]?:=rfl
 rw[e2]at this
 rw[this]
theorem pD{t sl:Addr}{items:Array Value}{vl vu:Value}{lo hi:Option Int}{Q:Value→Shared→Prop}(ht:IsTup s.heap t items)(hs:s.heap.IsSliceOf sl vl vu .none)(pl:IsPart vl lo)(pu:IsPart vu hi)
    (hw:¬(cN items.size 0 lo=0∧cN items.size items.size hi=items.size))
    (h:Q (.ref s.heap.objs.size) {s with heap:=s.heap.push {cls:=.type "tuple", data:=.seq ((items.toList.drop (cN items.size 0 lo)).take (cN items.size items.size hi-cN items.size 0 lo)).toArray}})
    (hsz:items.size≤sizeLine):wpAny (model prog w) A (getItem (.ref t) (.ref sl)) Q E s:=by
  have Hs:sizeOk (.seq ((items.toList.drop (cN items.size 0 lo)).take (cN items.size items.size hi-cN items.size 0 lo)).toArray):=by
    show ((items.toList.drop (cN items.size 0 lo)).take (cN items.size items.size hi-cN items.size 0 lo)).toArray.size≤sizeLine
    rw[B3,G0,J8,F2]
    omega
  have hj:cN items.size items.size hi≤items.size:=CP _ _ (B6 _) hi
  obtain⟨os,hos,hcs,hds⟩:=id hs
  have hTs:s.TypeIs (.ref sl) "slice" := ⟨os,hos,hcs⟩
  unfold getItem
  try with_reducible refine wpAny_holding ?_
  first | refine wpAny_bind (wpAny_pure ?_) | skip
  refine wpAny_bind (wpAny_sequenceKey ht.typeIs (by decide) ?_)
  refine wpAny_bind (wpAny_callSpecial?_slot (name:=Str.ofString "__getitem__") ht.typeIs F4
    (wpAny_call_entry F4 ht.typeIs entry_tuple_getitem ?_ (args_tuple_getitem _ _)))
  show wpAny _ _ (Builtin.Tuple.tupleItemsOf (.ref t) >>= _) _ _ s
  refine wpAny_bind (tupleItemsOf_ ht ?_)
  refine wpAny_bind (wpAny_typeOf hTs ?_)
  rw[if_pos (by decide)]
  refine wpAny_bind (jB hs pl pu ?_)
  have hno:¬((((cN items.size 0 lo:Nat):Int)==0&&(1:Int)==1&&(cN items.size items.size hi-cN items.size 0 lo)==items.size)=true):=by
    intro q
    rw[D5,D5]at q
    have q1:((cN items.size 0 lo:Nat):Int)=0:=eq_of_beq q.1.1
    have q2:cN items.size items.size hi-cN items.size 0 lo=items.size:=eq_of_beq q.2
    exact hw ⟨by omega,by omega⟩
  show wpAny _ _ (if(((cN items.size 0 lo:Nat):Int)==0&&(1:Int)==1&&(cN items.size items.size hi-cN items.size 0 lo)==items.size)=true then _ else _) _ _ s
  rw[if_neg hno,Ol]
  first
    | exact wpAny_bind (m:=Builtin.Tuple.tupleExact _) (wpAny_newObj_type (wpAny_pure ⟨_,rfl,wpAny_pure h⟩) Hs)
    | exact wpAny_bind (m:=Builtin.Tuple.tupleExact _) (wpAny_newObj_type (wpAny_bind (wpAny_pure (wpAny_pure ⟨_,rfl,wpAny_pure h⟩))) Hs)
    | exact wpAny_bind (wpAny_bind (m:=Builtin.Tuple.tupleExact _) (wpAny_newObj_type (wpAny_pure (wpAny_pure ⟨_,rfl,wpAny_pure h⟩)) Hs))
    | exact wpAny_bind (wpAny_bind (m:=Builtin.Tuple.tupleExact _) (wpAny_newObj_type (wpAny_pure ⟨_,rfl,wpAny_pure h⟩) Hs))
end
end HT
namespace L2
open PySem PySem.Spec PyProof.Rows
abbrev TO:=St→Hp→(Option Int→Hp→Prop)→Prop
def PO(X:Cx)(e:Option Expr)(t:TO):Prop:=
 ∀(pins:List (Addr×Obj))(s:Shared)(σ:St)(H:Hp)(Q:Option Int→Hp→Prop),Inv X pins σ H s→t σ H Q →
  wpAny (model X.prog X.w) X.A (evalPart e X.env) (λu s'=>∃o H',Inv X pins σ H' s'∧IsPart u o∧Q o H') X.xe s
def Ht:TO:=λ_ H Q=>Q none H
def Ym(t:TE):TO:=λσ H Q=>t σ H λx H1=>∃i,x=.int i∧Q (some i) H1
theorem intsAre_of{ns:List Int}:∀{us:List Value},Vals (ns.map V.int) us→IntsAre us ns:=by
 induction ns with
 | nil=>intro us r;rw[E9]at r;cases r;exact .nil
 | cons n ns ih=>
  intro us r
  rw[C5]at r
  cases r with
  | cons r1 r2=>
   obtain⟨t,e⟩:=r1
   subst e
   exact .cons n t (ih r2)
section
variable{X:Cx}{e:Expr}{te:TE}{lo hi:Option Expr}{tl th:TO}{pos p2:Pos}
theorem Vp:PO X none Ht:=by
 intro pins s σ H Q I h
 rw[evalPart_none]
 exact wpAny_pure ⟨none,H,I,.none,h⟩
theorem Vq(h:PE X e te):PO X (some e) (Ym te):=by
 intro pins s σ H Q I hw
 rw[evalPart_some]
 refine cJ (h pins s σ H _ I hw) λu s1 ⟨x,H1,I1,r1,q1⟩=>?_
 obtain⟨i,rfl,q⟩:=q1
 obtain⟨t,rfl⟩:=r1
 exact⟨some i,H1,I1,.int i t,q⟩
def QC(X:Cx)(r:V→Option Int→Option Int→Hp→VK→Prop):Prop:=
 ∀(pins:List (Addr×Obj))(s:Shared)(σ:St)(H:Hp)(x:V)(v vl vu:Value)(lo hi:Option Int)(sl:Addr)(Q:VK),Inv X pins σ H s→RelV x v→s.heap.IsSliceOf sl vl vu .none→IsPart vl lo→IsPart vu hi→r x lo hi H Q →
  ∃T id,typeLookup (.type T) "__getitem__" = pure (some (.builtin id))∧s.TypeIs v T∧wpAny (model X.prog X.w) X.A (getItem v (.ref sl)) (EP X pins σ Q) X.xe s
def VB(r:V→Option Int→Option Int→Hp→VK→Prop)(te:TE)(tl th:TO):TE:=λσ H Q=>te σ H λx H1=>tl σ H1 λl H2=>th σ H2 λu H3=>r x l u H3 Q
theorem tV{r:V→Option Int→Option Int→Hp→VK→Prop}(hr:QC X r)(he:PE X e te)(hl:PO X lo tl)(hu:PO X hi th):PE X (.Subscript e (.Slice lo hi none p2) pos) (VB r te tl th):=by
 intro pins s σ H Q I h
 refine Subscript_ (cJ (he pins s σ H _ I h) λv s1 ⟨x,H1,I1,r1,q1⟩=>?_)
 refine wpAny_Slice (cJ (hl pins s1 σ H1 _ I1 q1) λvl s2 ⟨l,H2,I2,pl,q2⟩=>cJ (hu pins s2 σ H2 _ I2 q2) λvu s3 ⟨u,H3,I3,pu,q3⟩=>?_)
 rw[evalPart_none]
 refine wpAny_pure ?_
 have I4:Inv X pins σ H3 {s3 with heap:=s3.heap.push {cls:=.type "slice", data:=.fields #[vl,vu,.none]}}:=I3.kept (t':=s3.toks) λb ob q=>Heap.get?_push_of_some _ q
 obtain⟨T,id,hT,ht,hg⟩:=hr pins {s3 with heap:=s3.heap.push {cls:=.type "slice", data:=.fields #[vl,vu,.none]}} σ H3 x v vl vu l u s3.heap.objs.size Q I4 r1 (Heap.IsSliceOf.new ..) pl pu q3
 show wpAny (model X.prog X.w) X.A (subscriptTail e (.Slice lo hi none p2) v (.ref s3.heap.objs.size)) (EP X pins σ Q) X.xe {s3 with heap:=s3.heap.push {cls:=.type "slice", data:=.fields #[vl,vu,.none]}}
 exact tail_any (ops:=[.ref s3.heap.objs.size,v]) ht hT hg (by with_unfolding_all rfl)
def tW(xs:List V)(lo hi:Option Int):List V:=(xs.drop (HT.cN xs.length 0 lo)).take (HT.cN xs.length xs.length hi-HT.cN xs.length 0 lo)
theorem rR(xs:List V)(lo hi:Option Int):(tW xs lo hi).length≤xs.length:=by
 unfold tW
 rw[G0,J8]
 omega
def XQ(K:aA):V→Option Int→Option Int→Hp→VK→Prop:=λx lo hi H Q=>∃a xs,x=.ref a∧jP K H a xs ∧
 ¬(HT.cN xs.length 0 lo=0∧HT.cN xs.length xs.length hi=xs.length)∧∀p,H p=none→Q (.ref p) (upd H p (.tup (tW xs lo hi)))
theorem CQ:QC X (XQ X.K):=by
 intro pins s σ H x v vl vu lo hi sl Q I rx hs pl pu h
 obtain⟨a,xs,rfl,hx,hw,q⟩:=h
 cases rx
 obtain⟨its,r,ht,hz⟩:=I.tuple hx
 have hlen:its.toArray.size=xs.length:=by rw[B3];exact r.length.symm
 refine⟨"tuple", _,F4.lookup,ht.typeIs,?_⟩
 refine HT.pD ht hs pl pu (by rw[hlen];exact hw) ?_ (by rw[hlen];exact hz)
 rw[hlen]
 refine⟨.ref s.heap.objs.size,_,I.laid (t':=s.toks) (o:=.tup (tW xs lo hi)) (λb ob q=>Heap.get?_push_of_some _ q) (B6 _) ?_,rfl,q _ (I.hok.fresh (B6 _))⟩
 exact⟨C7 (rR xs lo hi) hz,_,(r.drop (HT.cN xs.length 0 lo)).take (HT.cN xs.length xs.length hi-HT.cN xs.length 0 lo),IsTup.new _ _⟩
end
end L2
namespace L2
open PySem PySem.Spec PyProof.Rows
def Kw(n:Nat)(i:Int):Option Nat:=if 0≤i then(if i<n then some i.toNat else none)else if -(n:Int)≤i then some (i+n).toNat else none
def Hu{α:Type}(xs:List α)(i:Int):Option α:=(Kw xs.length i).bind λj=>xs[j]?
theorem Hv{n:Nat}{i:Int}{j:Nat}(h:Kw n i=some j):seqIndex? i n=some j∧j<n∧-(n:Int)≤i∧i<n:=by
 unfold Kw at h
 by_cases h0:0≤i
 ·rw[if_pos h0]at h
  by_cases h1:i<n
  ·rw[if_pos h1]at h
   have e:i.toNat=j:=E4 h
   exact⟨by rw[seqIndex_of h0 h1,e],by omega,by omega,h1⟩
  ·rw[if_neg h1]at h;cases h
 ·rw[if_neg h0]at h
  by_cases h1:-(n:Int)≤i
  ·rw[if_pos h1]at h
   have e:(i+n).toNat=j:=E4 h
   exact⟨by rw[seqIndex_neg (by omega) h1,e],by omega,h1,by omega⟩
  ·rw[if_neg h1]at h;cases h
theorem yS{α:Type}{xs:List α}{i:Int}{v:α}(h:Hu xs i=some v):∃j,seqIndex? i xs.length=some j∧xs[j]?=some v∧j<xs.length∧-(xs.length:Int)≤i∧i<xs.length:=by
 unfold Hu at h
 cases e:Kw xs.length i with
 | none=>rw[e]at h;cases h
 | some j=>
  rw[e]at h
  obtain⟨h1,h2,h3,h4⟩:=Hv e
  exact⟨j,h1,h,h2,h3,h4⟩
theorem Vr{α:Type}{xs:List α}{j:Nat}{v:α}(h:xs[j]?=some v):Hu xs (j:Int)=some v:=by
 have hj:j<xs.length:=(B9.mp h).1
 have e:Kw xs.length (j:Int)=some j:=by
  unfold Kw
  rw[if_pos (by omega),if_pos (by omega)];simp
 unfold Hu;rw[e];exact h
def pF(b:Expr):Prop:=∀o i,subscripted b false o i=operate [o,i] (getItem o i)
def Ur(X:Cx)(r:R2):Prop:=
 ∀(value slice:Expr)(pins:List (Addr×Obj))(s:Shared)(σ:St)(H:Hp)(x y:V)(v u:Value)(Q:VK),Inv X pins σ H s→RelV x v→RelV y u→r x y H Q →
  subscripted slice false v u=operate [v,u] (getItem v u)→wpAny (model X.prog X.w) X.A (subscriptTail value slice v u) (EP X pins σ Q) X.xe s
def cg(X:Cx)(id:String)(r:V→List V→Hp→VK→Prop):Prop:=
 ∀(pins:List (Addr×Obj))(s:Shared)(σ:St)(H:Hp)(x:V)(xs:List V)(v:Value)(us:List Value)(Q:VK),Inv X pins σ H s→RelV x v→Vals xs us→r x xs H Q →
  wpAny (model X.prog X.w) X.A (call (.builtin id) (v::us)) (EP X pins σ Q) X.xe s
section
variable{X:Cx}{a b:Expr}{ta tb:TE}{pos:Pos}
theorem Ur.or{r r':R2}(h:Ur X r)(h':Ur X r'):Ur X (λx y H Q=>r x y H Q∨r' x y H Q):=by
 intro value slice pins s σ H x y v u Q I rx ry q hs
 rcases q with q | q
 ·exact h value slice pins s σ H x y v u Q I rx ry q hs
 ·exact h' value slice pins s σ H x y v u Q I rx ry q hs
theorem Hw{r:R2}(hr:Ur X r)(ha:PE X a ta)(hb:PE X b tb)(hs:pF b):PE X (.Subscript a b pos) (wB r ta tb):=by
 intro pins s σ H Q I h
 exact Subscript_ (BP ha hb I h λv u s2 x y H2 I2 rx ry q=>hr a b pins s2 σ H2 x y v u Q I2 rx ry q (hs _ _))
def QD(K:aA):R2:=λx y H Q=>∃p xs i v,x=.ref p∧y=.int i∧iM K H p xs∧Hu xs i=some v∧Q v H
def QF(K:aA):R2:=λx y H Q=>∃p xs i v,x=.ref p∧y=.int i∧jP K H p xs∧Hu xs i=some v∧Q v H
def QG:R2:=λx y H Q=>∃z i c,x=.str z∧y=.int i∧z.length≤sizeLine∧Hu z.cps.toList i=some c∧Q (.str ⟨#[c]⟩) H
theorem Vs:Ur X (QD X.K):=by
 intro value slice pins s σ H x y v u Q I rx ry h hs
 obtain⟨p,xs,i,z,rfl,rfl,hq,he,q⟩:=h
 cases rx
 obtain⟨t,rfl⟩:=ry
 obtain⟨its,r,pl,hz⟩:=I.list hq
 obtain⟨j,h1,h2,h3,h4,h5⟩:=yS he
 obtain⟨w,ew,Om⟩:=r.get h2
 have hl:=r.length
 have hn:=tQ
 have fin:EP X pins σ Q w s:=⟨z,H,I,Om,q⟩
 by_cases h0:0≤i
 ·have hj:i.toNat=j:=by
   rw[seqIndex_of h0 h5]at h1
   exact E4 h1
  exact item_listR pl.isList h0 (by omega) (by rw[hj];simpa using ew) fin hs
 ·have hj:(i+(its.toArray.size:Int)).toNat=j:=by
   rw[seqIndex_neg (by omega) h4]at h1
   rw[B3,←hl]
   exact E4 h1
  exact subscriptTail_builtinR (x:=w) pl.isList.typeIs slot_list_getitem.lookup
   (wpAny_getItem_list_neg (Q:=λr s'=>r=w∧EP X pins σ Q r s') pl.isList (by omega) (by rw[B3]<;>omega) (by omega) (by rw[hj];simpa using ew) ⟨rfl,fin⟩) hs
theorem CT:Ur X (QF X.K):=by
 intro value slice pins s σ H x y v u Q I rx ry h hs
 obtain⟨p,xs,i,z,rfl,rfl,hq,he,q⟩:=h
 cases rx
 obtain⟨t,rfl⟩:=ry
 obtain⟨its,r,pl,hz⟩:=I.tuple hq
 obtain⟨j,h1,h2,h3,h4,h5⟩:=yS he
 obtain⟨w,ew,Om⟩:=r.get h2
 have hl:=r.length
 have hn:=tQ
 have fin:EP X pins σ Q w s:=⟨z,H,I,Om,q⟩
 exact subscriptTail_builtinR (x:=w) pl.typeIs slot_tuple_getitem.lookup
  (getItem_tuple (j:=j) (Q:=λr s'=>r=w∧EP X pins σ Q r s') pl (by omega) (by omega) (by rw[B3,←hl];exact h1) (by simpa using ew) ⟨rfl,fin⟩) hs
theorem CV:Ur X QG:=by
 intro value slice pins s σ H x y v u Q I rx ry h hs
 obtain⟨z,i,c,rfl,rfl,hz,he,q⟩:=h
 obtain⟨t,rfl⟩:=rx
 obtain⟨t',rfl⟩:=ry
 obtain⟨j,h1,h2,h3,h4,h5⟩:=yS he
 have hl:z.cps.toList.length=z.length:=by simp[Str.length]
 rw[hl]at h1 h4 h5
 have hn:=tQ
 exact tail_any (typeIs_str s z t) slot_str_getitem.lookup (getItem_str (c:=c) (by
  have e1:decide (i < -(2 ^ 63:Int))=false:=decide_eq_false (by omega)
  have e2:decide (i≥2 ^ 63)=false:=decide_eq_false (by omega)
  rw[e1,e2,S7]) (by rw[h1];simpa using h2) ⟨.str ⟨#[c]⟩,H,I.tok _,⟨_,rfl⟩,q⟩) hs
def Yn(K:aA):R2:=λx y H Q=>QD K x y H Q∨QF K x y H Q∨QG x y H Q
theorem CW:Ur X (Yn X.K):=Vs.or (CT.or CV)
theorem Ej(its:List Value)(n j:Nat)(u:Value):Obj.mapSeq (·.setIfInBounds j u) {cls:=.type "list", data:=.seq its.toArray n}={cls:=.type "list", data:=.seq (its.set j u).toArray n}:=by
 simp[Obj.mapSeq]
theorem Inv.lst{pins:List (Addr×Obj)}{σ:St}{H:Hp}{s:Shared}{p:Addr}{xs:List V}(I:Inv X pins σ H s)(h:H p=some (.lst xs)) :
  ∃(its:List Value)(n:Nat),Vals xs its∧s.heap.get? p=some {cls:=.type "list", data:=.seq its.toArray n}∧xs.length≤sizeLine:=by
 obtain⟨z,its,n,r,e⟩:=I.hok p _ h
 exact⟨its,n,r,e,z⟩
theorem Inv.CZ{pins:List (Addr×Obj)}{σ:St}{H:Hp}{s:Shared}{p:Addr}{xs ys:List V}{its its':List Value}{n n':Nat}{f:Obj→Obj}(I:Inv X pins σ H s)(h:H p=some (.lst xs))
  (ho:s.heap.get? p=some {cls:=.type "list", data:=.seq its.toArray n}) (hf:f {cls:=.type "list", data:=.seq its.toArray n}={cls:=.type "list", data:=.seq its'.toArray n'}) (r:Vals ys its') (hz:ys.length≤sizeLine) (t:Nat) :
  Inv X pins σ (upd H p (.lst ys)) {s with heap:=s.heap.update p f,toks:=t}:=by
 have e:(s.heap.update p f).get? p=some {cls:=.type "list", data:=.seq its'.toArray n'}:=by
  rw[Heap.get?_update_self f ho (by rw[hf]<;>rfl),hf]
 refine I.write (x:=p) (e:=p) (by rw[h];trivial) (.inl rfl) (λb u hb q=>(Heap.get?_update_other _ _ (Ne.symm hb)).trans q) ⟨_,e⟩ ?_
 exact⟨hz,its',n',r,e⟩
def tX:V→V→V→Hp→(Hp→Prop)→Prop:=λo i v H Q=>∃p xs k j,o=.ref p∧i=.int k∧H p=some (.lst xs)∧Kw xs.length k=some j∧Q (upd H p (.lst (xs.set j v)))
theorem set_list:NZ X tX:=by
 intro pins s σ H o i v ov iv u Q I ro ri rv h
 obtain⟨p,xs,k,j,rfl,rfl,hp,hj,q⟩:=h
 cases ro
 obtain⟨t,rfl⟩:=ri
 obtain⟨its,n,r,ho,hz⟩:=I.lst hp
 obtain⟨h1,h2,h3,h4⟩:=Hv hj
 have hl:=r.length
 have hn:=tQ
 have I':Inv X pins σ (upd H p (.lst (xs.set j v))) {s with heap:=s.heap.update p (Obj.mapSeq (·.setIfInBounds j u))}:=
  I.CZ hp ho (Ej its n j u) (r.set rv j) (by rw[M7];exact hz) s.toks
 by_cases h0:0≤k
 ·have hk:k.toNat=j:=by
   rw[seqIndex_of h0 h4]at h1
   exact E4 h1
  exact PySem.W.ki_setAt ho h0 (by omega) (by rw[B3,←hl];exact h4) (by rw[hk];exact⟨_,I',q⟩)
 ·have hk:(k+(its.toArray.size:Int)).toNat=j:=by
   rw[seqIndex_neg (by omega) h3]at h1
   rw[B3,←hl]
   exact E4 h1
  exact PySem.W.ki_setBack ho (by omega) (by rw[B3,←hl];exact h3) (by omega) (by rw[hk];exact⟨_,I',q⟩)
theorem yU(lo hi:Option Int)(n:Nat):(sliceBounds lo hi none n).1=((HT.cN n 0 lo:Nat):Int)∧(sliceBounds lo hi none n).2.1=((HT.cN n n hi:Nat):Int)∧(sliceBounds lo hi none n).2.2=1:=by
 refine⟨?_,?_,rfl⟩
 ·cases lo with
  | none=>simp[sliceBounds,HT.cN]
  | some i=>
   simp only[sliceBounds,HT.cN,V1,show (1:Int) > 0 by decide,if_true]
   by_cases h:i<0
   ·simp only[h,if_true]<;>omega
   ·simp only[h,if_false]<;>omega
 ·cases hi with
  | none=>simp[sliceBounds,HT.cN]
  | some i=>
   simp only[sliceBounds,HT.cN,V1,show (1:Int) > 0 by decide,if_true]
   by_cases h:i<0
   ·simp only[h,if_true]<;>omega
   ·simp only[h,if_false]<;>omega
theorem wG(its:List Value)(lo hi:Option Int):slicePick its.toArray lo hi none=((its.drop (HT.cN its.length 0 lo)).take (HT.cN its.length its.length hi-HT.cN its.length 0 lo)).toArray:=by
 obtain⟨h1,h2,h3⟩:=yU lo hi its.toArray.size
 unfold slicePick
 rw[h1,h2,h3]
 simp only[sliceRange_one,pick_run,B3]<;>rfl
def Vt(K:aA):V→Option Int→Option Int→Hp→VK→Prop:=λx lo hi H Q=>∃a xs,x=.ref a∧iM K H a xs∧∀p,H p=none→Q (.ref p) (upd H p (.lst (tW xs lo hi)))
theorem Vu:QC X (Vt X.K):=by
 intro pins s σ H x v vl vu lo hi sl Q I rx hs pl pu h
 obtain⟨a,xs,rfl,hx,q⟩:=h
 cases rx
 obtain⟨its,r,ht,hz⟩:=I.list hx
 have hlen:=r.length
 refine⟨"list", _,slot_list_getitem.lookup,ht.isList.typeIs,?_⟩
 refine wpAny_getItem_list_slice ht.isList hs pl pu .none (by simp) ?_ (by rw[B3]<;>omega)
 rw[wG,←hlen]
 refine⟨.ref s.heap.objs.size,_,I.laid (t':=s.toks) (o:=.lst (tW xs lo hi)) (λb ob q=>Heap.get?_push_of_some _ q) (B6 _) ?_,rfl,q _ (I.hok.fresh (B6 _))⟩
 exact⟨C7 (rR xs lo hi) hz,_,0,(r.drop (HT.cN xs.length 0 lo)).take (HT.cN xs.length xs.length hi-HT.cN xs.length 0 lo),Heap.get?_push_size _ rfl⟩
def VD:V→V→Bool
 | .non,.non=>true
 | .bl a,.bl b=>a==b
 | .bl a,.int b=>(if a then 1 else 0)==b
 | .int a,.bl b=>a==(if b then 1 else 0)
 | .int a,.int b=>a==b
 | .str a,.str b=>a==b
 | _,_=>false
def qp(x:V)(u:Value):Bool:=match u with
 | .none=>VD .non x
 | .bool b=>VD (.bl b) x
 | .int i _=>VD (.int i) x
 | .str z _=>VD (.str z) x
 | _=>false
theorem yV:fW X (.builtin "len") (λxs H Q=>∃p ys,xs=[.ref p]∧(iM X.K H p ys∨jP X.K H p ys)∧Q (.int ys.length) H):=by
 intro pins s σ H xs us Q I r h
 obtain⟨p,ys,rfl,hq,q⟩:=h
 obtain⟨u,rfl,rx⟩:=vals1 r
 cases rx
 have hn:=tQ
 rcases hq with hq | hq
 ·obtain⟨its,r',pl,hz⟩:=I.list hq
  have hlen:=r'.length
  exact Calls.call_len_list pl.isList (by simp only[B3]<;>omega) ⟨.int ys.length,H,I.tok _,⟨s.toks+1,by rw[B3,hlen]⟩,q⟩
 ·obtain⟨its,r',pl,hz⟩:=I.tuple hq
  have hlen:=r'.length
  exact len_tuple pl (by simp only[B3]<;>omega) ⟨.int ys.length,H,I.tok _,⟨s.toks+1,by rw[B3,hlen]⟩,q⟩
theorem yW:fW X (.type "list") (λxs H Q=>∃p ys,xs=[.ref p]∧(iM X.K H p ys∨jP X.K H p ys)∧∀l,H l=none→Q (.ref l) (upd H l (.lst ys))):=by
 intro pins s σ H xs us Q I r h
 obtain⟨p,ys,rfl,hq,q⟩:=h
 obtain⟨u,rfl,rx⟩:=vals1 r
 cases rx
 have fin:∀(its:List Value),Vals ys its→ys.length≤sizeLine→∀(h':Heap)(c':Nat),(∀b o',s.heap.get? b=some o'→h'.get? b=some o') →
   h'.get? s.heap.objs.size=some {cls:=.type "list", dict:=none,data:=.seq its.toArray c',slots:=#[]}→EP X pins σ Q (.ref s.heap.objs.size) {s with heap:=h'}:=λits r' hz h' c' kp e=>
  ⟨.ref s.heap.objs.size,_,I.laid (t':=s.toks) kp (B6 _) (show bW X.prog X.w _ h' _ (.lst ys)from⟨hz,its,c',r',e⟩),rfl,q _ (I.hok.fresh (B6 _))⟩
 rcases hq with hq | hq
 ·obtain⟨its,r',pl,hz⟩:=I.list hq
  have hlen:=r'.length
  obtain⟨o,ho,hc,n,hd⟩:=pl.isList
  exact call_list_seq p (.inl rfl) ho hc hd (λh' c' kp e=>fin its r' hz h' c' kp e) (by simp only[B3]<;>omega)
 ·obtain⟨its,r',pl,hz⟩:=I.tuple hq
  have hlen:=r'.length
  obtain⟨o,ho,hc,n,hd⟩:=pl
  exact call_list_seq p (.inr rfl) ho hc hd (λh' c' kp e=>fin its r' hz h' c' kp e) (by simp only[B3]<;>omega)
theorem wH:fW X (.type "tuple") (λxs H Q=>∃p ys,xs=[.ref p]∧((iM X.K H p ys∧∀l,H l=none→Q (.ref l) (upd H l (.tup ys)))∨(jP X.K H p ys∧Q (.ref p) H))):=by
 intro pins s σ H xs us Q I r h
 obtain⟨p,ys,rfl,h⟩:=h
 obtain⟨u,rfl,rx⟩:=vals1 r
 cases rx
 rcases h with ⟨hq,q⟩ | ⟨hq,q⟩
 ·obtain⟨its,r',pl,hz⟩:=I.list hq
  have hlen:=r'.length
  refine call_tuple_list pl.isList (λh' kp=>?_) (by simp only[B3]<;>omega)
  have I1:Inv X pins σ H {s with heap:=h'}:=I.kept (t':=s.toks) kp
  have I2:Inv X pins σ (upd H h'.objs.size (.tup ys)) {s with heap:=h'.push {cls:=.type "tuple", data:=.seq its.toArray}}:=
   I1.laid (t':=s.toks) (λb o e=>Heap.get?_push_of_some _ e) (B6 _) (show bW X.prog X.w _ _ _ (.tup ys)from⟨hz,its,r',IsTup.new _ _⟩)
  exact⟨.ref h'.objs.size,_,I2,rfl,q _ (I1.hok.fresh (B6 _))⟩
 ·obtain⟨its,r',pl,hz⟩:=I.tuple hq
  exact call_tuple_same pl ⟨.ref p,H,I,rfl,q⟩
def XS(K:aA)(T:String)(x:V)(H:Hp):Prop:=match x with
 | .str _=>T = "str"
 | .int _=>T = "int"
 | .ref p=>(T = "list" ∧ ∃xs,iM K H p xs)∨(T = "tuple" ∧ ∃o,K.lookup p=some o∧o.cls=.type "tuple" ∧ o.dict=none) ∨
   (T = "dict" ∧ ((∃kvs,H p=some (.dK kvs))∨∃kvs,H p=some (.dT kvs)))∨(T = "set" ∧ ∃S n,H p=some (.set S n))
 | _=>False
theorem Oo{pins:List (Addr×Obj)}{σ:St}{H:Hp}{s:Shared}{T:String}{x:V}{v:Value}(I:Inv X pins σ H s)(r:RelV x v)(ty:XS X.K T x H) :
  s.TypeIs v T∧∀a,v=.ref a→∃ob,s.heap.get? a=some ob∧ob.dict=none:=by
 cases x with
 | str z=>
  obtain⟨t,rfl⟩:=r
  cases(show T = "str" from ty)
  exact⟨typeIs_str s z t,λ_ e=>nomatch e⟩
 | int i=>
  obtain⟨t,rfl⟩:=r
  cases(show T = "int" from ty)
  exact⟨typeIs_int s i t,λ_ e=>nomatch e⟩
 | ref p=>
  cases r
  rcases ty with ⟨rfl,xs,hq⟩ | ⟨rfl,o,hk,hc,hd⟩ | ⟨rfl,hk⟩ | ⟨rfl,S,n,hk⟩
  ·obtain⟨its,_,pl,_⟩:=I.list hq
   refine⟨pl.isList.typeIs,λa e=>?_⟩
   cases e
   obtain⟨o,n,e,c,hd,_⟩:=pl
   exact⟨o,e,hd⟩
  ·refine⟨⟨o,I.yO p o hk,hc⟩,λa e=>?_⟩
   cases e
   exact⟨o,I.yO _ o hk,hd⟩
  ·have z:∃o,s.heap.get? p=some o∧o.ExactDict:=by
    rcases hk with ⟨kvs,hk⟩ | ⟨kvs,hk⟩
    ·obtain⟨_,_,_,_,o,_,_,e,ex,_⟩:=I.hok p _ hk
     exact⟨o,e,ex⟩
    ·obtain⟨_,_,_,_,o,_,_,e,ex,_⟩:=I.hok p _ hk
     exact⟨o,e,ex⟩
   obtain⟨o,e,ex⟩:=z
   refine⟨⟨o,e,ex.1⟩,λa e2=>?_⟩
   cases e2
   exact⟨o,e,ex.2.1⟩
  ·obtain⟨o,_,_,_,e,ex,_⟩:=I.hok p _ hk
   refine⟨⟨o,e,ex.1⟩,λa e2=>?_⟩
   cases e2
   exact⟨o,e,ex.2.1⟩
 | _=>exact False.elim ty
def Vv(K:aA)(T:String)(r:V→List V→Hp→VK→Prop)(to:TE):TE:=λσ H Q=>to σ H λx H1=>XS K T x H1∧r x [] H1 Q
def VF(K:aA)(T:String)(r:V→List V→Hp→VK→Prop)(to:TE)(t:TA):TE:=λσ H Q=>to σ H λx H1=>XS K T x H1∧t σ H1 λxs H2=>r x xs H2 Q
variable{o e:Expr}{es:List Expr}{to:TE}{t:TA}{name:Str}{apos cpos:Pos}{T id:String}{r:V→List V→Hp→VK→Prop}
theorem DG(pa:PlainAttrs T)(slot:Slot T name id)(hty:typeOf (.builtin id)=pure (.type "method_descriptor")) (hm:cg X id r) (ho:PE X o to)
  (hbase:attributeBase o name X.env (eval o X.env)=eval o X.env:=by rfl) (hline:(apos.endLine==cpos.line)=true:=by rfl):PE X (.Call (.Attribute o name apos) [] [] cpos) (Vv X.K T r to):=by
 intro pins s σ H Q I h
 refine wpAny_Call_method0_late hbase hline (cJ (ho pins s σ H _ I h) λv s1 ⟨x,H1,I1,r1,ty,q1⟩=>?_)
 obtain⟨h1,h2⟩:=Oo I1 r1 ty
 exact⟨T,id,pa,slot,hty,h1,h2,Calls.callWith_builtin rfl (PySem.evalArgs_none (hm pins s1 σ H1 x [] v [] Q I1 r1 .nil q1))⟩
theorem Oq(pa:PlainAttrs T)(slot:Slot T name id)(hty:typeOf (.builtin id)=pure (.type "method_descriptor")) (hm:cg X id r) (ho:PE X o to) (ha:PA X (e::es) t)
  (hbase:attributeBase o name X.env (eval o X.env)=eval o X.env:=by rfl)
  (hfew:((backTo cpos (starEach (e::es) X.env)).all (λx=>!x.1)&&(backToKw cpos (keywordEach [] X.env)).all (λx=>x.1.isSome)
   && decide ((e::es).length+([]:List Keyword).length+(if([]:List Keyword).isEmpty then 0 else 1)<30))=true:=by rfl)
  (hline:(apos.endLine==cpos.line)=true:=by rfl) (hs:starEach (e::es) X.env=(false,eval e X.env)::starEach es X.env:=by rfl) (hplain:(backTo cpos (starEach es X.env)).any (·.1)=false:=by rfl) :
  PE X (.Call (.Attribute o name apos) (e::es) [] cpos) (VF X.K T r to t):=by
 intro pins s σ H Q I h
 refine wpAny_Call_method_late hbase hfew hline rfl (cJ (ho pins s σ H _ I h) λv s1 ⟨x,H1,I1,r1,ty,q1⟩=>?_)
 obtain⟨h1,h2⟩:=Oo I1 r1 ty
 refine⟨T,id,pa,slot,hty,h1,h2,?_⟩
 have hA:=ha cpos pins s1 σ H1 _ I1 q1
 rw[hs]at hA ⊢
 refine Calls.callWith_builtin (by show (false||(backTo cpos (starEach es X.env)).any (·.1))=false;rw[hplain]<;>rfl) (Calls.evalArgs_plain ?_)
 exact cJ hA λus s2 ⟨vs,H2,I2,r2,q2⟩=>hm pins s2 σ H2 x vs v us Q I2 r1 r2 q2
end
end L2
namespace L2
open PySem PySem.Spec PyProof.Rows
def cj(X:Cx)(id:String)(r:V→List V→Hp→VK→Prop):Prop:=
 ∀(pins:List (Addr×Obj))(s:Shared)(σ:St)(H:Hp)(x:V)(xs:List V)(v:Value)(us:List Value)(Q:VK),Inv X pins σ H s→RelV x v→Vals xs us→r x xs H Q →
  wpAny (model X.prog X.w) X.A (call (.builtin id) (v::us)) (EP X pins σ Q) X.xe s
theorem Vals.one:∀{x:V} {us:List Value},Vals [x] us→∃u,us=[u]∧RelV x u
 | _,_,.cons r .nil=>⟨_,rfl,r⟩
theorem Vals.zero:∀{us:List Value},Vals [] us→us=[]
 | _,.nil=>rfl
section
variable{X:Cx}{pins:List (Addr×Obj)}{σ:St}{H:Hp}{s:Shared}{l b:Addr}{xs ys zs:List V}
theorem Inv.QH{its its':List Value}{n:Nat}{f:Array Value→Array Value}{t':Nat}(I:Inv X pins σ H s)(hH:H l=some (.lst xs))
  (e:s.heap.get? l=some {cls:=.type "list", data:=.seq its.toArray n}) (hf:f its.toArray=its'.toArray) (hv:Vals ys its') (hz:ys.length≤sizeLine) :
  Inv X pins σ (upd H l (.lst ys)) {s with heap:=s.heap.update l (Obj.mapSeq f),toks:=t'}:=by
 have q:=PySem.IsL.update e f
 rw[hf]at q
 refine I.write (x:=l) (e:=l) (by rw[hH];exact trivial) (.inl rfl) (λb' u hb hu=>(Heap.get?_update_other s.heap (Obj.mapSeq f) (Ne.symm hb)).trans hu) ⟨_,q⟩ ?_
 exact⟨hz,its',_,hv,q⟩
theorem Inv.DK{its:List Value}{t':Nat}(I:Inv X pins σ H s)(hv:Vals ys its)(hz:ys.length≤sizeLine) :
  Inv X pins σ (upd H s.heap.objs.size (.lst ys)) {s with heap:=s.heap.push {cls:=.type "list", data:=.seq its.toArray},toks:=t'}:=
 I.laid (λ_ _ q=>Heap.get?_push_of_some _ q) (B6 _) ⟨hz,its,0,hv,Heap.get?_push_size _ rfl⟩
theorem Inv.fresh(I:Inv X pins σ H s):H s.heap.objs.size=none:=I.hok.fresh (B6 _)
theorem Inv.QJ(I:Inv X pins σ H s)(hH:H l=some (.lst xs)):xs.length≤sizeLine∧∃(its:List Value)(n:Nat),Vals xs its∧xs.length=its.length∧s.heap.get? l=some {cls:=.type "list", data:=.seq its.toArray n}:=by
 obtain⟨z,its,n,r,e⟩:=I.hok l _ hH
 exact⟨z,its,n,r,r.length,e⟩
end
section
variable{X:Cx}
def sY:V→List V→Hp→VK→Prop:=λx vs H Q=>∃l xs y,x=.ref l∧vs=[y]∧H l=some (.lst xs)∧xs.length<sizeLine∧Q .non (upd H l (.lst (xs++[y])))
theorem jC:cj X "list.append" sY:=by
 intro pins s σ H x vs v us Q I rx rv h
 obtain⟨l,xs,y,rfl,rfl,hH,hz,q⟩:=h
 cases rx
 obtain⟨u,rfl,ru⟩:=rv.one
 obtain⟨z,its,n,r,hl,e⟩:=I.QJ hH
 refine call_meets F.slot_list_append ⟨_,e,rfl⟩ F.entry_list_append (F.args_list_append_2 _ _) (PySem.list_append l its.toArray n u (by rw[B3];omega)) ⟨e,?_⟩
 refine⟨.non,_,I.QH (its':=its++[u]) hH e (by simp) (r.append (.cons ru .nil)) ?_,rfl,q⟩
 rw[D4,N7]
 omega
def yX:V→List V→Hp→VK→Prop:=λx vs H Q=>∃l xs,x=.ref l∧vs=[]∧H l=some (.lst xs)∧Q .non (upd H l (.lst []))
theorem Ot:cj X "list.clear" yX:=by
 intro pins s σ H x vs v us Q I rx rv h
 obtain⟨l,xs,rfl,rfl,hH,q⟩:=h
 cases rx
 have hus:=rv.zero
 subst hus
 obtain⟨z,its,n,r,hl,e⟩:=I.QJ hH
 refine call_meets F.slot_list_clear ⟨_,e,rfl⟩ F.entry_list_clear (F.args_list_clear_1 _) (AutoSeq1.list_clear_list_0 l its.toArray n (by rw[B3];omega)) ⟨e,?_⟩
 exact⟨.non,_,I.QH (its':=[]) (ys:=[]) hH e rfl .nil (J4 _),rfl,q⟩
end
section
variable{prog:Program}{w:World}{A:Around}{E:Value→Shared→Prop}{s:Shared}
end
section
variable{X:Cx}
end
end L2
namespace L2
open PySem PySem.Spec PyProof.Rows
section
variable{κ:Type} [DecidableEq κ]
def iQ(kvs:List (κ×V))(k:κ):Option V:=(kvs.find? λkv=>decide (kv.1=k)).map (·.2)
def putK(kvs:List (κ×V))(k:κ)(v:V):List (κ×V):=
 if(kvs.any λkv=>decide (kv.1=k))=true then kvs.map (λkv=>if kv.1=k then(kv.1,v)else kv)else kvs++[(k,v)]
def cu(kvs:List (κ×V))(k:κ):List (κ×V):=kvs.filter λkv=>decide (kv.1≠k)
theorem tY{p:κ×V}{r:List (κ×V)}{k:κ}(e:p.1=k):iQ (p::r) k=some p.2:=by simp[iQ,J6,e]
theorem tZ{p:κ×V}{r:List (κ×V)}{k:κ}(e:¬p.1=k):iQ (p::r) k=iQ r k:=by simp[iQ,J6,e]
theorem uA(k:κ):∀kvs:List (κ×V),(kvs.any λkv=>decide (kv.1=k))=(iQ kvs k).isSome
 | []=>rfl
 | p::r=>by
  rw[S8]
  by_cases e:p.1=k
  ·simp only[tY e,decide_eq_true e,Bool.true_or,O6]
  ·rw[tZ e,decide_eq_false e,Bool.false_or];exact uA k r
theorem rT(kvs:List (κ×V))(k:κ)(v:V):(putK kvs k v).length≤kvs.length+1:=by
 unfold putK
 split
 ·rw[A9];omega
 ·rw[D4,G5,List.length_nil];omega
theorem qL.Ky{o:Option V}{u:Option Value}(r:qL o u):o.isSome=u.isSome:=by
 cases o with
 | none=>cases u with
  | none=>rfl
  | some _=>exact(show False from r).elim
 | some _=>cases u with
  | none=>exact(show False from r).elim
  | some _=>rfl
theorem qL.getD{o:Option V}{u:Option Value}{d:V}{d':Value}(r:qL o u)(rd:RelV d d'):RelV (o.getD d) (u.getD d'):=by
 cases o with
 | none=>cases u with
  | none=>exact rd
  | some _=>exact(show False from r).elim
 | some _=>cases u with
  | none=>exact(show False from r).elim
  | some _=>exact r
theorem KV.val{kvs:List (κ×V)}{vs:List (κ×Value)}(r:KV kvs vs)(k:κ):qL (iQ kvs k) (valueAt vs k):=by
 unfold KV at r
 induction r with
 | nil=>exact True.intro
 | @cons p q ps qs h t ih=>
  obtain⟨h1,h2⟩:=h
  by_cases e:p.1=k
  ·have e':q.1=k:=h1.symm.trans e
   have b:valueAt (q::qs) k=some q.2:=by simp[valueAt,J6,e']
   rw[tY e,b];exact h2
  ·have e':¬q.1=k:=λz=>e (h1.trans z)
   have b:valueAt (q::qs) k=valueAt qs k:=by simp[valueAt,J6,e']
   rw[tZ e,b];exact ih
theorem KV.any{kvs:List (κ×V)}{vs:List (κ×Value)}(r:KV kvs vs)(k:κ):(kvs.any λkv=>decide (kv.1=k))=vs.any λkv=>decide (kv.1=k):=by
 unfold KV at r
 induction r with
 | nil=>rfl
 | cons h t ih=>rw[S8,S8,ih,h.1]
theorem KV.repl{kvs:List (κ×V)}{vs:List (κ×Value)}(r:KV kvs vs)(k:κ){y:V}{u:Value}(ry:RelV y u) :
  KV (kvs.map λkv=>if kv.1=k then(kv.1,y)else kv) (vs.map λkv=>if kv.1=k then(kv.1,u)else kv):=by
 unfold KV at r ⊢
 induction r with
 | nil=>exact .nil
 | @cons p q ps qs h t ih=>
  rw[C5,C5]
  refine .cons ?_ ih
  obtain⟨h1,h2⟩:=h
  by_cases e:p.1=k
  ·rw[if_pos e,if_pos (h1.symm.trans e)];exact⟨h1,ry⟩
  ·rw[if_neg e,if_neg (λz=>e (h1.trans z))];exact⟨h1,h2⟩
theorem KV.put{kvs:List (κ×V)}{vs:List (κ×Value)}(r:KV kvs vs)(k:κ){y:V}{u:Value}(ry:RelV y u):KV (putK kvs k y) (stored vs k u):=by
 unfold putK stored
 rw[r.any k]
 by_cases e:(vs.any λkv=>decide (kv.1=k))=true
 ·rw[if_pos e,if_pos e];exact r.repl k ry
 ·rw[if_neg e,if_neg e];exact Paired.snoc r ⟨rfl,ry⟩
theorem KV.length{kvs:List (κ×V)}{vs:List (κ×Value)}(r:KV kvs vs):kvs.length=vs.length:=Paired.length r
end
theorem Hx{P:Program}{w:World}{k:Key}{u:Value}(r:RelV (kV k) u):(cA P w).is k u=true:=by
 cases k with
 | inl i=>obtain⟨t,e⟩:=(show ∃t,u=Value.int i t from r);subst e;exact Aw P w i t
 | inr x=>obtain⟨t,e⟩:=(show ∃t,u=Value.str x t from r);subst e;exact Ax P w x t
theorem wZ{P:Program}{w:World}:∀{ks:List Key} {us:List Value},Vals (ks.map kV) us→ItemsAre (cA P w) ks us
 | [],_,r=>by rw[E9]at r;cases r;exact .nil
 | k::ks,_,r=>by
  rw[C5]at r
  cases r with
  | cons h t=>exact .cons (Hx h) (wZ t)
abbrev KT(H:Hp):List (List Key×V)→List (List Key×Addr×Value)→Prop:=Paired λp q=>p.1=q.1∧H q.2.1=some (.tup (p.1.map kV))∧RelV p.2 q.2.2
theorem KT.val{H:Hp}{kvs:List (List Key×V)}{xs:List (List Key×Addr×Value)}(r:KT H kvs xs)(k:List Key):qL (iQ kvs k) ((atKey xs k).map (·.2)):=by
 induction r with
 | nil=>exact True.intro
 | @cons p q ps qs h t ih=>
  obtain⟨h1,_,h2⟩:=h
  by_cases e:p.1=k
  ·have e':q.1=k:=h1.symm.trans e
   have b:atKey (q::qs) k=some q.2:=by simp[atKey,J6,e']
   rw[tY e,b];exact h2
  ·have e':¬q.1=k:=λz=>e (h1.trans z)
   have b:atKey (q::qs) k=atKey qs k:=by simp[atKey,J6,e']
   rw[tZ e,b];exact ih
theorem KT.repl{H:Hp}{kvs:List (List Key×V)}{xs:List (List Key×Addr×Value)}(r:KT H kvs xs)(k:List Key){y:V}{u:Value}(ry:RelV y u) :
  KT H (kvs.map λkv=>if kv.1=k then(kv.1,y)else kv) (xs.map (putAt k u)):=by
 induction r with
 | nil=>exact .nil
 | @cons p q ps qs h t ih=>
  rw[C5,C5]
  refine .cons ?_ ih
  obtain⟨h1,h2,h3⟩:=h
  unfold putAt
  by_cases e:p.1=k
  ·rw[if_pos e,if_pos (h1.symm.trans e)];exact⟨h1,h2,ry⟩
  ·rw[if_neg e,if_neg (λz=>e (h1.trans z))];exact⟨h1,h2,h3⟩
theorem KT.put{H:Hp}{kvs:List (List Key×V)}{xs:List (List Key×Addr×Value)}(r:KT H kvs xs)(k:List Key){b:Addr}{y:V}{u:Value}(hb:H b=some (.tup (k.map kV)))(ry:RelV y u) :
  KT H (putK kvs k y) (storedH xs k b u):=by
 have e:(kvs.any λkv=>decide (kv.1=k))=(atKey xs k).isSome:=by
  rw[uA,(r.val k).Ky,U1]
 unfold putK storedH
 rw[e]
 by_cases q:(atKey xs k).isSome=true
 ·rw[if_pos q,if_pos q];exact r.repl k ry
 ·rw[if_neg q,if_neg q];exact Paired.snoc r ⟨rfl,hb,ry⟩
theorem KT.keeps{H H':Hp}{kvs:List (List Key×V)}{xs:List (List Key×Addr×Value)}(r:KT H kvs xs)(ht:∀b ys,H b=some (.tup ys)→H' b=some (.tup ys)):KT H' kvs xs:=
 Paired.Zk r λ_ _ z=>⟨z.1,ht _ _ z.2.1,z.2.2⟩
section
variable{P:Program}{w:World}{H:Hp}{h:Heap}{a:Addr}
theorem Yo{u:HO}(ok:nG P w H h)(e:Rd H a u):bW P w H h a u:=e.ok ok
theorem Be{kvs:List (Key×V)}(ok:nG P w H h)(e:Rd H a (.dK kvs)):kvs.length≤sizeLine∧(a==sysModules)=false∧∃vs,KV kvs vs∧h.DictOf (cA P w) a vs:=
 show bW P w H h a (.dK kvs)from Yo ok e
theorem QK{kvs:List (Key×V)}(ok:nG P w H h)(e:H a=some (.dK kvs)):kvs.length≤sizeLine∧(a==sysModules)=false∧∃vs,KV kvs vs∧h.DictOf (cA P w) a vs:=Be ok (.inl e)
theorem yZ{ks:List Key}(ok:nG P w H h)(e:H a=some (.tup (ks.map kV))):(tupleKind (cA P w)).is h ks a:=by
 obtain⟨_,its,r,o,h1,h2,n,h3⟩:=(show bW P w H h a (.tup (ks.map kV))from ok a _ e)
 exact⟨o,its.toArray,n,h1,h2,h3,by simpa using wZ r⟩
theorem Bf{kvs:List (List Key×V)}(ok:nG P w H h)(e:Rd H a (.dT kvs)):kvs.length≤sizeLine∧(a==sysModules)=false ∧
  ∃xs,KT H kvs xs∧h.DictOfH (tupleKind (cA P w)) a xs:=by
 obtain⟨z,y,xs,r,o,es,ep,h1,h2,h3,h4,h5⟩:=(show bW P w H h a (.dT kvs)from Yo ok e)
 refine⟨z,y,xs,r,o,es,ep,h1,h2,h3,h4,λx hx=>?_,h5⟩
 have all:∀{l:List (List Key×V)} {m:List (List Key×Addr×Value)},KT H l m→∀x∈m,(tupleKind (cA P w)).is h x.1 x.2.1:=by
  intro l m q
  induction q with
  | nil=>intro x hx;exact nomatch hx
  | @cons p q ps qs hq t ih=>
   intro x hx
   rcases B8.mp hx with e | hx
   ·subst e
    exact yZ ok (by rw[←hq.1];exact hq.2.1)
   ·exact ih x hx
 exact all r x hx
theorem Yp{kvs:List (List Key×V)}(ok:nG P w H h)(e:H a=some (.dT kvs)):kvs.length≤sizeLine∧(a==sysModules)=false ∧
  ∃xs,KT H kvs xs∧h.DictOfH (tupleKind (cA P w)) a xs:=Bf ok (.inl e)
end
def Bg(H:Hp)(a:Addr)(y:V)(r:Option V):Prop:=
 (∃kvs k,Rd H a (.dK kvs)∧y=kV k∧r=iQ kvs k)∨∃kvs k b,Rd H a (.dT kvs)∧y=.ref b∧H b=some (.tup (k.map kV))∧r=iQ kvs k
def Ou(H:Hp)(a:Addr)(y v:V)(H':Hp):Prop:=
 (∃kvs k,H a=some (.dK kvs)∧y=kV k∧kvs.length<sizeLine∧H'=upd H a (.dK (putK kvs k v))) ∨
 ∃kvs k b,H a=some (.dT kvs)∧y=.ref b∧H b=some (.tup (k.map kV))∧kvs.length<sizeLine∧H'=upd H a (.dT (putK kvs k v))
theorem Bg.t{H:Hp}{a b:Addr}{kvs:List (List Key×V)}{k:List Key}(e:H a=some (.dT kvs))(eb:H b=some (.tup (k.map kV))):Bg H a (.ref b) (iQ kvs k):=.inr ⟨kvs,k,b,.inl e,rfl,eb,rfl⟩
theorem Ou.t{H:Hp}{a b:Addr}{kvs:List (List Key×V)}{k:List Key}{v:V}(e:H a=some (.dT kvs))(eb:H b=some (.tup (k.map kV)))(hl:kvs.length<sizeLine) :
  Ou H a (.ref b) v (upd H a (.dT (putK kvs k v))):=.inr ⟨kvs,k,b,e,rfl,eb,hl,rfl⟩
section
variable{X:Cx}{pins:List (Addr×Obj)}{σ:St}{H:Hp}{s:Shared}{a:Addr}{y v:V}{u r:Value}{o:Option V}{A:Around}{E:Value→Shared→Prop}
theorem Inv.big(I:Inv X pins σ H s):sysModules<s.heap.objs.size:=by
 have h:mainGlobals<s.heap.objs.size:=(I.mod.glob.keeps I.bk).lt
 exact Nat.lt_trans (by decide) h
theorem Kz{Q:Value→Shared→Prop}(hu:A.units+1<cLine)(I:Inv X pins σ H s)(g:Bg H a y (some v))(ry:RelV y u)(h:∀w' s',Inv X pins σ H s'→RelV v w'→Q w' s') :
  wpAny (model X.prog X.w) A (getItem (.ref a) u) Q E s:=by
 rcases g with ⟨kvs,k,e,ey,l⟩ | ⟨kvs,k,b,e,ey,eb,l⟩
 ·subst ey
  obtain⟨z,hd,vs,rel,dd⟩:=Be I.hok e
  obtain⟨w',hw,Om⟩:=qL.some_of (v:=v) (o:=valueAt vs k) (by rw[l];exact rel.val k)
  exact wpAny_getItem_of (Hx ry) dd.mapOf hw (h w' _ (I.tok _) Om)
 ·subst ey
  cases(show u=Value.ref b from ry)
  obtain⟨z,hd,xs,rel,dd⟩:=Bf I.hok e
  obtain⟨w',hw,Om⟩:=qL.some_of (v:=v) (o:=(atKey xs k).map (·.2)) (by rw[l];exact rel.val k)
  obtain⟨p,hp,hp2⟩:=fH hw
  refine wpAny_getItem_heap (tupleKind_room_in1 hu) (yZ I.hok eb) dd hp ?_
  rw[hp2]
  exact h w' _ (I.tok _) Om
theorem Hy{h':Heap}{t':Nat}{ob:HO}(I:Inv X pins σ H s)(mu:LK (H a))(hs:Heap.SameBut a s.heap h')(he:∃q,h'.get? a=some q)(new:bW X.prog X.w (upd H a ob) h' a ob) :
  Inv X pins σ (upd H a ob) {s with heap:=h',toks:=t'}:=
 I.write (x:=a) (e:=a) mu (.inl rfl) (λb q hb z=>(hs.2 b hb).trans z) he new
theorem DN{P:Program}{w:World}{H':Hp}{h':Heap}{kvs:List (Key×V)}{vs:List (Key×Value)}(z:kvs.length≤sizeLine)(hd:(a==sysModules)=false)(rel:KV kvs vs)(dd:h'.DictOf (cA P w) a vs) :
  bW P w H' h' a (.dK kvs):=⟨z,hd,vs,rel,dd⟩
theorem La{H':Hp}{Q:Unit→Shared→Prop}(hu:A.units+1<cLine)(I:Inv X pins σ H s)(g:Ou H a y v H')(ry:RelV y u)(rv:RelV v r)(h:∀s',Inv X pins σ H' s'→Q () s') :
  wpAny (model X.prog X.w) A (setItem (.ref a) u r) Q E s:=by
 rcases g with ⟨kvs,k,e,ey,l,eH⟩ | ⟨kvs,k,b,e,ey,eb,l,eH⟩
 ·subst ey eH
  obtain⟨z,hd,vs,rel,dd⟩:=QK I.hok e
  have hz:vs.length≤sizeLine:=by rw[←rel.length];exact z
  have hl:(putK kvs k v).length≤sizeLine:=by have:=rT kvs k v;omega
  refine wpAny_setItem_pairs (hsz:=hz) (Hx ry) dd λh' VG hs=>h _ ?_
  have he:∃q,h'.get? a=some q:=let ⟨q,_,_,hq,_⟩:=VG;⟨q,hq⟩
  exact Hy I (by rw[e];exact True.intro) hs he (DN hl hd (rel.put k rv) VG)
 ·subst ey eH
  cases(show u=Value.ref b from ry)
  obtain⟨z,hd,xs,rel,dd⟩:=Yp I.hok e
  have hz:xs.length≤sizeLine:=by rw[←Paired.length rel];exact z
  have hl:(putK kvs k v).length≤sizeLine:=by have:=rT kvs k v;omega
  refine wpAny_setItem_heap (hsz:=hz) (tupleKind_room_in1 hu) (yZ I.hok eb) dd λh' VG hs=>h _ ?_
  obtain⟨q,es,ep,hq,h2,h3,h4,_,h5⟩:=VG
  refine Hy I (by rw[e];exact True.intro) hs ⟨q,hq⟩ ⟨hl,hd,_,(rel.put k eb rv).keeps λc ys ec=>?_,q,es,ep,hq,h2,h3,h4,h5⟩
  rw[aP (MP ec e (λz=>nomatch z))]
  exact ec
end
section
variable{X:Cx}{pins:List (Addr×Obj)}{σ:St}{H:Hp}{s:Shared}{a:Addr}{kvs:List (Key×V)}{k:Key}{u:Value}{A:Around}{E:Value→Shared→Prop}
end
def DP(i:Expr):Prop:=∀ov iv,subscripted i false ov iv=operate [ov,iv] (getItem ov iv)
theorem Vw{prog:Program}{w:World}{A:Around}{E:Value→Shared→Prop}{s:Shared}{env:Env}{value slice:Expr}{pos:Pos}{T id:String}{Q:Value→Shared→Prop}
  (hl:typeLookup (.type T) "__getitem__" = pure (some (.builtin id))) (hs:DP slice)
  (h:wpAny (model prog w) A (eval value env) (λo s₁=>wpAny (model prog w) A (eval slice env) (λi s₂=>s₂.TypeIs o T∧wpAny (model prog w) A (getItem o i) Q E s₂) E s₁) E s) :
  wpAny (model prog w) A (eval (.Subscript value slice pos) env) Q E s:=by
 refine Subscript_ (wpAny_mono h (λo s₁ h₁=>wpAny_mono h₁ (λi s₂ h₂=>?_) λ_ _ x=>x) λ_ _ x=>x)
 obtain⟨hT,h₂⟩:=h₂
 unfold subscriptTail
 refine wpAny_bind ?_
 rw[getitemInPython_of_ne hT.not_modules]
 refine wpAny_bind (wpAny_specialOf hT hl ?_)
 have fin:wpAny (model prog w) A (subscripted slice false o i) (λr s₃=>wpAny (model prog w) A (letTemporaryGo value o r >>= λ_=>pure r) Q E s₃) E s₂:=by
  rw[hs o i]
  exact wpAny_operating (wpAny_mono h₂ (λr s₃ h₃=>wpAny_bind (wpAny_letTemporaryGo (wpAny_pure h₃))) λ_ _ x=>x)
 first
  | exact wpAny_pure (wpAny_bind fin)
  | exact wpAny_bind (wpAny_pure (wpAny_bind fin))
  | exact wpAny_bind fin
theorem Bh{X:Cx}{pins:List (Addr×Obj)}{σ:St}{H:Hp}{s:Shared}{a:Addr}{y:V}{o:Option V}(I:Inv X pins σ H s)(g:Bg H a y o):s.TypeIs (.ref a) "dict" := by
 rcases g with ⟨kvs,k,e,_,_⟩ | ⟨kvs,k,b,e,_,_,_⟩
 ·obtain⟨_,_,vs,_,dd⟩:=Be I.hok e
  exact dd.typeIs
 ·obtain⟨_,_,xs,_,dd⟩:=Bf I.hok e
  exact dd.typeIs
def Yq(td ty:TE):TE:=λσ H Q=>td σ H λx H1=>ty σ H1 λy H2=>∃a v,x=.ref a∧Bg H2 a y (some v)∧Q v H2
def Bj(td ty tv:TE):TS:=λD σ H=>tv σ H λv H1=>td σ H1 λx H2=>ty σ H2 λy H3=>∃a H4,x=.ref a∧Ou H3 a y v H4∧D.nx σ H4
section
variable{X:Cx}{o i e value:Expr}{pos pos' tpos:Pos}{td ty tv:TE}
theorem Vx(hu:X.A.units+1<cLine)(ho:PE X o td)(hi:PE X i ty)(hs:DP i):PE X (.Subscript o i pos) (Yq td ty):=by
 intro pins s σ H Q I h
 refine Vw PySem.F.slot_dict_getitem.lookup hs (cJ (ho pins s σ H _ I h) λu s1 ⟨x,H1,I1,rx,q1⟩=>cJ (hi pins s1 σ H1 _ I1 q1) λiv s2 ⟨y,H2,I2,ry,a,v,ex,g,q2⟩=>?_)
 subst ex
 obtain rfl:u=Value.ref a:=rx
 exact⟨Bh I2 g,Kz hu I2 g ry λw' s3 I3 Om=>⟨v,H2,I3,Om,q2⟩⟩
theorem Vy(hu:X.A.units+1<cLine)(ho:PE X o td)(hi:PE X i ty)(hv:PE X value tv)(hs:swapsWith value (some (.Subscript o i pos')) pos.line X.env=pure false) :
  PS X (.Assign [.Subscript o i pos'] value pos) (Bj td ty tv):=by
 intro pins s σ H D I h
 refine wpAny_Assign_Subscript (cJ (hv pins s σ H _ I h) λr s1 ⟨v,H1,I1,rv,q1⟩=>cJ (ho pins s1 σ H1 _ I1 q1) λu s2 ⟨x,H2,I2,rx,q2⟩=>cJ (hi pins s2 σ H2 _ I2 q2) λiv s3 ⟨y,H3,I3,ry,a,H4,ex,g,q3⟩=>?_) hs
 subst ex
 obtain rfl:u=Value.ref a:=rx
 exact La hu I3 g ry rv λs4 I4=>⟨σ,H4,I4,q3⟩
end
theorem Ov{P:Program}{w:World}{H:Hp}(h:Heap)(hb:sysModules<h.objs.size):bW P w H (h.push {cls:=.type "dict", data:=.dict #[]}) h.objs.size (.dT []):=
 ⟨J4 _,beq_eq_false_iff_ne.mpr (Ne.symm (C6 hb)),[],.nil,_,#[],0,Heap.get?_push_size _ rfl,⟨rfl,rfl,rfl⟩,rfl,rfl,O4⟩
def Ox:TE:=λ_ H Q=>∀p,H p=none→Q (.ref p) (upd H p (.dT []))
section
variable{X:Cx}{pos:Pos}
theorem Oz:PE X (.Dict [] [] pos) Ox:=λpins s σ H Q I h=>
 wpAny_Dict_empty ⟨.ref s.heap.objs.size,_,I.laid (a:=s.heap.objs.size) (o:=.dT []) (t':=s.toks) (λ_ _ q=>Heap.get?_push_of_some _ q) (B6 _) (Ov s.heap I.big),rfl,h _ (I.hok.fresh (B6 _))⟩
end
def Ek:List (TE×TE)→St→Hp→(List (V×V)→Hp→Prop)→Prop
 | [],_,H,Q=>Q [] H
 | (tk,tv)::r,σ,H,Q=>tk σ H λx H1=>tv σ H1 λy H2=>Ek r σ H2 λps H3=>Q ((x,y)::ps) H3
abbrev VV:List (V×V)→List (Value×Value)→Prop:=Paired λp q=>RelV p.1 q.1∧RelV p.2 q.2
def iu(X:Cx)(pos:Pos)(keys:List (Option Expr))(values:List Expr)(iw:List (TE×TE)):Prop:=
 ∀(pins:List (Addr×Obj))(s:Shared)(σ:St)(H:Hp)(Q:List (V×V)→Hp→Prop),Inv X pins σ H s→Ek iw σ H Q →
  wpAny (model X.prog X.w) X.A (evalPairs (pairTrees keys values X.env pos)) (λvs s'=>∃ps H',Inv X pins σ H' s'∧VV ps vs∧Q ps H') X.xe s
structure M1(X:Cx)(o:Expr)(m:Str)(apos:Pos)(e:Expr)(cpos:Pos):Prop where
 base:attributeBase o m X.env (eval o X.env)=eval o X.env
 few:((backTo cpos (starEach [e] X.env)).all (λx=>!x.1)&&(backToKw cpos (keywordEach [] X.env)).all (λx=>x.1.isSome)
  && decide (([e]:List Expr).length+([]:List Keyword).length+(if([]:List Keyword).isEmpty then 0 else 1)<30))=true
 line:(apos.endLine==cpos.line)=true
 trees:backTo cpos (starEach [e] X.env)=[(false,eval e X.env)]
structure M2(X:Cx)(o:Expr)(m:Str)(apos:Pos)(e f:Expr)(cpos:Pos):Prop where
 base:attributeBase o m X.env (eval o X.env)=eval o X.env
 few:((backTo cpos (starEach [e,f] X.env)).all (λx=>!x.1)&&(backToKw cpos (keywordEach [] X.env)).all (λx=>x.1.isSome)
  && decide (([e,f]:List Expr).length+([]:List Keyword).length+(if([]:List Keyword).isEmpty then 0 else 1)<30))=true
 line:(apos.endLine==cpos.line)=true
 trees:backTo cpos (starEach [e,f] X.env)=[(false,eval e X.env),(false,eval f X.env)]
def cz(H:Hp)(a:Addr):Prop:=(∃kvs,Rd H a (.dK kvs))∨∃kvs,Rd H a (.dT kvs)
theorem DQ{X:Cx}{pins:List (Addr×Obj)}{σ:St}{H:Hp}{s:Shared}{a:Addr}(I:Inv X pins σ H s)(d:cz H a) :
  s.TypeIs (.ref a) "dict" ∧ (∀b,Value.ref a=.ref b→∃ob,s.heap.get? b=some ob∧ob.dict=none)∧(a==sysModules)=false:=by
 rcases d with ⟨kvs,e⟩ | ⟨kvs,e⟩
 ·obtain⟨_,hd,vs,_,dd⟩:=Be I.hok e
  refine⟨dd.typeIs,λb q=>?_,hd⟩
  cases q
  obtain⟨ob,_,_,h1,h2,_⟩:=dd
  exact⟨ob,h1,h2.2.1⟩
 ·obtain⟨_,hd,xs,_,dd⟩:=Bf I.hok e
  refine⟨dd.typeIs,λb q=>?_,hd⟩
  cases q
  obtain⟨ob,_,_,h1,h2,_⟩:=dd
  exact⟨ob,h1,h2.2.1⟩
section
variable{X:Cx}{pins:List (Addr×Obj)}{σ:St}{H:Hp}{s:Shared}{a:Addr}{y d:V}{u r:Value}{o:Option V}{A:Around}{E:Value→Shared→Prop}
theorem DR{Q:Value→Shared→Prop}(hu:A.units+1<cLine)(I:Inv X pins σ H s)(g:Bg H a y o)(ry:RelV y u)(rd:RelV d r)(h:∀w' s',Inv X pins σ H s'→RelV (o.getD d) w'→Q w' s') :
  wpAny (model X.prog X.w) A (call (.builtin "dict.get") [.ref a,u,r]) Q E s:=by
 rcases g with ⟨kvs,k,e,ey,l⟩ | ⟨kvs,k,b,e,ey,eb,l⟩
 ·subst ey
  obtain⟨z,hd,vs,rel,dd⟩:=Be I.hok e
  refine call_meetsIn N8 dd.typeIs R1 (Q4 _ _ _) (meets_dict_get_default (cA X.prog X.w) a (Hx ry) hd r) ⟨_,dd.mapOf,h _ _ (I.tok _) ?_⟩
  rw[l]
  exact(rel.val k).getD rd
 ·subst ey
  cases(show u=Value.ref b from ry)
  obtain⟨z,hd,xs,rel,dd⟩:=Bf I.hok e
  refine call_meetsIn N8 dd.typeIs R1 (Q4 _ _ _) (meetsH_dict_get_default (tupleKind (cA X.prog X.w)) a b hd r) ⟨tupleKind_room_in1 hu,k,xs,yZ I.hok eb,dd,h _ _ (I.tok _) ?_⟩
  rw[l]
  exact(rel.val k).getD rd
end
def uB(td ty tx:TE):TE:=λσ H Q=>td σ H λx H1=>∃a,x=.ref a∧cz H1 a∧ty σ H1 λy H2=>tx σ H2 λz H3=>∃o,Bg H3 a y o∧Q (o.getD z) H3
section
variable{X:Cx}{o e f:Expr}{apos cpos:Pos}{td ty tx:TE}
theorem Pa(hu:X.A.units+1<cLine)(ho:PE X o td)(he:PE X e ty)(hf:PE X f tx)(m:M2 X o "get" apos e f cpos):PE X (.Call (.Attribute o "get" apos) [e,f] [] cpos) (uB td ty tx):=by
 intro pins s σ H Q I h
 refine wpAny_Call_method m.base m.few m.line PySem.F.plainAttrs_dict N8 PySem.F.type_dict_get (cJ (ho pins s σ H _ I h) λu s1 ⟨x,H1,I1,rx,a,ex,d,q1⟩=>?_)
 subst ex
 obtain rfl:u=Value.ref a:=rx
 obtain⟨t1,t2,_⟩:=DQ I1 d
 refine⟨t1,t2,?_⟩
 rw[m.trees]
 refine Calls.callWith_builtin rfl (Calls.evalArgs_plain (Calls.spliced_cons (cJ (he pins s1 σ H1 _ I1 q1) λiv s2 ⟨y,H2,I2,ry,q2⟩=>
  Calls.spliced_cons (cJ (hf pins s2 σ H2 _ I2 q2) λfv s3 ⟨z,H3,I3,rz,ov,g,q3⟩=>Calls.spliced_nil ?_))))
 exact DR hu I3 g ry rz λw' s4 I4 Om=>⟨_,H3,I4,Om,q3⟩
end
section
variable{X:Cx}{pins:List (Addr×Obj)}{σ:St}{H:Hp}{s:Shared}{a:Addr}{kvs:List (Key×V)}{A:Around}{E:Value→Shared→Prop}
end
section
variable{X:Cx}{pins:List (Addr×Obj)}{σ:St}{H:Hp}{s:Shared}{a:Addr}{y:V}{u:Value}{A:Around}{E:Value→Shared→Prop}
end
end L2
namespace Att
open PySem PySem.W PySem.Calls PyProof.Rows
theorem sJ{P:Params}{h:Heap}:∀(ns:List Int)(vs:List Value),WellAll P h vs (ns.map WData.int)→IntsAre vs ns:=by
 intro ns
 induction ns with
 | nil=>
  intro vs w
  rw[E9]at w
  cases w
  exact .nil
 | cons n ns ih=>
  intro vs w
  rw[C5]at w
  cases w with
  | cons a b=>
   cases a
   exact .cons _ _ (ih _ b)
theorem Lb{l:OpenLaw}{n:Nat}(hn:l.most=some n){P:Params}{h:Heap}{args:List WData}{vals:List Value}
  (hpre:l.row.toRowW.claim.pre args=true) (hwl:WellAll P h vals args) :
  ∃a vs ns,vals=[Value.ref a]∧args=[WData.list (ns.map WData.int)]∧h.get? a=some {cls:=.type "list", data:=.seq vs.toArray}∧IntsAre vs ns∧ns.length≤n:=by
 have hsh:WShape.hasAll [] args [.list .int]=true:=(pre_splitW hpre).1
 have hc:l.pre.holds [] {args:=args}=true:=(pre_splitW hpre).2
 obtain⟨d,r,rfl,h1,h2⟩:=hasAllW_cons hsh
 obtain rfl:=hasAllW_nil h2
 obtain⟨xs,rfl,h3⟩:=hasW_list h1
 obtain⟨ns,rfl⟩:=items_int h3
 have hlen:ns.length≤n:=by
  unfold OpenLaw.pre at hc
  have h4:(WTm.not (.lt (.lit (.int (n:Int))) (.len (.arg 0)))).holds [] {args:=[.list (ns.map .int)]}=true:=by
   have h4:=(holds_andW hc).1
   rw[hn]at h4
   exact h4
  have h5:=condW_of h4 (w_not (w_lt w_lit (w_len_list (w_arg rfl))))
  rw[A9]at h5
  refine Nat.le_of_not_lt λq=>?_
  have q':(n:Int)<((ns.length:Nat):Int):=by omega
  first
   | (rw[decide_eq_true q']at h5;exact absurd h5 (by decide))
   | (simp at h5;omega)
 cases hwl with
 | cons w1 w2=>
  cases w2
  cases w1 with
  | list ho hall=>exact⟨_,_,ns,rfl,rfl,ho,sJ ns _ hall,hlen⟩
theorem Ld(l:OpenLaw)(args:List WData):l.row.toRowW.claim.post args (.bool true) args=true:=
 postW_of (r:=l.row.toRowW) (X:=(true==true))
  (show WShape.has [] (.bool true) .bool=true by first | rfl | decide | simp[WShape.has,WShape.arms,WShape.armsAll])
  (show (WTm.eq .res (.lit (.bool true))).value [] {args:=args,res:=some (.bool true),after:=args}=some (.bool (true==true))from w_eq_bool (w_res rfl) w_lit) rfl
section
variable{prog:Program}{w:World}{A:Around}{E:Value→Shared→Prop}{s:Shared}{K:Frag}
end
end Att
namespace L2
open PySem PySem.Spec PyProof.Rows
theorem mH:∀{vs:List Value} {ns:List Int},IntsAre vs ns→Vals (ns.map V.int) vs
 | _,_,.nil=>.nil
 | _,_,.cons n t h=>.cons ⟨t,rfl⟩ (mH h)
def Only(H:Hp):Prop:=∀b,H b=none∨∃o xs,H b=some (.iC o (.lst xs))
theorem Pb{P:Program}{w:World}{K:aA}{mg mb:Str→Option Value}{CX:Ks}{k:Nat}{fa a:Addr}{fd:FuncData}{x:Str}{sp:Sp}{s₁:Shared}{vs:List Value}{ns:List Int}
  (KX:K.In s₁.heap) (hns:s₁.heap.Ns mainGlobals mg) (hb:s₁.heap.Ns builtinsNs mb) (hbb:∀x:Str,x ≠ "__name__" → mb x=bootBuiltins x) (hlim:s₁.heap.NoLimit) (hg:s₁.gens=#[])
  (ha:s₁.heap.get? a=some {cls:=.type "list", data:=.seq vs.toArray}) (hi:IntsAre vs ns) (hl:ns.length≤sizeLine) (hr:gK k callerA)
  (F:∀base:Heap,K.In base→base.Ns mainGlobals mg→qP P w K mg base CX k fa fd [x] sp) (hbind:∀(s:Shared)(u:Value),BindsTo s fd ⟨[u],[]⟩ [(x,u)])
  (hsp:∀H:Hp,Only H→iM K H a (ns.map V.int)→sp [.ref a] H (λv _=>v=.bl true) λ_ _ _=>False)
  (XX:∀H e s',CX [] H s₁ (λ_ _ _=>False) e s'→False) :
  codeAny (model P w) callerA (.call (.ref fa) ⟨[.ref a],[]⟩) (λr s'=>r=.ok (.ret (.bool true))∧OldK s₁.heap s'.heap∧s'.os=s₁.os∧AllBare s'.gens) s₁:=by
 have rv:=mH hi
 have lenV:=hi.length
 have core:∀H:Hp,Only H→iM K H a (ns.map V.int)→nG P w H s₁.heap→(∀b,H b≠none→b=a)→(H a≠none→K.lookup a=none) →
   codeAny (model P w) callerA (.call (.ref fa) ⟨[.ref a],[]⟩) (λr s'=>r=.ok (.ret (.bool true))∧OldK s₁.heap s'.heap∧s'.os=s₁.os∧AllBare s'.gens) s₁:=by
  intro H hO hS hok hA hK
  have Hz:∀{b:Addr} {o:Obj},s₁.heap.get? b=some o→H b=none→(yN s₁.heap H).get? b=some o:=λe n=>Nt e n
  have PX:∀{b:Addr} {o:Obj} {es:Array DictEntry} {ep:Nat},s₁.heap.get? b=some o→o.data=.dict es ep→H b=none:=λ{b o es ep} e d=>by
   cases q:H b with
   | none=>rfl
   | some u=>
    have e':b=a:=hA b (by rw[q];simp)
    subst e'
    rw[ha]at e;cases e
    have d':Data.seq vs.toArray _=Data.dict es ep:=d
    cases d'
  have VH:∀{b:Addr} {m:Str→Option Value},s₁.heap.Ns b m→(yN s₁.heap H).Ns b m:=λ{b m} ⟨o,es,ep,e,d,r⟩=>⟨o,es,ep,Hz e (PX e d),d,r⟩
  have dg:K.In (yN s₁.heap H):=λb o e=>Hz (KX b o e) (by
   cases q:H b with
   | none=>rfl
   | some u=>
    have e':b=a:=hA b (by rw[q];simp)
    subst e'
    rw[hK (by rw[q];simp)]at e;cases e)
  have hM:Mod K mg (yN s₁.heap H):=⟨dg,VH hns,⟨mb,VH hb,hbb⟩,let ⟨mc,h1,h2⟩:=hlim;⟨mc,VH h1,h2⟩⟩
  have e0:Vm P w K mg (yN s₁.heap H) callerA [] s₁ H:=⟨rfl,hM,λb o e=>Uz e,Nat.le_of_eq (Ke _ _),trivial,λb hb=>absurd (show b∈([]:List Addr)from hb) (by simp),hok,.of_eq hg⟩
  refine codeAny_mono ((F _ dg (VH hns)).run callerA [] s₁ H ⟨[.ref a],[]⟩ [.ref a] [.ref a] _ _ hr e0 (hbind s₁ (.ref a)) (.cons rfl .nil) (hsp H hO hS)) λr s' h=>?_
  cases r with
  | error e=>exact(XX H e s' h).elim
  | ok fl=>
   cases fl with
   | next=>exact False.elim h
   | brk=>exact False.elim h
   | cont=>exact False.elim h
   | ret u=>
    obtain⟨v,H',os,bare,un,hok',r',q⟩:=h
    have q':v=.bl true:=q
    subst q'
    obtain rfl:u=Value.bool true:=r'
    refine⟨rfl,OldK.of_keep λb o e=>?_,os,bare⟩
    cases q:H b with
    | none=>exact un.keep b o e q (by intro z;exact absurd (show b∈([]:List Addr)from z) (by simp)) (by simp)
    | some u=>
     rcases hO b with z | ⟨ob,xs,z⟩
     ·rw[q]at z;cases z
     ·have z2:=un.wD b ob _ z
      obtain⟨e1,_⟩:=hok b _ z
      obtain⟨e2,_⟩:=hok' b _ z2
      rw[e]at e1;cases e1
      exact e2
 cases hk:K.lookup a with
 | some o=>
  have e:=KX a o hk
  rw[ha]at e
  cases e
  refine core (λ_=>none) (λ_=>.inl rfl) (.inr ⟨_,vs.toArray,_,hk,rfl,rfl,rfl,by rw[B3,lenV];exact hl,by simpa using rv⟩) (λb u z=>by have z':(none:Option HO)=some u:=z;cases z') (λb z=>absurd rfl z) λz=>absurd rfl z
 | none=>
  refine core (λb=>if b=a then some (.iC {cls:=.type "list", data:=.seq vs.toArray} (.lst (ns.map V.int)))else none) (λb=>?_) (.inl (.inr ⟨{cls:=.type "list", data:=.seq vs.toArray},if_pos rfl⟩)) (λb u z=>?_) (λb z=>?_) λ_=>hk
  ·by_cases hb:b=a
   ·exact .inr ⟨_,_,if_pos hb⟩
   ·exact .inl (if_neg hb)
  ·by_cases hb:b=a
   ·have z':=(if_pos hb).symm.trans z
    cases z'
    subst hb
    exact⟨ha,by rw[A9];exact hl,vs,_,rv,ha⟩
   ·have z':=(if_neg hb).symm.trans z
    cases z'
  ·by_cases hb:b=a
   ·exact hb
   ·exact absurd (if_neg hb) z
end L2
namespace L2
open PySem PySem.Spec PyProof.Rows
end L2
namespace L2
open PySem PySem.Spec PyProof.Rows
def cT(s:Stmt):Arguments:=match s with
 | .FunctionDef _ a _ _ _ _ _ _ _ _=>a
 | _=>{posonlyargs:=[],args:=[],vararg:=none,kwonlyargs:=[],kw_defaults:=[],kwarg:=none,defaults:=[]}
def bV(s:Stmt):List Stmt:=match s with
 | .FunctionDef _ _ b _ _ _ _ _ _ _=>b
 | _=>[]
def aK(s:Stmt):Scope:=match s with
 | .FunctionDef _ _ _ _ _ _ sc _ _ _=>sc
 | _=>{kind:=.function,names:=[],isGenerator:=false,isCoroutine:=false}
abbrev Np:Ks:=λ_ _ _ _ _ _=>False
abbrev E0:XK:=λ_ _ _=>False
theorem QL{X:Cx}:Passes Np X E0:=λ_ _ _ _ _ _ _ h=>h.elim
structure Us(K:aA)(x qual:Str)(st:Stmt)(f:Addr)(fd:FuncData):Prop where
 ex:∃(oc:Value)(od:Option Addr)(kV doc pm:Value)(an:Option Addr)(cdv ct:Value)(osl:Array (Option Value)),
  fd=F7 x qual (cT st) (bV st) (aK st) .none kV doc pm an cdv ct∧K.lookup f=some ⟨oc,od,.func fd,osl⟩∧M0 K cdv qual=true
 kp:G9 K (.ref f)=true
section
variable{P:Program}{w:World}{K:aA}{mg:Str→Option Value}{base:Heap}
theorem Us.ok{x qual:Str}{st:Stmt}{f:Addr}{fd:FuncData}{N ps:List Str}{k:Nat}{sp:Sp}(F:Us K x qual st f fd)(S:bL N ps (aK st))(len:∀vs H Q E,sp vs H Q E→vs.length=ps.length)
  (hbody:∀(cdv:Value)(A:Around)(outer:List Env)(s:Shared)(H:Hp)(vs:List V)(Q:VK)(E:XK),gK k (A.deeper (envOfC qual (aK st) s.heap.objs.size f cdv))→sp vs H Q E →
   ∃t,Dw (yR Np P w K mg base N qual (aK st) f cdv A outer s H E).Zz (bV st) t∧t {nx:=λ_ H'=>Q .non H',rt:=Q} (start N vs) H):qP P w K mg base Np (k+1) f fd ps sp:=by
 obtain⟨oc,od,kV,doc,pm,an,cdv,ct,osl,rfl,lk,hcd⟩:=F.ex
 refine QB lk hcd S len λA outer s H vs Q E hr hsp=>?_
 obtain⟨t,h,q⟩:=hbody cdv A outer s H vs Q E hr hsp
 exact⟨t,h.Zz,q⟩
theorem Us.binds{x qual:Str}{st:Stmt}{f:Addr}{fd:FuncData}{ps:List Str}(F:Us K x qual st f fd)
  (h:∀(kV doc pm:Value)(an:Option Addr)(cdv ct:Value)(us:List Value),us.length=ps.length→bindArgs (F7 x qual (cT st) (bV st) (aK st) .none kV doc pm an cdv ct) ⟨us,[]⟩=pure (ps.zip us)):Binds K fd ps []:=by
 obtain⟨oc,od,kV,doc,pm,an,cdv,ct,osl,rfl,lk,hcd⟩:=F.ex
 exact .all (h kV doc pm an cdv ct)
theorem DW{x qual:Str}{st:Stmt}{f:Addr}{oc:Value}{od an:Option Addr}{osl:Array (Option Value)}{kV doc pm cdv ct:Value}(l:K.lookup f=some ⟨oc,od,.func (F7 x qual (cT st) (bV st) (aK st) .none kV doc pm an cdv ct),osl⟩)
  (c:M0 K cdv qual=true) (k:G9 K (.ref f)=true):Us K x qual st f (F7 x qual (cT st) (bV st) (aK st) .none kV doc pm an cdv ct):=⟨⟨oc,od,kV,doc,pm,an,cdv,ct,osl,rfl,l,c⟩,k⟩
end
theorem iG{A:Around}{k:Nat}(hr:gK k A):A.units+1<cLine:=T5 (Nat.add_le_add_left (by decide:1≤64) _) hr.units
theorem mJ{n:Nat}(h:n≤1000):n<sizeLine:=T5 h (by decide)
section
variable{X:Cx}
theorem pv(i:Nat){x:Str}{pos:Pos}(hN:X.N[i]?=some x:=by rfl)(hv:MT X.env.scope x:=by first | exact E1 rfl | exact D9 (E1 rfl) | exact D9 (D9 rfl))(hd:(x==("__debug__" : Str))=false:=by decide)
  (hcd:(x==("__classdict__" : Str))=false:=by decide):PE X (.Name x pos) (cB i):=Zm hN hv hd hcd
end
def aG(H H':Hp):Prop:=∀b o,H b=some o→H' b=some o
theorem aG.refl(H:Hp):aG H H:=λ_ _ h=>h
theorem aG.trans{H H1 H2:Hp}(a:aG H H1)(b:aG H1 H2):aG H H2:=λc o h=>b c o (a c o h)
theorem aG.free{H H':Hp}(e:aG H H'){l:Addr}(h:H' l=X3):H l=X3:=by
 cases q:H l with
 | none=>rfl
 | some o=>
  rw[e l o q]at h
  cases h
theorem aG.seq{K:aA}{H H':Hp}{a:Addr}{xs:List V}(e:aG H H')(h:iM K H a xs):iM K H' a xs:=by
 rcases h with (h | ⟨o,h⟩) | h
 ·exact .inl (.inl (e _ _ h))
 ·exact .inl (.inr ⟨o,e _ _ h⟩)
 ·exact .inr h
section
variable{κ:Type} [DecidableEq κ]
end
end L2


namespace L2
open PySem PySem.Spec PyProof.Rows
theorem oF(env:Env):∀(names:List (Str×NameKind))(acc:List (Str×Addr)),(∀x∈names,x.2=.free→∃c,env.cells.lookup x.1=some c) →
    ∃cl:List (Str×Addr),(forIn names acc (λ(x:Str×NameKind) (r:List (Str×Addr))=>(match x with
      | (name,kind)=>if(kind==.free)=true then do let c ←cellOf env name;pure (ForInStep.yield ((name,c)::r))else pure (ForInStep.yield r):Sem (ForInStep (List (Str×Addr))))))=pure cl ∧
      (∀x c,cl.lookup x=some c→(∃k,(x,k)∈names∧k=.free∧env.cells.lookup x=some c)∨acc.lookup x=some c) ∧
      (∀x,(x,NameKind.free)∈names→∃c,cl.lookup x=some c)∧(∀x c,acc.lookup x=some c→∃c',cl.lookup x=some c')
  | [],acc,_=>⟨acc,rfl,λx c h=>.inr h,λx h=>by simp at h,λx c h=>⟨c,h⟩⟩
  | (n,k)::r,acc,h=>by
    rw[List.forIn_cons]
    by_cases hk:k=.free
    · subst hk
      obtain⟨c,hc⟩:=h (n,.free) C4 rfl
      obtain⟨cl,e,h1,h2,h3⟩:=oF env r ((n,c)::acc) λx hx=>h x (B7 _ hx)
      refine⟨cl,?_,λx d hd=>?_,λx hx=>?_,λx d hd=>?_⟩
      · have e0:cellOf env n=pure c:=by unfold cellOf;rw[hc]
        simp only[beq_self_eq_true,if_true,e0,pure_bind]
        exact e
      · rcases h1 x d hd with ⟨k',m,q⟩ | q
        · exact .inl ⟨k',B7 _ m,q⟩
        · rw[J9]at q
          by_cases e:x==n
          · rw[e]at q
            have e':=eq_of_beq e
            subst e'
            cases q
            exact .inl ⟨.free,C4,rfl,hc⟩
          · have e':(x==n)=false:=by simpa using e
            rw[e']at q
            exact .inr q
      · rcases B8.mp hx with q | q
        · cases q
          exact h3 n c (by simp)
        · exact h2 x q
      · by_cases e:x==n
        · exact h3 x c (by rw[J9,e])
        · have e':(x==n)=false:=by simpa using e
          exact h3 x d (by rw[J9,e'];exact hd)
    · obtain⟨cl,e,h1,h2,h3⟩:=oF env r acc λx hx=>h x (B7 _ hx)
      have hb:(k==NameKind.free)=false:=by simpa using hk
      refine⟨cl,?_,λx d hd=>?_,λx hx=>?_,h3⟩
      · simp only[hb,L6,if_false,pure_bind]
        exact e
      · rcases h1 x d hd with ⟨k',m,q⟩ | q
        · exact .inl ⟨k',B7 _ m,q⟩
        · exact .inr q
      · rcases B8.mp hx with q | q
        · cases q
          exact absurd rfl hk
        · exact h2 x q
theorem iR(scope:Scope)(env:Env)(h:∀x∈scope.names,x.2=.free→∃c,env.cells.lookup x.1=some c) :
    ∃cl,closureFor scope env=pure cl∧(∀x c,cl.lookup x=some c→(x,NameKind.free)∈scope.names∧env.cells.lookup x=some c)∧∀x,(x,NameKind.free)∈scope.names→∃c,cl.lookup x=some c:=by
  obtain⟨cl,e,h1,h2,_⟩:=oF env scope.names [] h
  refine⟨cl,?_,λx c hx=>?_,h2⟩
  · unfold closureFor
    exact(congrArg (λt=>t >>= pure) e).trans (pure_bind _ _)
  · rcases h1 x c hx with ⟨k,m,rfl,q⟩ | q
    · exact⟨m,q⟩
    · simp at q
theorem zA{scope:Scope}{env:Env}(hcell:∀y∈scope.names,y.2≠.cell){x:Str}(h:(relabel scope env).names.lookup x=some .cell∨(relabel scope env).names.lookup x=some .free):(x,NameKind.free)∈scope.names:=by
 have m:(x,NameKind.cell)∈(relabel scope env).names∨(x,NameKind.free)∈(relabel scope env).names:=by
  rcases h with h | h
  ·exact .inl (E3 h)
  ·exact .inr (E3 h)
 unfold relabel at m
 rcases m with m | m
 all_goals
  obtain⟨⟨n,k⟩,hm,e⟩:=G6.mp m
  dsimp only at e
  split at e
  ·rename_i hc
   simp only[D5,beq_iff_eq]at hc
   cases e
   first
    | (rw[hc.1.1]at hm;exact hm)
    | skip
  ·cases e
   first
    | exact hm
    | exact absurd rfl (hcell _ hm)
def cC(X:Cx)(scope:Scope)(N:List Str)(cl:List (Str×Addr))(fp:List Addr)(s:Shared)(H:Hp)(C:Addr):Cx where
 prog:=X.prog
 w:=X.w
 K:=X.K
 mg:=X.mg
 base:=X.base
 A:=X.A
 N:=N
 s₀:=s
 H₀:=H
 env:=compEnvC scope cl C X.env
 outer:=X.stack
 stack:=X.stack
 ex:=fp
 calm:=X.calm
 fn:=λ_=>false
 pn:=[]
 xe:=λ_ _=>False
def Bk(σ:St)(fr:List Nat):St:=fr.map λi=>σ.getD i none
def blk(k:Nat)(σ:St)(fr:List Nat):St:=F5 k none++Bk σ fr
def Kp(k:Nat)(σ:St)(fr:List Nat)(σ2:St):Prop:=σ2.length=(blk k σ fr).length∧∀(j:Nat) v,(blk k σ fr)[j]?=some (some v)→σ2[j]?=some (some v)
def Ut(X:Cx)(ifs:List Expr)(t:TT):Prop:=
 ∀(pins:List (Addr×Obj))(s:Shared)(σ:St)(H:Hp)(Q:Bool→Hp→Prop),Inv X pins σ H s→t σ H Q →
  wpAny (model X.prog X.w) X.A (forIn ifs true λc r=>if r=true then do let ok ←isTrue c X.env (eval c X.env);pure (ForInStep.yield ok)else pure (ForInStep.yield r)) (TP X pins σ Q) X.xe s
def QM:TT:=λ_ H Q=>Q true H
theorem Vz{X:Cx}:Ut X [] QM:=λ_ _ _ H _ I h=>wpAny_tests_nil ⟨H,I,h⟩
theorem Wa{X:Cx}{c:Expr}{t:TT}(h:PT X c t):Ut X [c] t:=λpins s σ H Q I q=>wpAny_tests_one (h pins s σ H Q I q)
theorem fX{prog:Program}{w:World}{A:Around}{R:Result→Shared→Prop}{s:Shared}{elt target iter:Expr}{ifs:List Expr}{scope:Scope}{pos:Pos}{it acc:Value}{env:Env}(I:Nat→Shared→Prop)
  (turn:∀n s,I n s→wpAny (model prog w) A (pyNext it) (λr s₁=>match r with
   | none=>R (.ok .next) s₁
   | some v=>wpAny (model prog w) A (letOwnedTupleGo target it v) (λ_ s₀=>wpAny (model prog w) A (assign target env v) (λ_ s₂=>
     wpAny (model prog w) A (forIn ifs true λc r=>if r=true then do let ok ←isTrue c env (eval c env);pure (ForInStep.yield ok)else pure (ForInStep.yield r)) (λok s₃=>
      if ok=true then wpAny (model prog w) A (eval elt env) (λx s₄=>
       wpAny (model prog w) A (call (.builtin "list.append") [acc,x]) (λ_ s₅=>∃m,m<n∧I m s₅) (λ_ _=>False) s₄) (λ_ _=>False) s₃
      else ∃m,m<n∧I m s₃) (λ_ _=>False) s₂) (λ_ _=>False) s₀) (λ_ _=>False) s₁) (λ_ _=>False) s)
  (n:Nat) (h:I n s) :
  codeAny (model prog w) A (.compLoop (.ListComp elt [⟨target,iter,ifs,0⟩] scope pos) 0 it acc env) R s:=by
 refine codeAny_loop rfl I (λn s hI=>?_) n h
 show wpAny _ A ((compTurn (.ListComp elt [⟨target,iter,ifs,0⟩] scope pos) 0 it acc env).onRaise (λx=>do noteFrame x env;theTreesLotGoes x)) _ _ s
 refine wpAny_noted ?_
 rw[compTurn_list]
 refine wpAny_mono (E:=λ_ _=>False) ?_ (λ_ _ q=>q) λ_ _ x=>x.elim
 refine wpAny_bind (wpAny_standAt (wpAny_bind (wpAny_mono (turn n s hI) (λr s₁ h₁=>?_) λ_ _ h'=>h')))
 cases r with
 | none=>exact wpAny_pure h₁
 | some v=>
  refine wpAny_bind (wpAny_mono h₁ (λ_ s₀ h₀=>?_) λ_ _ h'=>h')
  refine wpAny_bind (wpAny_mono h₀ (λ_ s₂ h₂=>wpAny_bind (wpAny_mono h₂ (λok s₃ h₃=>?_) λ_ _ h'=>h')) λ_ _ h'=>h')
  cases ok with
  | false=>exact wpAny_pure ⟨rfl,h₃⟩
  | true=>
   exact wpAny_bind (wpAny_bind (wpAny_mono h₃ (λx s₄ h₄=>wpAny_bind (wpAny_mono h₄ (λ_ s₅ h₅=>wpAny_pure (wpAny_pure ⟨rfl,h₅⟩)) λ_ _ h'=>h')) λ_ _ h'=>h'))
def Pg(J:It)(k:Nat)(fr:List Nat)(g:TG)(tc:TT)(te:TE)(σ:St)(H1:Hp)(Q:VK)(D:Addr):Prop:=∃W:Nat→Nat→List V→Hp→Prop,(∃m,W 0 m [] (upd H1 D (.lst []))) ∧
 ∀i m ys H,W i m ys H→H D=some (.lst ys)∧((J.stop i H∧Q (.ref D) H)∨(J.go i H∧∀x H',J.OD i H x H'→g x (blk k σ fr) H' λσ2 H2=>Kp k σ fr σ2∧tc σ2 H2 λok H3=>if ok=true then
  te σ2 H3 λy H4=>H4 D=some (.lst ys)∧ys.length<sizeLine∧∃m',m'<m∧W (i+1) m' (ys++[y]) (upd H4 D (.lst (ys++[y])))else ∃m',m'<m∧W (i+1) m' ys H3))
def uC(wi:TI)(k:Nat)(fr:List Nat)(g:TG)(tc:TT)(te:TE):TE:=λσ H Q=>wi σ H λJ H1=>∀D,H1 D=none→Pg J k fr g tc te σ H1 Q D
def cP(scope oG:Scope):Scope:=
 {scope with names:=scope.names.map λ(n,k)=>if(k==.free&&oG.kind==.function&&oG.names.lookup n==some .cell)then(n,.cell)else(n,k)}
structure cG(oG scope:Scope)(oN N:List Str)(k:Nat)(fr:List Nat):Prop where
 kind:scope.kind=.function
 cell:∀y∈scope.names,y.2≠.cell
 loc:∀y∈scope.names,y.2=.local→scope.names.lookup y.1=some .local
 free:∀y∈scope.names,y.2=.free→oG.names.lookup y.1=some .cell∨oG.names.lookup y.1=some .free
 len:N.length=k+fr.length
 slots:∀j∈D3 fr.length,oN[fr.getD j 0]?=N[k+j]?
 from_:∀x∈N.drop k,(x,NameKind.free)∈scope.names∧((cP scope oG).names.lookup x=some .cell∨(cP scope oG).names.lookup x=some .free)
def Ib(oG scope:Scope)(oN N:List Str)(k:Nat)(fr:List Nat):Bool:=
 decide (scope.kind=.function)&&decide (∀y∈scope.names,y.2≠.cell)&&decide (∀y∈scope.names,y.2=.local→scope.names.lookup y.1=some .local) &&
 decide (∀y∈scope.names,y.2=.free→oG.names.lookup y.1=some .cell∨oG.names.lookup y.1=some .free)&&decide (N.length=k+fr.length) &&
 decide (∀j∈D3 fr.length,oN[fr.getD j 0]?=N[k+j]?) &&
 decide (∀x∈N.drop k,(x,NameKind.free)∈scope.names∧((cP scope oG).names.lookup x=some .cell∨(cP scope oG).names.lookup x=some .free))
theorem cG.of{oG scope:Scope}{oN N:List Str}{k:Nat}{fr:List Nat}(h:Ib oG scope oN N k fr=true):cG oG scope oN N k fr:=by
 unfold Ib at h
 simp only[D5,decide_eq_true_eq]at h
 obtain⟨⟨⟨⟨⟨⟨h1,h2⟩,h3⟩,h4⟩,h5⟩,h6⟩,h7⟩:=h
 exact⟨h1,h2,h3,h4,h5,h6,h7⟩
section
variable{X:Cx}
theorem Ie{k:Nat}{σ:St}{fr:List Nat}{i:Nat}{v:V}(h:(blk k σ fr)[i]?=some (some v)):∃j o,i=k+j∧fr[j]?=some o∧σ[o]?=some (some v):=by
 unfold blk at h
 by_cases hi:i<k
 ·rw[M6 (by simpa using hi),Q3]at h
  rw[if_pos hi]at h
  cases h
 ·rw[M3 (by simpa using hi),R6]at h
  unfold Bk at h
  rw[C3]at h
  cases e:fr[i-k]? with
  | none=>rw[e]at h;cases h
  | some o=>
   rw[e]at h
   refine⟨i-k,o,by omega,e,?_⟩
   have h:some (σ.getD o none)=some (some v):=h
   have h:=E4 h
   rw[D6]at h
   cases e2:σ[o]? with
   | none=>rw[e2]at h;cases h
   | some z=>rw[e2]at h;exact congrArg some h
theorem El{pins:List (Addr×Obj)}{σ:St}{H:Hp}{s:Shared}{scope:Scope}{N:List Str}{k:Nat}{fr:List Nat}{cl:List (Str×Addr)}{fp:List Addr}{h₁:Heap}{tk:Nat}{m:Str→Option Value}
    (I:Inv X pins σ H s) (B:cG X.env.scope scope X.N N k fr) (hf:∀b∈fp,sH X pins H b) (hfo:∀b∈fp,b<s.heap.objs.size)
    (hcl:∀x c,cl.lookup x=some c→(x,NameKind.free)∈scope.names∧X.env.cells.lookup x=some c) (zB:∀x,(x,NameKind.free)∈scope.names→∃c,cl.lookup x=some c)
    (hn:h₁.Ns (s.heap.objs.size+1) m) (hs:Heap.SameBut (s.heap.objs.size+1) ((s.heap.push {cls:=.type "list", data:=.seq ([]:List Value).toArray}).push {cls:=.type "dict", data:=.dict #[]}) h₁) :
    Inv (cC X scope N cl fp s H (s.heap.objs.size+1)) [] (blk k σ fr) (upd H s.heap.objs.size (.lst [])) {s with heap:=h₁,toks:=tk}:=by
  have I3:=I.DK (ys:=[]) (its:=[]) (t':=tk) .nil (J4 _)
  have hD:H s.heap.objs.size=none:=I.fresh
  have hC:H (s.heap.objs.size+1)=none:=I.hok.fresh (D7 _)
  have LR:∀b o,(s.heap.push {cls:=.type "list", data:=.seq ([]:List Value).toArray}).get? b=some o→b≠s.heap.objs.size+1:=λb o e=>by
    have:=Heap.lt_size e
    rw[Heap.size_push]at this
    exact C6 this
  have Bl:∀b o,(s.heap.push {cls:=.type "list", data:=.seq ([]:List Value).toArray}).get? b=some o→h₁.get? b=some o:=λb o e=>
    hs.extBut b o (LR b o e) (Heap.get?_push_of_some _ e)
  have kept:∀b o,s.heap.get? b=some o→h₁.get? b=some o:=λb o e=>Bl b o (Heap.get?_push_of_some _ e)
  refine⟨⟨I.ok.mod,B.kind,I.ok.glob,I.ok.blt,D7 _,λx y c h1 h2=>I.ok.inj x y c (hcl x c h1).2 (hcl y c h2).2,λx hx=>zB x (zA B.cell hx),λx c h _=>(nomatch h),
      I.ok.hd,I.ok.frames,.inl rfl,λb hb=>⟨?_,λx c e=>(hf b hb).2.2.2.2.1 x c (hcl x c e).2⟩,λb o e=>I.bs b o e,C7 I.ok.Uo I.sz,λb o e hb=>?_,λb hb hb2=>?_,I.stack,I.yP⟩,
    rfl,I.bare,Un.laid kept (B6 _) hD,⟨m,hn,λi x v h1 h2 h3=>?_⟩,λx c e=>?_,?_,λx c e=>?_,λp hp=>absurd (show p∈([]:List (Addr×Obj))from hp) (by simp),?_,?_⟩
  · exact C6 (F3 (hfo b hb))
  · rcases(hf b hb).2.2.2.1 with z | z
    · exact I.ok.Kf b o e z
    · exact absurd (B0 (Heap.lt_size e) (C7 I.ok.Uo z)) (E2 _)
  · rcases B8.mp (I.qM b hb2)with z | z
    · exact(hf b hb).2.1 z
    · exact(hf b hb).2.2.1 z
  · obtain⟨j,o,rfl,h4,h5⟩:=Ie h2
    have h1:N[k+j]?=some x:=h1
    have hj:j<fr.length:=(B9.mp h4).1
    have hx:X.N[o]?=some x:=by
      have q:=B.slots j (L9.mpr hj)
      rw[D6,h4]at q
      exact q.trans h1
    obtain⟨hfr,YC⟩:=B.from_ x (E5 (i:=j) (by rw[M9];exact h1))
    have hk:=B.free _ hfr rfl
    obtain⟨m0,hn0,hl0⟩:=I.loc
    have hv:MT X.env.scope x:=by
      rcases hk with q | q
      · exact .inr (.inl q)
      · exact .inr (.inr q)
    obtain⟨u,r,l⟩:=hl0 o x v hx h5 hv
    refine⟨u,r,.inr ?_⟩
    rcases l with ⟨q,_⟩ | ⟨_,c,e,z⟩
    · rcases hk with q' | q'
      · exact absurd (q.symm.trans q') (by intro z;cases z)
      · exact absurd (q.symm.trans q') (by intro z;cases z)
    · obtain⟨c',e'⟩:=zB x hfr
      have e2:=(hcl x c' e').2
      rw[e]at e2
      cases e2
      refine⟨YC,c,e',?_⟩
      obtain⟨oc,hoc,hd⟩:=z
      exact⟨oc,kept c oc hoc,hd⟩
  · obtain⟨v,oc,hoc,hd⟩:=I.cell x c (hcl x c e).2
    exact⟨v,oc,kept c oc hoc,hd⟩
  · show upd H s.heap.objs.size (.lst []) (s.heap.objs.size+1)=none
    rw[aP (F6 (K0 _))]
    exact hC
  · have hc:=(hcl x c e).2
    obtain⟨v,oc,hoc,hd⟩:=I.cell x c hc
    show upd H s.heap.objs.size (.lst []) c=none
    rw[aP (C6 (Heap.lt_size hoc))]
    exact I.iD x c hc
  · exact nG.kept I3.hok Bl
  · show (blk k σ fr).length=N.length
    rw[B.len]
    unfold blk Bk
    simp
theorem Bm{tg elt iter:Expr}{ifs:List Expr}{scope:Scope}{pos:Pos}{N:List Str}{k:Nat}{fr:List Nat}{g:TG}{tc:TT}{te:TE}{cl:List (Str×Addr)}{pins:List (Addr×Obj)}{σ:St}{H:Hp}{s:Shared}{it:Addr}{fp:List Addr}{tn:Nat→Heap→Prop}{J:It}{Q:VK}
    {RR:Value→Addr→Result→Shared→Prop} {E:Value→Shared→Prop} (hcalm:X.calm=true) (I:Inv X pins σ H s) (T:Turn X.prog X.w X.K tg J fp it tn) (st:tn 0 s.heap) (hf:∀b∈fp,sH X pins H b) (B:cG X.env.scope scope X.N N k fr)
    (hcl:∀x c,cl.lookup x=some c→(x,NameKind.free)∈scope.names∧X.env.cells.lookup x=some c) (zB:∀x,(x,NameKind.free)∈scope.names→∃c,cl.lookup x=some c)
    (hg:∀cl fp s H C,PG (cC X scope N cl fp s H C) tg g) (hc:∀cl fp s H C,Ut (cC X scope N cl fp s H C) ifs tc) (he:∀cl fp s H C,PE (cC X scope N cl fp s H C) elt te)
    (hw:∀D,H D=none→Pg J k fr g tc te σ H Q D)
    (hRR:∀D C m s' H',s'.heap.Ns C m→s.heap.objs.size≤C→H' C=none→C≠D→Inv X pins σ H' s'→Q (.ref D) H'→RR (.ref D) C (.ok .next) s') :
    wpAny (model X.prog X.w) X.A (newList []) (λacc s₃=>wpAny (model X.prog X.w) X.A (newFunctionEnv scope X.env.globals cl [] X.env.qual none .none (some X.env)) (λcenv s₄=>
      codeAny (model X.prog X.w) X.A (.compStart (.ListComp elt [⟨tg,iter,ifs,0⟩] scope pos) 0 (.ref it) acc {cenv with scope:=relabel scope X.env}) (RR acc cenv.locals) s₄) E s₃) E s:=by
  refine wpAny_newObj_type (wpAny_newFunctionEnv B.cell (by intro y hy;simp at hy) (λh₁ hns₁ hsb₁=>?_) B.kind)
  dsimp only at hns₁ hsb₁ ⊢
  rw[Heap.size_push]at hns₁ hsb₁ ⊢
  have hfo:∀b∈fp,b<s.heap.objs.size:=λb hb=>by
    obtain⟨o,e,_⟩:=T.obj 0 _ st b hb
    exact Heap.lt_size e
  have I4:=El (tk:=s.toks+([]:List (Str×Value)).length) I B hf hfo hcl zB hns₁ hsb₁
  generalize hD:s.heap.objs.size=D at *
  have YD:H D=none:=by rw[←hD];exact I.fresh
  obtain⟨W,⟨m0,w0⟩,turn⟩:=hw D YD
  have st1:tn 0 h₁:=T.keep 0 _ _ st λb hb o e=>hsb₁.extBut b o (C6 (F3 (by have:=hfo b hb;exact this))) (Heap.get?_push_of_some _ (Heap.get?_push_of_some _ e))
  have YF:∀b∈fp,(upd H D (.lst [])) b=none:=λb hb=>by
    rw[aP (C6 (hfo b hb))]
    exact(hf b hb).1
  generalize hX':cC X scope N cl fp s H (D+1)=X' at I4
  have stat:∀{H':Hp},(∀b∈fp,H' b=none)→∀b∈fp,sH X' [] H' b:=λ{H'} hn b hb=>by
    subst hX'
    refine⟨hn b hb,?_,λz=>?_,.inl hb,λx c e=>(hf b hb).2.2.2.2.1 x c (hcl x c e).2,λp hp=>absurd (show p∈([]:List (Addr×Obj))from hp) (by simp)⟩
    · exact C6 (F3 (hfo b hb))
    · rcases B8.mp (I.qM b z)with z | z
      · exact(hf b hb).2.1 z
      · exact(hf b hb).2.2.1 z
  have loop:∀s₃:Shared,s₃={s with heap:=h₁,toks:=s.toks+([]:List (Str×Value)).length} →
      codeAny (model X.prog X.w) X.A (.compLoop (.ListComp elt [⟨tg,iter,ifs,0⟩] scope pos) 0 (.ref it) (.ref D) (compEnvC scope cl (D+1) X.env)) (RR (.ref D) (D+1)) s₃:=by
    rintro s₃ rfl
    refine fX (λn s'=>∃i ys H',Inv X' [] (blk k σ fr) H' s'∧tn i s'.heap∧(∀b∈fp,H' b=none)∧W i n ys H') ?_ m0 ⟨0,[],_,I4,st1,YF,w0⟩
    rintro n s5 ⟨i,ys,H5,I5,st5,fr5,w5⟩
    obtain⟨hys,way⟩:=turn i n ys H5 w5
    have e1:X'.prog=X.prog:=by rw[←hX'];rfl
    have e2:X'.w=X.w:=by rw[←hX'];rfl
    have e3:X'.K=X.K:=by rw[←hX'];rfl
    have e4:X'.A=X.A:=by rw[←hX'];rfl
    have e5:X'.calm=true:=by rw[←hX'];exact hcalm
    have e6:X'.env=compEnvC scope cl (D+1) X.env:=by rw[←hX'];rfl
    have e7:X'.xe=λ_ _=>False:=by rw[←hX'];rfl
    rcases way with ⟨stop,q⟩ | ⟨go,step⟩
    · have d:=T.done X' e1 e2 e3 e5 i [] s5 _ H5 (λ_ _=>False) I5 (stat fr5) st5 stop
      rw[e4]at d
      refine cJ d λr s6 ⟨hr,I6⟩=>?_
      subst hr
      subst hX'
      obtain⟨m6,YG,_⟩:=I6.loc
      refine hRR D (D+1) m6 s6 H5 YG (D7 _) I6.free (F6 (K0 _)) ?_ q
      exact I.call' I6.os I6.base I6.hok I6.bare λb hb=>⟨(hf b hb).2.2.2.1,(hf b hb).2.1,(hf b hb).2.2.2.2.1,(hf b hb).2.2.2.2.2⟩
    · have d:=T.item X' e1 e2 e3 e5 i [] s5 _ H5 (λ_ _=>False) I5 (stat fr5) st5 go
      rw[e4]at d
      refine cJ d λr s6 ⟨u,hr,h6⟩=>?_
      subst hr
      refine cJ h6 λ_ s7 ⟨x,H7,I7,r7,y7,st7,fr7⟩=>?_
      have YH:=I7.pinned (stat fr7) (T.obj _ _ st7)
      have hg':PG X' tg g:=by rw[←hX'];exact hg _ _ _ _ _
      have hc':Ut X' ifs tc:=by rw[←hX'];exact hc _ _ _ _ _
      have he':PE X' elt te:=by rw[←hX'];exact he _ _ _ _ _
      have a1:=hg' _ s7 _ H7 x u _ YH r7 (step x H7 y7)
      rw[e1,e2,e4,e6,e7]at a1
      refine cJ a1 λ_ s8 ⟨σ8,H8,I8,⟨kl,kk⟩,q8⟩=>?_
      have a2:=hc' _ s8 σ8 H8 _ I8 q8
      rw[e1,e2,e4,e6,e7]at a2
      refine cJ a2 λok s9 ⟨H9,I9,q9⟩=>?_
      have again:∀{Ha:Hp} {ya:List V} {sa:Shared},Inv X' ([]++qN fp s7.heap) σ8 Ha sa→(∃m',m'<n∧W (i+1) m' ya Ha) →
          ∃m,m<n∧∃i ys H',Inv X' [] (blk k σ fr) H' sa∧tn i sa.heap∧(∀b∈fp,H' b=none)∧W i m ys H':=λ{Ha ya sa} Ia ⟨m',hm,w'⟩=>by
        refine⟨m',hm,i+1,ya,Ha,(Ia.weak kl.symm kk).lB,T.keep _ _ _ st7 λb hb o e=>(Ia.pin (b,o) (C9 _ (C9 _ (eG hb e)))).1,λb hb=>?_,w'⟩
        obtain⟨o,e,d⟩:=T.obj _ _ st7 b hb
        exact(Ia.pin (b,o) (C9 _ (C9 _ (eG hb e)))).2.1
      cases ok with
      | false=>exact again I9 q9
      | true=>
        have a3:=he' _ s9 σ8 H9 _ I9 q9
        rw[e1,e2,e4,e6,e7]at a3
        show wpAny _ _ _ _ _ s9
        refine cJ a3 λv YJ ⟨y,H10,I10,r10,hD10,hz,q10⟩=>?_
        have a4:=jC (X:=X') _ YJ σ8 H10 (.ref D) [y] (.ref D) [v] (λ_ QQ=>QQ=upd H10 D (.lst (ys++[y]))) I10 rfl (.cons r10 .nil) ⟨D,ys,y,rfl,rfl,hD10,hz,rfl⟩
        rw[e1,e2,e4,e7]at a4
        refine cJ a4 λ_ iy ⟨_,QQ,I11,_,e11⟩=>?_
        subst e11
        exact again I11 q10
  exact codeAny_compStart_list (loop _ rfl) (T.self _ 0 _ _ _ st1 (loop _ rfl))
theorem Wb{tg elt iter:Expr}{ifs:List Expr}{scope:Scope}{pos:Pos}{wi:TI}{g:TG}{tc:TT}{te:TE}(N:List Str)(k:Nat)(fr:List Nat)(hcalm:X.calm=true)(B:cG X.env.scope scope X.N N k fr)(hi:PI X tg iter wi)
  (hg:∀cl fp s H C,PG (cC X scope N cl fp s H C) tg g) (hc:∀cl fp s H C,Ut (cC X scope N cl fp s H C) ifs tc) (he:∀cl fp s H C,PE (cC X scope N cl fp s H C) elt te)
  (hs:∀x,foldedSetIterable iter X.env x=pure x:=by intro _;rfl):PE X (.ListComp elt [⟨tg,iter,ifs,0⟩] scope pos) (uC wi k fr g tc te):=by
 intro pins s σ H Q I h
 obtain⟨cl,e,h1,h2⟩:=iR scope X.env λy hy hk=>I.ok.has y.1 (B.free y hy hk)
 rw[eval_ListComp]
 refine wpAny_comprehension_free (use:=none) rfl hs e B.kind B.loc (wpAny_mono (hi pins s σ H _ I h) (λxv s₁ q₁=>wpAny_mono q₁ (λitv s₂ q₂=>?_) λ_ _ x=>x) λ_ _ x=>x)
 obtain⟨it,fp,tn,J,H2,rfl,I2,T,st2,f2,hw⟩:=q₂
 refine Bm (Q:=Q) (RR:=λacc C=>compPost (model X.prog X.w) X.A X.xe none (EP X pins σ Q) acc C) hcalm I2 T st2 f2 B h1 h2 hg hc he hw ?_
 intro D C m s' H' hn hC hf hne I' q
 refine⟨m,hn,λh' hs'=>⟨.ref D,H',?_,rfl,q⟩⟩
 exact I'.turned (t':=s'.toks) (λb o hb eb=>(hs'.2 b hb).trans eb) hf (F6 (B0 I2.lt hC)) (.inr (C7 I2.sz hC)) (λx c ec z=>by
  obtain⟨v,q⟩:=I2.cell x c ec
  exact absurd (B0 q.lt (by rw[z];exact hC)) (E2 _)) λp hp z=>absurd (B0 (Heap.lt_size (I2.pin p hp).1) (by rw[z];exact hC)) (E2 _)
theorem Wc{tg elt iter:Expr}{ifs:List Expr}{scope:Scope}{pos spos py:Pos}{y:Str}{i:Nat}{wi:TI}{g:TG}{tc:TT}{te:TE}(N:List Str)(k:Nat)(fr:List Nat)(hcalm:X.calm=true)(B:cG X.env.scope scope X.N N k fr)(hN:X.N.Nodup)(hy:X.N[i]?=some y)(hx:Loc X.env.scope y)(hi:PI X tg iter wi)
  (hg:∀cl fp s H C,PG (cC X scope N cl fp s H C) tg g) (hc:∀cl fp s H C,Ut (cC X scope N cl fp s H C) ifs tc) (he:∀cl fp s H C,PE (cC X scope N cl fp s H C) elt te)
  (hsw:swapsWith (.ListComp elt [⟨tg,iter,ifs,0⟩] scope pos) (some (.Name y py)) spos.line X.env=pure true:=by rfl)
  (hs:∀x,foldedSetIterable iter X.env x=pure x:=by intro _;rfl) (hf:X.fn y=true∨X.env.scope.names.lookup y=some .local:=by first | exact .inl rfl | exact .inr rfl | assumption) :
  PS X (.Assign [.Name y py] (.ListComp elt [⟨tg,iter,ifs,0⟩] scope pos) spos) (nH (uC wi k fr g tc te) (bU i)):=by
 intro pins s σ H D I h
 obtain⟨cl,e,h1,h2⟩:=iR scope X.env λy hy hk=>I.ok.has y.1 (B.free y hy hk)
 rw[exec_Assign_Name_used _ _ _ _ hsw]
 refine wpAny_bind (wpAny_standAt (wpAny_bind ?_))
 show wpAny _ X.A (do let _ ←comprehension (.ListComp elt [⟨tg,iter,ifs,0⟩] scope pos) scope X.env _ (newList []) false (eval iter X.env) (some (assign (.Name y py) X.env))) _ _ s
 refine wpAny_bind (wpAny_mono (wpAny_comprehension_free (use:=some (assign (.Name y py) X.env)) (Q:=λ_ s'=>SP X pins D .next s') rfl hs e B.kind B.loc
  (wpAny_mono (hi pins s σ H _ I h) (λxv s₁ q₁=>wpAny_mono q₁ (λitv s₂ q₂=>?_) λ_ _ x=>x) λ_ _ x=>x)) (λ_ s' hq=>wpAny_pure (wpAny_pure hq)) λ_ _ x=>x)
 obtain⟨it,fp,tn,J,H2,rfl,I2,T,st2,f2,hw⟩:=q₂
 refine Bm (Q:=λx H1=>bU i x σ H1 D.nx) (RR:=λacc C=>compPost (model X.prog X.w) X.A X.xe (some (assign (.Name y py) X.env)) (λ_ s'=>SP X pins D .next s') acc C) hcalm I2 T st2 f2 B h1 h2 hg hc he hw ?_
 intro E C m s' H' hn hC hfr hne I' q
 show wpAny _ X.A (assign (.Name y py) X.env (.ref E)) _ _ _
 have Up:∀x c,X.env.cells.lookup x=some c→c≠C:=λx c ec z=>by
  obtain⟨v,q⟩:=I2.cell x c ec
  exact absurd (B0 q.lt (by rw[z];exact hC)) (E2 _)
 refine wpAny_assign_Name (wO I' hN hy hx (show RelV (.ref E) (.ref E)from rfl) (λs6 I6 ⟨a,hsb,ha⟩=>?_) hf)
 have iz:C≠a:=by
  rcases ha with z | z
  ·rw[z];exact F6 (B0 I2.lt hC)
  ·exact λq=>Up _ _ z q.symm
 refine⟨m,hn.sameBut hsb iz,λh'' hs''=>⟨_,H',?_,q⟩⟩
 exact I6.turned (t':=s6.toks) (λb o hb eb=>(hs''.2 b hb).trans eb) hfr (F6 (B0 I2.lt hC)) (.inr (C7 I2.sz hC)) Up
  λp hp z=>absurd (B0 (Heap.lt_size (I2.pin p hp).1) (by rw[z];exact hC)) (E2 _)
end
end L2


set_option maxHeartbeats 4000000
namespace L2
open PySem PySem.Spec PyProof.Rows
def DX(J:It)(P:Hp→Prop)(xs:List V):Prop:=
 ∀i H,P H→(i<xs.length→J.go i H)∧(∀x H',J.OD i H x H'→H'=H∧(i<xs.length→xs[i]?=some x))∧(xs.length≤i→J.stop i H)
theorem Ph{K:aA}{a:Addr}{xs:List V}:DX (XC K a) (λH=>iM K H a xs) xs:=λi H hq=>
 ⟨λh=>⟨xs,xs[i],hq,by simp[h]⟩,λx H' ⟨e,y⟩=>⟨e,λ_=>y xs hq⟩,λh=>⟨xs,hq,h⟩⟩
theorem Wd{K:aA}{a:Addr}{xs:List V}:DX (XD K a) (λH=>jP K H a xs) xs:=λi H hq=>
 ⟨λh=>⟨xs,xs[i],hq,by simp[h]⟩,λx H' ⟨e,y⟩=>⟨e,λ_=>y xs hq⟩,λh=>⟨xs,hq,h⟩⟩
theorem xF{lo:Int}{n:Nat}:DX (UL lo n) (λ_=>True) ((D3 n).map λi:Nat=>V.int (lo+(i:Int))):=λi H _=>
 ⟨λh=>show i<n by simpa using h,λx H' ⟨e,y⟩=>⟨e,λh=>by
  have h:i<n:=by simpa using h
  subst y
  simp[h]⟩,λh=>show n≤i by simpa using h⟩
section
variable{X:Cx}
theorem jQ{scope:Scope}{N:List Str}{x:Str}{pos:Pos}(hN:N.Nodup)(hi:N[0]?=some x)(hx:(cP scope X.env.scope).names.lookup x=some .local) :
  ∀cl fp s H C,PG (cC X scope N cl fp s H C) (.Name x pos) (bU 0):=λ_ _ _ _ _=>dJ hN hi (E1 hx) (D9 hx)
theorem Inv.freeze{pins:List (Addr×Obj)}{σ:St}{H:Hp}{s:Shared}{a:Addr}{u:HO}{o:Obj}(I:Inv X pins σ H s)(e:H a=some u)(mu:LK (H a))(ho:s.heap.get? a=some o):Inv X pins σ (upd H a (.iC o u)) s:=by
 have n0:∀b,H b=none→upd H a (.iC o u) b=none:=λb hb=>by rw[aP (Ne.symm (cO e hb))];exact hb
 refine⟨I.ok,I.os,I.bare,⟨I.base.keep,I.base.slot,λb ob h n hx=>n0 b (I.base.free b ob h n hx),I.base.there,λb xs h=>?_,λb ob w h=>?_,λb ps h=>?_⟩,I.loc,I.cell,n0 _ I.free,λx c h=>n0 _ (I.iD x c h),λp hp=>?_,?_,I.len⟩
 ·have q:=I.base.tups b xs h
  rw[aP (λz=>by rw[z,e]at q;rw[e]at mu;cases q;exact mu)]
  exact q
 ·have q:=I.base.wD b ob w h
  rw[aP (λz=>by rw[z,e]at q;rw[e]at mu;cases q;exact mu)]
  exact q
 ·obtain⟨more,q⟩:=I.base.yM b ps h
  exact⟨more,by rw[aP (λz=>by rw[z,e]at q;rw[e]at mu;cases q;exact mu)];exact q⟩
 ·obtain⟨h1,h2,h3⟩:=I.pin p hp
  exact⟨h1,n0 _ h2,h3⟩
 ·have Nr:∀c y,H c=some (.own y)→c≠a:=λc y r z=>by rw[z,e]at r;rw[e]at mu;cases r;exact mu
  have Uy:∀c xs,H c=some (.tup xs)→c≠a:=λc xs r z=>by rw[z,e]at r;rw[e]at mu;cases r;exact mu
  intro b v q
  by_cases hb:b=a
  ·subst hb
   rw[bB]at q
   cases q
   exact⟨ho,(I.hok b u e).stay (λc v _ q=>q) (λc r=>by rw[aP (Nr c b r)];exact r) λc xs r=>by rw[aP (Uy c xs r)];exact r⟩
  ·rw[aP hb]at q
   exact(I.hok b v q).stay (λc v _ q=>q) (λc r=>by rw[aP (Nr c b r)];exact r) λc xs r=>by rw[aP (Uy c xs r)];exact r
theorem zF{J:It}{P:Hp→Prop}{xs:List V}(hJ:DX J P xs){g:TG}{tb:TS}{D:Ends}{σ:St}{H:Hp}(Pv:Nat→St→Hp→Prop)(h0:Pv 0 σ H)(hl:∀i σ H,i≤xs.length→Pv i σ H→P H)
  (hs:∀i x σ H,xs[i]?=some x→Pv i σ H→g x σ H λσ2 H2=>tb {D with nx:=Pv (i+1),ct:=Pv (i+1),bk:=D.nx} σ2 H2) (hd:∀σ H,Pv xs.length σ H→D.nx σ H) :
  ∃W:Nat→Nat→St→Hp→Prop,(∃m,W 0 m σ H)∧∀i m σ H,W i m σ H →
   (J.stop i H∧D.nx σ H)∨(J.go i H∧∃N:St→Hp→Prop,(∀σ' H',N σ' H'→∃m',m'<m∧W (i+1) m' σ' H')∧∀x H',J.OD i H x H'→g x σ H' λσ2 H2=>tb {D with nx:=N,ct:=N,bk:=D.nx} σ2 H2):=by
 refine⟨λi m σ H=>m=xs.length-i∧i≤xs.length∧Pv i σ H,⟨xs.length,by simp,J4 _,h0⟩,?_⟩
 rintro i m σ H ⟨rfl,hi,p⟩
 obtain⟨j1,j2,j3⟩:=hJ i H (hl i σ H hi p)
 by_cases hlt:i<xs.length
 ·refine .inr ⟨j1 hlt,Pv (i+1),λσ' H' p'=>⟨xs.length-(i+1),by omega,rfl,hlt,p'⟩,λx H' y=>?_⟩
  obtain⟨e,ex⟩:=j2 x H' y
  subst e
  exact hs i x σ _ (ex hlt) p
 ·have e:i=xs.length:=by omega
  subst e
  exact .inl ⟨j3 (B6 _),hd σ H p⟩
end
end L2


namespace L2
open PySem PySem.Spec PyProof.Rows
section
variable{X:Cx}
def rising(ns ms:List Int):Prop:=ms.Perm ns∧ms.Pairwise (·≤·)
theorem Bo:fW X (.builtin "sorted") (λxs H Q=>∃(p:Addr)(ns:List Int),xs=[.ref p]∧iM X.K H p (ns.map V.int)∧ns.length<64∧∀l ms,H l=none→rising ns ms→Q (.ref l) (upd H l (.lst (ms.map V.int)))):=by
 intro pins s σ H xs us Q I r h
 obtain⟨p,ns,rfl,hq,h64,q⟩:=h
 obtain⟨u,rfl,rx⟩:=vals1 r
 cases rx
 obtain⟨its,rv,pl,hz⟩:=I.list hq
 have hlen:=rv.length
 rw[A9]at hlen
 refine sorted_ints pl.isList (intsAre_of rv) (by omega) λout ns' a1 a2 a3=>?_
 obtain⟨e,he⟩:=sortedAll_at s.heap its out
 have hl2:ns'.length=ns.length:=a2.length_eq
 have hs:H (s.heap.objs.size+1)=none:=I.hok.fresh (D7 _)
 have I2:=I.laid (t':=s.toks) (a:=s.heap.objs.size+1) (o:=.lst (ns'.map V.int)) (h':=sortedAll s.heap its out) (λb o e=>sortedAll_old e) (D7 _)
  ⟨by rw[A9];exact K9 (mJ (by omega)),out.toList,e,mH a1,by simpa[seqObj]using he⟩
 exact⟨.ref _,_,I2,rfl,q _ _ hs ⟨a2,a3⟩⟩
end
inductive DV where
  | int (i:Int) | non | lst (ds:List DV) | tup (ds:List DV)
mutual
def Reads(K:aA)(H:Hp):DV→V→Prop
 | .int i,x=>x=.int i
 | .non,x=>x=.non
 | .lst ds,x=>∃a xs,x=.ref a∧iM K H a xs∧bF K H ds xs
 | .tup ds,x=>∃a xs,x=.ref a∧jP K H a xs∧bF K H ds xs
def bF(K:aA)(H:Hp):List DV→List V→Prop
 | [],xs=>xs=[]
 | d::ds,xs=>∃y ys,xs=y::ys∧Reads K H d y∧bF K H ds ys
end
mutual
def DV.depth:DV→Nat
 | .int _=>0
 | .non=>0
 | .lst ds=>aV ds+1
 | .tup ds=>aV ds+1
def aV:List DV→Nat
 | []=>0
 | d::ds=>max d.depth (aV ds)
end
theorem bF.length{K:aA}{H:Hp}:∀{ds:List DV} {xs:List V},bF K H ds xs→xs.length=ds.length
 | [],xs,h=>by
  unfold bF at h
  rw[h]
  rfl
 | d::ds,xs,h=>by
  unfold bF at h
  obtain⟨y,ys,rfl,_,h2⟩:=h
  simp[bF.length h2]
theorem bF.get{K:aA}{H:Hp}:∀{ds:List DV} {xs:List V} {i:Nat} {d:DV},bF K H ds xs→ds[i]?=some d→∃x,xs[i]?=some x∧Reads K H d x
 | [],xs,i,d,h,e=>by simp at e
 | d'::ds,xs,0,d,h,e=>by
  unfold bF at h
  obtain⟨y,ys,rfl,h1,_⟩:=h
  simp at e
  subst e
  exact⟨y,rfl,h1⟩
 | d'::ds,xs,i+1,d,h,e=>by
  unfold bF at h
  obtain⟨y,ys,rfl,_,h2⟩:=h
  obtain⟨x,e1,e2⟩:=bF.get h2 (by simpa using e)
  exact⟨x,by simpa using e1,e2⟩
theorem uD:∀{ds:List DV} {i:Nat} {d:DV},ds[i]?=some d→d.depth≤aV ds
 | [],i,d,e=>by simp at e
 | d'::ds,0,d,e=>by
  simp at e
  subst e
  unfold aV
  exact Nat.le_max_left _ _
 | d'::ds,i+1,d,e=>by
  have:=uD (ds:=ds) (i:=i) (d:=d) (by simpa using e)
  unfold aV
  exact C7 this (Nat.le_max_right _ _)
theorem Em(A:Around):A.in1.units=A.units+1:=rfl
section
open SeqAt
open Classical in
noncomputable def lC(d e:DV):Bool:=decide (d=e)
theorem lD{d e:DV}:lC d e=true↔d=e:=by unfold lC;simp
theorem fJ(d:DV):lC d d=true:=lD.mpr rfl
theorem cD{d e:DV}(h:d≠e):lC d e=false:=by unfold lC;simp[h]
theorem We(a b:Int):lC (.int a) (.int b)=(a==b):=by
 by_cases h:a=b
 ·subst h;simp[fJ]
 ·rw[cD (by simpa using h)];simp[h]
open Classical in
theorem fD{ds es:List DV}(hl:ds.length=es.length):((D3 ds.length).all λi=>match ds[i]?,es[i]? with | some d,some e=>lC d e | _,_=>true)=decide (ds=es):=by
 rw[L5,List.all_eq_true,decide_eq_true_iff]
 constructor
 ·intro h
  apply P5 hl
  intro i h1 h2
  have:=h i (L9.mpr h1)
  simp only[B5 h1,B5 h2]at this
  exact lD.mp this
 ·rintro rfl i hi
  have hi':=L9.mp hi
  simp only[B5 hi']
  exact fJ _
variable{X:Cx}{pins:List (Addr×Obj)}{σ:St}{H:Hp}{s:Shared}
open Classical in
theorem Ig(ds es:List DV):lC (.lst ds) (.lst es)=decide (ds=es):=by
 by_cases h:ds=es
 ·subst h;simp[fJ]
 ·rw[cD (by intro z;cases z;exact h rfl)];simp[h]
open Classical in
theorem Ih(ds es:List DV):lC (.tup ds) (.tup es)=decide (ds=es):=by
 by_cases h:ds=es
 ·subst h;simp[fJ]
 ·rw[cD (by intro z;cases z;exact h rfl)];simp[h]
theorem xG(I:Inv X pins σ H s):∀(n:Nat)(d e:DV)(x:V),d.depth≤n→Reads X.K H d x→Reads X.K H e x→d=e:=by
 have lists:∀(n:Nat),(∀(d e:DV)(x:V),d.depth≤n→Reads X.K H d x→Reads X.K H e x→d=e)→∀(ds es:List DV)(xs:List V),aV ds≤n→bF X.K H ds xs→bF X.K H es xs→ds=es:=by
  intro n ih ds
  induction ds with
  | nil=>
   intro es xs _ h1 h2
   have l1:=h1.length
   have l2:=h2.length
   cases es with
   | nil=>rfl
   | cons _ _=>rw[l1]at l2;simp at l2
  | cons d ds ihl=>
   intro es xs hd h1 h2
   have hd1:d.depth≤n:=by unfold aV at hd;omega
   have hd2:aV ds≤n:=by unfold aV at hd;omega
   unfold bF at h1
   obtain⟨y,ys,rfl,a1,a2⟩:=h1
   cases es with
   | nil=>have:=h2.length;simp at this
   | cons e es=>
    unfold bF at h2
    obtain⟨y',ys',q,b1,b2⟩:=h2
    cases q
    rw[ih d e y hd1 a1 b1,ihl es ys hd2 a2 b2]
 have kinds:∀{a:Addr} {xs ys:List V},iM X.K H a xs→jP X.K H a ys→False:=λ{a xs ys} h1 h2=>by
  obtain⟨_,_,p1,_⟩:=I.list h1
  obtain⟨_,_,p2,_⟩:=I.tuple h2
  exact ne_of_list_tuple p1.isList (show s.heap.IsTuple a _ from p2) rfl
 intro n
 induction n with
 | zero=>
  intro d e x hd h1 h2
  cases d with
  | int i=>
   unfold Reads at h1
   subst h1
   cases e with
   | int j=>unfold Reads at h2;cases h2;rfl
   | non=>unfold Reads at h2;cases h2
   | lst es=>unfold Reads at h2;obtain⟨_,_,q,_⟩:=h2;cases q
   | tup es=>unfold Reads at h2;obtain⟨_,_,q,_⟩:=h2;cases q
  | non=>
   unfold Reads at h1
   subst h1
   cases e with
   | non=>rfl
   | int j=>unfold Reads at h2;cases h2
   | lst es=>unfold Reads at h2;obtain⟨_,_,q,_⟩:=h2;cases q
   | tup es=>unfold Reads at h2;obtain⟨_,_,q,_⟩:=h2;cases q
  | lst ds=>unfold DV.depth at hd;omega
  | tup ds=>unfold DV.depth at hd;omega
 | succ n ih=>
  intro d e x hd h1 h2
  cases d with
  | int i=>
   unfold Reads at h1
   subst h1
   cases e with
   | int j=>unfold Reads at h2;cases h2;rfl
   | non=>unfold Reads at h2;cases h2
   | lst es=>unfold Reads at h2;obtain⟨_,_,q,_⟩:=h2;cases q
   | tup es=>unfold Reads at h2;obtain⟨_,_,q,_⟩:=h2;cases q
  | non=>
   unfold Reads at h1
   subst h1
   cases e with
   | non=>rfl
   | int j=>unfold Reads at h2;cases h2
   | lst es=>unfold Reads at h2;obtain⟨_,_,q,_⟩:=h2;cases q
   | tup es=>unfold Reads at h2;obtain⟨_,_,q,_⟩:=h2;cases q
  | lst ds=>
   unfold Reads at h1
   obtain⟨a,xs,rfl,hq,r⟩:=h1
   cases e with
   | int j=>unfold Reads at h2;cases h2
   | non=>unfold Reads at h2;cases h2
   | lst es=>
    unfold Reads at h2
    obtain⟨b,ys,q,hq2,r2⟩:=h2
    cases q
    have:=I.Ba hq hq2
    subst this
    rw[lists n ih ds es xs (by unfold DV.depth at hd;omega) r r2]
   | tup es=>
    unfold Reads at h2
    obtain⟨b,ys,q,hq2,r2⟩:=h2
    cases q
    exact(kinds hq hq2).elim
  | tup ds=>
   unfold Reads at h1
   obtain⟨a,xs,rfl,hq,r⟩:=h1
   cases e with
   | int j=>unfold Reads at h2;cases h2
   | non=>unfold Reads at h2;cases h2
   | lst es=>
    unfold Reads at h2
    obtain⟨b,ys,q,hq2,r2⟩:=h2
    cases q
    exact(kinds hq2 hq).elim
   | tup es=>
    unfold Reads at h2
    obtain⟨b,ys,q,hq2,r2⟩:=h2
    cases q
    have:=I.wQ hq hq2
    subst this
    rw[lists n ih ds es xs (by unfold DV.depth at hd;omega) r r2]
theorem Pj(I:Inv X pins σ H s)(i:Int)(e:DV)(y:V)(u v:Value)(A:Around)(hu:A.units<cLine)(r2:Reads X.K H e y)(rx:RelV (.int i) u)(ry:RelV y v):RcAt A s u v (lC (.int i) e)∧EqAt A s u v (lC (.int i) e):=by
 obtain⟨t,rfl⟩:=rx
 cases e with
 | int j=>
  unfold Reads at r2
  subst r2
  obtain⟨t',rfl⟩:=ry
  rw[We]
  exact⟨RcAt.int_int _ _ _ _,EqAt.int_int _ _ _ _⟩
 | non=>
  unfold Reads at r2
  subst r2
  cases ry
  rw[cD (by intro z;cases z)]
  exact⟨RcAt.int_none _ _,EqAt.int_none _ _⟩
 | lst es=>
  unfold Reads at r2
  obtain⟨b,ys,rfl,hq,_⟩:=r2
  cases ry
  obtain⟨its,_,pl,_⟩:=I.list hq
  rw[cD (by intro z;cases z)]
  exact⟨RcAt.int_list _ _ pl.isList (hu),EqAt.int_list _ _ pl.isList (hu)⟩
 | tup es=>
  unfold Reads at r2
  obtain⟨b,ys,rfl,hq,_⟩:=r2
  cases ry
  obtain⟨its,_,pl,_⟩:=I.tuple hq
  rw[cD (by intro z;cases z)]
  exact⟨RcAt.int_tuple _ _ pl (hu),EqAt.int_tuple _ _ pl (hu)⟩
theorem Pk(I:Inv X pins σ H s)(e:DV)(y:V)(u v:Value)(A:Around)(hu:A.units<cLine)(r2:Reads X.K H e y)(rx:RelV .non u)(ry:RelV y v):RcAt A s u v (lC .non e)∧EqAt A s u v (lC .non e):=by
 cases rx
 cases e with
 | non=>
  unfold Reads at r2
  subst r2
  cases ry
  rw[fJ]
  exact⟨RcAt.none_none,EqAt.same _⟩
 | int j=>
  unfold Reads at r2
  subst r2
  obtain⟨t',rfl⟩:=ry
  rw[cD (by intro z;cases z)]
  exact⟨RcAt.none_int _ _,EqAt.none_int _ _⟩
 | lst es=>
  unfold Reads at r2
  obtain⟨b,ys,rfl,hq,_⟩:=r2
  cases ry
  obtain⟨its,_,pl,_⟩:=I.list hq
  rw[cD (by intro z;cases z)]
  exact⟨RcAt.none_list pl.isList hu,EqAt.none_list pl.isList hu⟩
 | tup es=>
  unfold Reads at r2
  obtain⟨b,ys,rfl,hq,_⟩:=r2
  cases ry
  obtain⟨its,_,pl,_⟩:=I.tuple hq
  rw[cD (by intro z;cases z)]
  exact⟨RcAt.none_tuple pl hu,EqAt.none_tuple pl hu⟩
theorem uE(I:Inv X pins σ H s):∀(n:Nat)(A:Around),(∀(d e:DV)(x y:V)(u v:Value)(A:Around),d.depth≤n→A.units+n<cLine→Reads X.K H d x→Reads X.K H e y→RelV x u→RelV y v→RcAt A s u v (lC d e)∧EqAt A s u v (lC d e)) →
  ∀(ds es:List DV)(xs ys:List V)(us vs:List Value),aV ds≤n→A.units+(n+1)<cLine→bF X.K H ds xs→bF X.K H es ys→Vals xs us→Vals ys vs →
  ∀j (h1:j<us.toArray.size) (h2:j<vs.toArray.size),EqAt A.in1 s us.toArray[j] vs.toArray[j] (match ds[j]?,es[j]? with | some d,some e=>lC d e | _,_=>true):=by
 intro n A ih ds es xs ys us vs hd hu r1 r2 v1 v2 j h1 h2
 have l1:j<ds.length:=by rw[←r1.length,v1.length];simpa using h1
 have l2:j<es.length:=by rw[←r2.length,v2.length];simpa using h2
 obtain⟨x,ex,rx⟩:=r1.get (i:=j) (d:=ds[j]) (by simp)
 obtain⟨y,ey,ry⟩:=r2.get (i:=j) (d:=es[j]) (by simp)
 obtain⟨u,eu,ru⟩:=v1.get ex
 obtain⟨v,ev,rv⟩:=v2.get ey
 have e1:us.toArray[j]=u:=by
  rw[B9]at eu
  obtain⟨_,eu⟩:=eu
  simpa using eu
 have e2:vs.toArray[j]=v:=by
  rw[B9]at ev
  obtain⟨_,ev⟩:=ev
  simpa using ev
 rw[e1,e2]
 simp only[B5 l1,B5 l2]
 exact(ih _ _ x y u v A.in1 (C7 (uD (i:=j) (by simp)) hd) (by rw[Em];omega) rx ry ru rv).2
theorem zG(I:Inv X pins σ H s):∀(n:Nat)(d e:DV)(x y:V)(u v:Value)(A:Around),d.depth≤n→A.units+n<cLine→Reads X.K H d x→Reads X.K H e y→RelV x u→RelV y v→RcAt A s u v (lC d e)∧EqAt A s u v (lC d e):=by
 have items:=uE I
 have seqs:∀(n:Nat)(A:Around),(∀(d e:DV)(x y:V)(u v:Value)(A:Around),d.depth≤n→A.units+n<cLine→Reads X.K H d x→Reads X.K H e y→RelV x u→RelV y v→RcAt A s u v (lC d e)∧EqAt A s u v (lC d e)) →
   ∀(d e:DV)(x y:V)(u v:Value),d.depth≤n+1→A.units+(n+1)<cLine→Reads X.K H d x→Reads X.K H e y→RelV x u→RelV y v→RcAt A s u v (lC d e)∧EqAt A s u v (lC d e):=by
  intro n A ih d e x y u v hd hu r1 r2 rx ry
  have of_same:∀{a b:Addr} {k:Bool},(a=b→k=true)→RcAt A s (.ref a) (.ref b) k→EqAt A s (.ref a) (.ref b) k:=λ{a b k} hk h=>by
   by_cases hab:a=b
   ·subst hab
    rw[hk rfl]
    exact EqAt.same _
   ·exact EqAt.of_refs hab h
  cases d with
  | int i=>
   unfold Reads at r1
   subst r1
   exact Pj I i e y u v A (by omega) r2 rx ry
  | non=>
   unfold Reads at r1
   subst r1
   exact Pk I e y u v A (by omega) r2 rx ry
  | lst ds=>
   unfold Reads at r1
   obtain⟨a,xs,rfl,hq1,Le⟩:=r1
   cases rx
   obtain⟨uF,v1,wI,_⟩:=I.list hq1
   have hd':aV ds≤n:=by unfold DV.depth at hd;omega
   cases e with
   | int j=>
    unfold Reads at r2
    subst r2
    obtain⟨t',rfl⟩:=ry
    rw[cD (by intro z;cases z)]
    exact⟨RcAt.list_int _ _ wI.isList (by omega),EqAt.list_int _ _ wI.isList (by omega)⟩
   | non=>
    unfold Reads at r2
    subst r2
    cases ry
    rw[cD (by intro z;cases z)]
    exact⟨RcAt.list_none wI.isList (by omega),EqAt.list_none wI.isList (by omega)⟩
   | lst es=>
    unfold Reads at r2
    obtain⟨b,ys,rfl,hq2,En⟩:=r2
    cases ry
    obtain⟨its2,v2,Bp,_⟩:=I.list hq2
    have e1:uF.toArray.size=ds.length:=by rw[B3,←v1.length,Le.length]
    have e2:its2.toArray.size=es.length:=by rw[B3,←v2.length,En.length]
    have rc:RcAt A s (.ref a) (.ref b) (lC (.lst ds) (.lst es)):=by
     by_cases hl:ds.length=es.length
     ·have q:=RcAt.lists (A:=A) (s:=s) wI.isList Bp.isList (by rw[e1,e2];exact hl) (by omega) (items n A ih ds es xs ys uF its2 hd' hu Le En v1 v2)
      rw[e1,fD hl]at q
      rw[Ig]
      exact q
     ·rw[cD (by intro z;cases z;exact hl rfl)]
      exact RcAt.lists_lengths wI.isList Bp.isList (by rw[e1,e2];simpa using hl) (by omega)
    exact⟨rc,of_same (λhab=>by
     subst hab
     refine lD.mpr (xG I (n+1) _ _ (.ref a) hd ?_ ?_)
     ·unfold Reads
      exact⟨a,xs,rfl,hq1,Le⟩
     ·unfold Reads
      exact⟨a,ys,rfl,hq2,En⟩) rc⟩
   | tup es=>
    unfold Reads at r2
    obtain⟨b,ys,rfl,hq2,En⟩:=r2
    cases ry
    obtain⟨its2,v2,Bp,_⟩:=I.tuple hq2
    rw[cD (by intro z;cases z)]
    exact⟨RcAt.list_tuple wI.isList Bp (by omega),EqAt.list_tuple wI.isList Bp (by omega)⟩
  | tup ds=>
   unfold Reads at r1
   obtain⟨a,xs,rfl,hq1,Le⟩:=r1
   cases rx
   obtain⟨uF,v1,wI,_⟩:=I.tuple hq1
   have hd':aV ds≤n:=by unfold DV.depth at hd;omega
   cases e with
   | int j=>
    unfold Reads at r2
    subst r2
    obtain⟨t',rfl⟩:=ry
    rw[cD (by intro z;cases z)]
    exact⟨RcAt.tuple_int _ _ wI (by omega),EqAt.tuple_int _ _ wI (by omega)⟩
   | non=>
    unfold Reads at r2
    subst r2
    cases ry
    rw[cD (by intro z;cases z)]
    exact⟨RcAt.tuple_none wI (by omega),EqAt.tuple_none wI (by omega)⟩
   | lst es=>
    unfold Reads at r2
    obtain⟨b,ys,rfl,hq2,En⟩:=r2
    cases ry
    obtain⟨its2,v2,Bp,_⟩:=I.list hq2
    rw[cD (by intro z;cases z)]
    exact⟨RcAt.tuple_list wI Bp.isList (by omega),EqAt.tuple_list wI Bp.isList (by omega)⟩
   | tup es=>
    unfold Reads at r2
    obtain⟨b,ys,rfl,hq2,En⟩:=r2
    cases ry
    obtain⟨its2,v2,Bp,_⟩:=I.tuple hq2
    have e1:uF.toArray.size=ds.length:=by rw[B3,←v1.length,Le.length]
    have e2:its2.toArray.size=es.length:=by rw[B3,←v2.length,En.length]
    have rc:RcAt A s (.ref a) (.ref b) (lC (.tup ds) (.tup es)):=by
     have q:=RcAt.tuples (A:=A) (s:=s) (l:=a) (b:=b) wI Bp (by omega) (items n A ih ds es xs ys uF its2 hd' hu Le En v1 v2)
     rw[e1,e2]at q
     by_cases hl:ds.length=es.length
     ·rw[←hl,P6,fD hl]at q
      rw[Ih]
      simpa using q
     ·rw[cD (by intro z;cases z;exact hl rfl)]
      have z:(ds.length==es.length)=false:=by simpa using hl
      rw[z,W4]at q
      exact q
    exact⟨rc,of_same (λhab=>by
     subst hab
     refine lD.mpr (xG I (n+1) _ _ (.ref a) hd ?_ ?_)
     ·unfold Reads
      exact⟨a,xs,rfl,hq1,Le⟩
     ·unfold Reads
      exact⟨a,ys,rfl,hq2,En⟩) rc⟩
 intro n
 induction n with
 | zero=>
  intro d e x y u v A hd hu r1 r2 rx ry
  cases d with
  | int i=>
   unfold Reads at r1
   subst r1
   exact Pj I i e y u v A (by omega) r2 rx ry
  | non=>
   unfold Reads at r1
   subst r1
   exact Pk I e y u v A (by omega) r2 rx ry
  | lst ds=>unfold DV.depth at hd;omega
  | tup ds=>unfold DV.depth at hd;omega
 | succ n ih=>
  intro d e x y u v A hd hu r1 r2 rx ry
  exact seqs n A ih d e x y u v hd hu r1 r2 rx ry
end
section
variable{X:Cx}
def DY(K:aA)(neg:Bool):R2:=λx y H Q=>∃d e,Reads K H d x∧Reads K H e y∧d.depth≤32∧Q (.bl (if neg then !lC d e else lC d e)) H
theorem EY(hu:X.A.units+64<cLine):pC X (compareOp .Eq) (DY X.K false):=by
 intro pins s σ H x y v u Q I rx ry h
 obtain⟨d,e,r1,r2,hd,q⟩:=h
 exact(zG I 32 d e x y v u X.A hd (by omega) r1 r2 rx ry).1 X.prog X.w X.xe _ ⟨.bl _,H,I,rfl,q⟩
open SeqAt in
theorem FJ(hu:X.A.units+64<cLine):pC X (compareOp .NotEq) (λx y H Q=>∃ds es,Reads X.K H (.lst ds) x∧Reads X.K H (.lst es) y∧aV ds≤32∧Q (.bl (!lC (.lst ds) (.lst es))) H):=by
 intro pins s σ H x y v u Q I rx ry h
 obtain⟨ds,es,r1,r2,hd,q⟩:=h
 unfold Reads at r1 r2
 obtain⟨a,xs,rfl,hq1,Le⟩:=r1
 obtain⟨b,ys,rfl,hq2,En⟩:=r2
 cases rx
 cases ry
 obtain⟨uF,v1,wI,_⟩:=I.list hq1
 obtain⟨its2,v2,Bp,_⟩:=I.list hq2
 have e1:uF.toArray.size=ds.length:=by rw[B3,←v1.length,Le.length]
 have e2:its2.toArray.size=es.length:=by rw[B3,←v2.length,En.length]
 have rc:RcNeAt X.A s (.ref a) (.ref b) (!lC (.lst ds) (.lst es)):=by
  by_cases hl:ds.length=es.length
  ·have z:=RcNeAt.lists (A:=X.A) (s:=s) wI.isList Bp.isList (by rw[e1,e2];exact hl) (by omega) (uE I 32 X.A (λd e x y u v A a1 a2 a3 a4 a5 a6=>zG I 32 d e x y u v A a1 a2 a3 a4 a5 a6) ds es xs ys uF its2 hd (by omega) Le En v1 v2)
   rw[e1,fD hl]at z
   rw[Ig]
   exact z
  ·rw[cD (by intro z;cases z;exact hl rfl)]
   exact RcNeAt.lists_lengths wI.isList Bp.isList (by rw[e1,e2];simpa using hl) (by omega)
 exact rc X.prog X.w X.xe _ ⟨.bl _,H,I,rfl,q⟩
end
end L2


namespace L2
open PySem PySem.Spec PyProof.Rows
structure Raw(K:aA)(mg:Str→Option Value)(x:Str)(st:Stmt):Prop where
 ex:∃f fd,Us K x x st f fd∧mg x=some (.ref f)
theorem FN{K:aA}{h:Heap}{mg:Str→Option Value}{x:Str}{st:Stmt}{f:Addr}{oc:Value}{od an:Option Addr}{osl:Array (Option Value)}{kV doc pm cdv ct:Value}(X:K.In h)(G:h.Ns mainGlobals mg)
  (a:T6 K mainGlobals x=some (some (.ref f))) (l:K.lookup f=some ⟨oc,od,.func (F7 x x (cT st) (bV st) (aK st) .none kV doc pm an cdv ct),osl⟩)
  (c:M0 K cdv x=true) (k:G9 K (.ref f)=true):Raw K mg x st:=⟨⟨f,_,DW l c k,W8 X G a⟩⟩
structure nR(P:Program)(w:World)(K:aA)(mg:Str→Option Value)(base:Heap)(x:Str)(k:Nat)(n:Nat)(sp:Sp):Prop where
 ex:∃f fd ps,ps.length=n∧qP P w K mg base Np k f fd ps sp∧Binds K fd ps []∧G9 K (.ref f)=true∧mg x=some (.ref f)
theorem Raw.cal{P:Program}{w:World}{K:aA}{mg:Str→Option Value}{base:Heap}{x:Str}{st:Stmt}{N ps:List Str}{k:Nat}{sp:Sp}(R:Raw K mg x st)(S:bL N ps (aK st))(len:∀vs H Q E,sp vs H Q E→vs.length=ps.length)
  (hb:∀(kV doc pm:Value)(an:Option Addr)(cdv ct:Value)(us:List Value),us.length=ps.length→bindArgs (F7 x x (cT st) (bV st) (aK st) .none kV doc pm an cdv ct) ⟨us,[]⟩=pure (ps.zip us))
  (hbody:∀(f:Addr)(cdv:Value)(A:Around)(outer:List Env)(s:Shared)(H:Hp)(vs:List V)(Q:VK)(E:XK),gK k (A.deeper (envOfC x (aK st) s.heap.objs.size f cdv))→sp vs H Q E →
   ∃t,Dw (yR Np P w K mg base N x (aK st) f cdv A outer s H E).Zz (bV st) t∧t {nx:=λ_ H'=>Q .non H',rt:=Q} (start N vs) H):nR P w K mg base x (k+1) ps.length sp:=by
 obtain⟨f,fd,F,m⟩:=R.ex
 exact⟨f,fd,ps,rfl,F.ok S len λcdv A outer s H vs Q E hr h=>hbody f cdv A outer s H vs Q E hr h,F.binds hb,F.kp,m⟩
theorem FQ{X:Cx}{x:Str}{k n:Nat}{sp:Sp}{e:Expr}{es:List Expr}{p pos:Pos}{t:TA}(C:nR X.prog X.w X.K X.mg X.base x k n sp)(hr:gK k X.A)(hg:Gl X x)
  (ha:PA X (e::es) t) (hdb:(x==("__debug__" : Str))=false:=by decide) (he:starEach (e::es) X.env=(false,eval e X.env)::starEach es X.env:=by rfl) (hpl:(backTo pos (starEach es X.env)).any (·.1)=false:=by rfl) :
  PE X (.Call (.Name x p) (e::es) [] pos) (Bc sp [] E0 t):=by
 obtain⟨f,fd,ps,_,F,hb,hk,hm⟩:=C.ex
 exact Vn F hr hg hm hk hb .nil QL ha hdb he hpl
theorem call_of{sp:Sp}{E:XK}{t:TA}{σ:St}{H:Hp}{Q:VK}(h:t σ H λvs H1=>sp vs H1 Q E):Bc sp [] E t σ H Q:=by
 unfold Bc
 have e:(λ(vs:List V) (H1:Hp)=>sp (vs++[]) H1 Q E)=λvs H1=>sp vs H1 Q E:=by funext vs H1;rw[Q8]
 rw[e]
 exact h
theorem bG{H:Hp}{p:Addr}(h:H p=none)(o:HO):aG H (upd H p o):=λb u q=>by rw[aP (cO q h)];exact q
theorem aG.tup{K:aA}{H H':Hp}{a:Addr}{xs:List V}(e:aG H H')(h:jP K H a xs):jP K H' a xs:=by
 rcases h with (h | ⟨o,h⟩) | h
 ·exact .inl (.inl (e _ _ h))
 ·exact .inl (.inr ⟨o,e _ _ h⟩)
 ·exact .inr h
mutual
theorem aG.reads{K:aA}{H H':Hp}(e:aG H H'):∀(d:DV)(x:V),Reads K H d x→Reads K H' d x
 | .int i,x,h=>by unfold Reads at h ⊢;exact h
 | .non,x,h=>by unfold Reads at h ⊢;exact h
 | .lst ds,x,h=>by
  unfold Reads at h ⊢
  obtain⟨a,xs,r,hq,l⟩:=h
  exact⟨a,xs,r,e.seq hq,aG.Eo e ds xs l⟩
 | .tup ds,x,h=>by
  unfold Reads at h ⊢
  obtain⟨a,xs,r,hq,l⟩:=h
  exact⟨a,xs,r,e.tup hq,aG.Eo e ds xs l⟩
theorem aG.Eo{K:aA}{H H':Hp}(e:aG H H'):∀(ds:List DV)(xs:List V),bF K H ds xs→bF K H' ds xs
 | [],xs,h=>by unfold bF at h ⊢;exact h
 | d::ds,xs,h=>by
  unfold bF at h ⊢
  obtain⟨y,ys,r,h1,h2⟩:=h
  exact⟨y,ys,r,aG.reads e d y h1,aG.Eo e ds ys h2⟩
end
theorem eN:∀ns:List Int,aV (ns.map DV.int)=0
 | []=>by rw[E9];unfold aV;rfl
 | n::ns=>by rw[C5];unfold aV DV.depth;rw[eN ns];rfl
theorem Pn{ns ms:List Int}:ns.map DV.int=ms.map DV.int↔ns=ms:=by
 constructor
 ·intro h
  have:∀(a b:Int),DV.int a=DV.int b→a=b:=λa b e=>by cases e;rfl
  exact(List.map_inj_right this).mp h
 ·rintro rfl;rfl
theorem YK{xs:List V}{k:Int}{v:V}(h0:0≤k)(h:xs[k.toNat]?=some v):Hu xs k=some v:=by
 have ek:k=((k.toNat:Nat):Int):=by omega
 rw[ek]
 exact Vr h
def mk(ns:List Int):List (Key×V):=ns.foldl (λkvs n=>putK kvs (L4 n) (V.bl true)) []
end L2
namespace L2
theorem cG.at{scope:PySem.Scope}{N:List PySem.Str}{k:Nat}{fr:List Nat}(oG:PySem.Scope)(oN:List PySem.Str)(h:Ib oG scope oN N k fr=true):cG oG scope oN N k fr:=cG.of h
end L2
namespace L2
open PySem PySem.Spec PyProof.Rows
def nT(H:Hp)(p:Addr):Prop:=(∀xs,H p≠some (.tup xs))∧∀o xs,H p≠some (.iC o (.tup xs))
theorem mK{H:Hp}{p:Addr}{xs:List V}(h:H p=some (.lst xs)):nT H p:=⟨λys e=>(by rw[h]at e;cases e),λo ys e=>(by rw[h]at e;cases e)⟩
theorem Pq{H:Hp}{p:Addr}{kvs:List (Key×V)}(h:H p=some (.dK kvs)):nT H p:=⟨λys e=>(by rw[h]at e;cases e),λo ys e=>(by rw[h]at e;cases e)⟩
theorem jP.upd{K:aA}{H:Hp}{a p:Addr}{xs:List V}{o:HO}(h:jP K H a xs)(n:nT H p):jP K (upd H p o) a xs:=by
 rcases h with (h | ⟨u,h⟩) | h
 ·exact .inl (.inl (by rw[aP (λz=>n.1 xs (by rw[←z];exact h))];exact h))
 ·exact .inl (.inr ⟨u,by rw[aP (λz=>n.2 u xs (by rw[←z];exact h))];exact h⟩)
 ·exact .inr h
mutual
def dZ:DV→Bool
 | .int _=>true
 | .non=>true
 | .lst _=>false
 | .tup ds=>aZ ds
def aZ:List DV→Bool
 | []=>true
 | d::ds=>dZ d&&aZ ds
end
mutual
theorem Lf{K:aA}{H:Hp}{p:Addr}{o:HO}(n:nT H p):∀(d:DV)(x:V),dZ d=true→Reads K H d x→Reads K (upd H p o) d x
 | .int i,x,_,h=>by unfold Reads at h ⊢;exact h
 | .non,x,_,h=>by unfold Reads at h ⊢;exact h
 | .lst ds,x,hi,h=>by unfold dZ at hi;cases hi
 | .tup ds,x,hi,h=>by
  unfold dZ at hi
  unfold Reads at h ⊢
  obtain⟨a,xs,r,hq,l⟩:=h
  exact⟨a,xs,r,hq.upd n,uG n ds xs hi l⟩
theorem uG{K:aA}{H:Hp}{p:Addr}{o:HO}(n:nT H p):∀(ds:List DV)(xs:List V),aZ ds=true→bF K H ds xs→bF K (upd H p o) ds xs
 | [],xs,_,h=>by unfold bF at h ⊢;exact h
 | d::ds,xs,hi,h=>by
  unfold aZ at hi
  rw[D5]at hi
  unfold bF at h ⊢
  obtain⟨y,ys,r,h1,h2⟩:=h
  exact⟨y,ys,r,Lf n d y hi.1 h1,uG n ds ys hi.2 h2⟩
end
theorem pG{n d:Nat}{k:Nat}:HT.cN n d (some (k:Int))=min k n:=HT.Vo n d k
end L2
namespace L2
open PySem PySem.Spec PyProof.Rows
section
variable{X:Cx}
end
end L2
namespace L2
open PySem PySem.Spec PyProof.Rows
end L2
namespace L2
open PySem PySem.Spec PyProof.Rows
section
variable{X:Cx}
end
theorem nU:∀{l m:List Int},l.Pairwise (·<·)→m.Pairwise (·<·)→(∀j,j∈l↔j∈m)→l=m
  | [],[],_,_,_=>rfl
  | [],b::m,_,_,h=>absurd ((h b).mpr C4) (by simp)
  | a::l,[],_,_,h=>absurd ((h a).mp C4) (by simp)
  | a::l,b::m,h1,h2,h=>by
    obtain⟨VJ,YL⟩:=F8.mp h1
    obtain⟨VL,YM⟩:=F8.mp h2
    have e:a=b:=by
      rcases B8.mp ((h a).mp C4)with q | q
      · exact q
      · rcases B8.mp ((h b).mpr C4)with q' | q'
        · exact q'.symm
        · have:=VL a q
          have:=VJ b q'
          omega
    subst e
    rw[nU YL YM λj=>?_]
    constructor
    · intro hj
      rcases B8.mp ((h j).mp (B7 _ hj))with q | q
      · have:=VJ j hj
        omega
      · exact q
    · intro hj
      rcases B8.mp ((h j).mpr (B7 _ hj))with q | q
      · have:=VL j hj
        omega
      · exact q
theorem Bq{K:aA}:E8 K (.type "int") (.type "int")=some true:=by unfold E8;rfl
theorem wJ{K:aA}:E8 K (.type "bool") (.type "bool")=some true:=by unfold E8;rfl
theorem wK{K:aA}:E8 K (.type "list") (.type "list")=some true:=by unfold E8;rfl
theorem sO{K:aA}:E8 K (.type "tuple") (.type "tuple")=some true:=by unfold E8;rfl
theorem zH{K:aA}:E8 K (.type "int") (.type "bool")=some false:=by
  first | rfl | decide | (unfold E8 W5;rfl) | (unfold E8 W5;simp;decide)
end L2


namespace L2
open PySem PySem.Spec PyProof.Rows
section
variable{X:Cx}
open SeqAt in
theorem FW(hu:X.A.units+64<cLine):pC X (compareOp .NotEq) (λx y H Q=>∃ds es,Reads X.K H (.tup ds) x∧Reads X.K H (.tup es) y∧aV ds≤32∧Q (.bl (!lC (.tup ds) (.tup es))) H):=by
 intro pins s σ H x y v u Q I rx ry h
 obtain⟨ds,es,r1,r2,hd,q⟩:=h
 unfold Reads at r1 r2
 obtain⟨a,xs,rfl,hq1,Le⟩:=r1
 obtain⟨b,ys,rfl,hq2,En⟩:=r2
 cases rx
 cases ry
 obtain⟨uF,v1,wI,_⟩:=I.tuple hq1
 obtain⟨its2,v2,Bp,_⟩:=I.tuple hq2
 have e1:uF.toArray.size=ds.length:=by rw[B3,←v1.length,Le.length]
 have e2:its2.toArray.size=es.length:=by rw[B3,←v2.length,En.length]
 have rc:RcNeAt X.A s (.ref a) (.ref b) (!lC (.tup ds) (.tup es)):=by
  have z:=RcNeAt.tuples (A:=X.A) (s:=s) (l:=a) (b:=b) wI Bp (by omega) (uE I 32 X.A (λd e x y u v A a1 a2 a3 a4 a5 a6=>zG I 32 d e x y u v A a1 a2 a3 a4 a5 a6) ds es xs ys uF its2 hd (by omega) Le En v1 v2)
  rw[e1,e2]at z
  by_cases hl:ds.length=es.length
  ·rw[←hl,P6,fD hl]at z
   rw[Ih]
   simpa using z
  ·rw[cD (by intro z;cases z;exact hl rfl)]
   have zz:(ds.length==es.length)=false:=by simpa using hl
   rw[zz,W4]at z
   exact z
 exact rc X.prog X.w X.xe _ ⟨.bl _,H,I,rfl,q⟩
end
end L2


namespace L2
open PySem PySem.Spec PyProof.Rows
inductive D where
  | non | bl (b:Bool) | int (i:Int) | str (x:Str)
  | lst (ds:List D) | tup (ds:List D)
  | dk (ks:List Key) (ds:List D)
  | dt (ks:List (List Key)) (ds:List D)
  | ins (C:Addr) (nm:List Str) (ds:List D)
abbrev Fp:=Addr→Prop
def Apart(A B:Fp):Prop:=∀x,A x→¬B x
def Is(A B:Fp):Prop:=∀x,A x↔B x
def None(A:Fp):Prop:=∀x,¬A x
abbrev dD(A B:Fp):Fp:=λx=>A x∨B x
mutual
def Rv(K:aA)(H:Hp):D→V→Prop
 | .non,v=>v=.non
 | .bl b,v=>v=.bl b
 | .int i,v=>v=.int i
 | .str x,v=>v=.str x
 | .lst ds,v=>∃a xs,v=.ref a∧iM K H a xs∧bH K H ds xs
 | .tup ds,v=>∃a xs,v=.ref a∧jP K H a xs∧bH K H ds xs
 | .dk ks ds,v=>∃a xs,v=.ref a∧Rd H a (.dK (ks.zip xs))∧ks.length=xs.length∧bH K H ds xs
 | .dt ks ds,v=>∃a xs,v=.ref a∧Rd H a (.dT (ks.zip xs))∧ks.length=xs.length∧bH K H ds xs
 | .ins C nm ds,v=>∃a dx xs,v=.ref a∧H a=some (.ins C dx (nm.zip xs))∧nm.length=xs.length∧bH K H ds xs
def bH(K:aA)(H:Hp):List D→List V→Prop
 | [],xs=>xs=[]
 | d::ds,xs=>∃y ys,xs=y::ys∧Rv K H d y∧bH K H ds ys
end
theorem aG.rd{H H':Hp}(e:aG H H'){a:Addr}{u:HO}(h:Rd H a u):Rd H' a u:=by
 rcases h with h | ⟨o,h⟩
 ·exact .inl (e _ _ h)
 ·exact .inr ⟨o,e _ _ h⟩
mutual
theorem aG.rv{K:aA}{H H':Hp}(e:aG H H'):∀(d:D)(v:V),Rv K H d v→Rv K H' d v
 | .non,v,h=>by unfold Rv at h ⊢;exact h
 | .bl _,v,h=>by unfold Rv at h ⊢;exact h
 | .int _,v,h=>by unfold Rv at h ⊢;exact h
 | .str _,v,h=>by unfold Rv at h ⊢;exact h
 | .lst ds,v,h=>by unfold Rv at h ⊢;obtain⟨a,xs,r,hq,l⟩:=h;exact⟨a,xs,r,e.seq hq,aG.Nq e ds xs l⟩
 | .tup ds,v,h=>by unfold Rv at h ⊢;obtain⟨a,xs,r,hq,l⟩:=h;exact⟨a,xs,r,e.tup hq,aG.Nq e ds xs l⟩
 | .dk ks ds,v,h=>by unfold Rv at h ⊢;obtain⟨a,xs,r,hq,hl,l⟩:=h;exact⟨a,xs,r,e.rd hq,hl,aG.Nq e ds xs l⟩
 | .dt ks ds,v,h=>by unfold Rv at h ⊢;obtain⟨a,xs,r,hq,hl,l⟩:=h;exact⟨a,xs,r,e.rd hq,hl,aG.Nq e ds xs l⟩
 | .ins C nm ds,v,h=>by unfold Rv at h ⊢;obtain⟨a,dx,xs,r,hq,hl,l⟩:=h;exact⟨a,dx,xs,r,e _ _ hq,hl,aG.Nq e ds xs l⟩
theorem aG.Nq{K:aA}{H H':Hp}(e:aG H H'):∀(ds:List D)(xs:List V),bH K H ds xs→bH K H' ds xs
 | [],xs,h=>by unfold bH at h ⊢;exact h
 | d::ds,xs,h=>by unfold bH at h ⊢;obtain⟨y,ys,r,h1,h2⟩:=h;exact⟨y,ys,r,aG.rv e d y h1,aG.Nq e ds ys h2⟩
end
theorem bH.length{K:aA}{H:Hp}:∀{ds:List D} {xs:List V},bH K H ds xs→xs.length=ds.length
 | [],xs,h=>by unfold bH at h;subst h;rfl
 | d::ds,xs,h=>by unfold bH at h;obtain⟨y,ys,rfl,_,h2⟩:=h;rw[G5,G5,bH.length h2]
theorem bH.get{K:aA}{H:Hp}:∀{ds:List D} {xs:List V} {i:Nat} {d:D},bH K H ds xs→ds[i]?=some d→∃x,xs[i]?=some x∧Rv K H d x
 | [],xs,i,d,h,e=>by simp at e
 | d'::ds,xs,0,d,h,e=>by unfold bH at h;obtain⟨y,ys,rfl,h1,_⟩:=h;simp at e;subst e;exact⟨y,rfl,h1⟩
 | d'::ds,xs,i+1,d,h,e=>by
  unfold bH at h
  obtain⟨y,ys,rfl,_,h2⟩:=h
  obtain⟨x,e1,e2⟩:=bH.get (i:=i) (d:=d) h2 (by simpa using e)
  exact⟨x,by simpa using e1,e2⟩
theorem bH.of{K:aA}{H:Hp}:∀{ds:List D} {xs:List V},xs.length=ds.length→(∀(i:Nat)(d:D)(x:V),ds[i]?=some d→xs[i]?=some x→Rv K H d x)→bH K H ds xs
 | [],xs,hl,_=>by unfold bH;exact J7 hl
 | d::ds,[],hl,_=>by simp at hl
 | d::ds,x::xs,hl,h=>by
  unfold bH
  exact⟨x,xs,rfl,h 0 d x rfl rfl,bH.of (by simpa using hl) λi e y h1 h2=>h (i+1) e y (by simpa using h1) (by simpa using h2)⟩
theorem bH.snoc{K:aA}{H:Hp}{ds:List D}{xs:List V}{d:D}{x:V}(h:bH K H ds xs)(h1:Rv K H d x):bH K H (ds++[d]) (xs++[x]):=by
 induction ds generalizing xs with
 | nil=>unfold bH at h;subst h;rw[M8,M8];unfold bH;exact⟨x,[],rfl,h1,by unfold bH;rfl⟩
 | cons e es ih=>unfold bH at h;obtain⟨y,ys,rfl,h2,h3⟩:=h;rw[G2,G2];unfold bH;exact⟨y,_,rfl,h2,ih h3⟩
def cV{α β:Type}(R:α→Fp→β→Prop):List α→Fp→List β→Prop
 | [],A,ys=>None A∧ys=[]
 | d::ds,A,ys=>∃y yt A1 A2,ys=y::yt∧Apart A1 A2∧Is A (dD A1 A2)∧R d A1 y∧cV R ds A2 yt
section
variable{α β:Type}{R R':α→Fp→β→Prop}
theorem cV.congr:∀{ds:List α} {A A':Fp} {ys:List β},cV R ds A ys→Is A A'→cV R ds A' ys
 | [],A,A',ys,h,e=>⟨λx q=>h.1 x ((e x).mpr q),h.2⟩
 | d::ds,A,A',ys,⟨y,yt,A1,A2,h1,h2,h3,h4⟩,e=>⟨y,yt,A1,A2,h1,h2,λx=>((e x).symm).trans (h3 x),h4⟩
theorem cV.mono:∀{ds:List α} {A:Fp} {ys:List β},cV R ds A ys→(∀e B z,(∀x,B x→A x)→R e B z→R' e B z)→cV R' ds A ys
 | [],A,ys,h,_=>h
 | d::ds,A,ys,⟨y,yt,A1,A2,h1,h2,h3,h4,h5⟩,m=>
  ⟨y,yt,A1,A2,h1,h2,h3,m _ _ _ (λx q=>(h3 x).mpr (.inl q)) h4,h5.mono λe B z hb=>m e B z λx q=>(h3 x).mpr (.inr (hb x q))⟩
theorem cV.len:∀{ds:List α} {A:Fp} {ys:List β},cV R ds A ys→ys.length=ds.length
 | [],A,ys,h=>by rw[h.2];rfl
 | d::ds,A,ys,⟨y,yt,A1,A2,h1,h2,h3,h4,h5⟩=>by rw[h1,G5,G5,h5.len]
theorem cV.focus:∀{ds:List α} {A:Fp} {ys:List β} {i:Nat} {d:α},cV R ds A ys→ds[i]?=some d→∃y A1 C,ys[i]?=some y∧Apart A1 C∧Is A (dD A1 C)∧R d A1 y ∧
    ∀(R':α→Fp→β→Prop),(∀e B z,(∀x,B x→C x)→R e B z→R' e B z)→∀d' y' Uu,Apart Uu C→R' d' Uu y'→cV R' (ds.set i d') (dD Uu C) (ys.set i y')
  | [],A,ys,i,d,h,e=>by simp at e
  | d0::ds,A,ys,0,d,⟨y,yt,A1,A2,h1,h2,h3,h4,h5⟩,e=>by
    simp at e
    subst e h1
    exact⟨y,A1,A2,rfl,h2,h3,h4,λR' m d' y' Uu ap r=>⟨y',yt,Uu,A2,rfl,ap,λx=>Iff.rfl,r,h5.mono m⟩⟩
  | d0::ds,A,ys,i+1,d,⟨y,yt,A1,A2,h1,h2,h3,h4,h5⟩,e=>by
    subst h1
    obtain⟨z,B1,C,e1,ap,hA,r,k⟩:=cV.focus (i:=i) (d:=d) h5 (by simpa using e)
    refine⟨z,B1,dD A1 C,by simpa using e1,?_,?_,r,λR' m d' y' Uu ap' r'=>?_⟩
    · intro x hx hc
      rcases hc with hc | hc
      · exact h2 x hc ((hA x).mpr (.inl hx))
      · exact ap x hx hc
    · intro x
      rw[h3 x]
      constructor
      · rintro(q | q)
        · exact .inr (.inl q)
        · rcases(hA x).mp q with q | q
          · exact .inl q
          · exact .inr (.inr q)
      · rintro(q | q | q)
        · exact .inr ((hA x).mpr (.inl q))
        · exact .inl q
        · exact .inr ((hA x).mpr (.inr q))
    · refine⟨y,_,A1,dD Uu C,rfl,?_,?_,m _ _ _ (λx q=>.inl q) h4,k R' (λe B z hb=>m e B z λx q=>.inr (hb x q)) d' y' Uu (λx q q'=>ap' x q (.inr q')) r'⟩
      · intro x q q'
        rcases q' with q' | q'
        · exact ap' x q' (.inl q)
        · exact h2 x q ((hA x).mpr (.inr q'))
      · intro x
        show (Uu x∨A1 x∨C x)↔(A1 x∨Uu x∨C x)
        constructor
        · rintro(q | q | q)
          · exact .inr (.inl q)
          · exact .inl q
          · exact .inr (.inr q)
        · rintro(q | q | q)
          · exact .inr (.inl q)
          · exact .inl q
          · exact .inr (.inr q)
theorem cV.snoc:∀{ds:List α} {A A1:Fp} {ys:List β} {d:α} {y:β},cV R ds A ys→R d A1 y→Apart A A1→cV R (ds++[d]) (dD A A1) (ys++[y])
 | [],A,A1,ys,d,y,h,r,ap=>by
  rw[h.2]
  exact⟨y,[],A1,λ_=>False,rfl,λ_ _ z=>z,λx=>⟨λq=>q.elim (λq=>absurd q (h.1 x)) .inl,λq=>q.elim .inr False.elim⟩,r,λ_ z=>z,rfl⟩
 | d0::ds,A,A1,ys,d,y,⟨y0,yt,B1,B2,h1,h2,h3,h4,h5⟩,r,ap=>by
  subst h1
  refine⟨y0,yt++[y],B1,dD B2 A1,rfl,?_,?_,h4,cV.snoc h5 r λx q=>ap x ((h3 x).mpr (.inr q))⟩
  ·intro x q q'
   rcases q' with q' | q'
   ·exact h2 x q q'
   ·exact ap x ((h3 x).mpr (.inl q)) q'
  ·intro x
   show (A x∨A1 x)↔(B1 x∨B2 x∨A1 x)
   rw[h3 x]
   exact or_assoc
end
mutual
def Ow(K:aA)(H:Hp):D→Fp→V→Prop
 | .non,A,v=>None A∧v=.non
 | .bl b,A,v=>None A∧v=.bl b
 | .int i,A,v=>None A∧v=.int i
 | .str x,A,v=>None A∧v=.str x
 | .lst ds,A,v=>∃a xs B,v=.ref a∧H a=some (.lst xs)∧¬B a∧Is A (dD (·=a) B)∧bY K H ds B xs
 | .tup ds,A,v=>∃a xs,v=.ref a∧jP K H a xs∧bY K H ds A xs
 | .dk ks ds,A,v=>∃a xs B,v=.ref a∧H a=some (.dK (ks.zip xs))∧ks.length=xs.length∧¬B a∧Is A (dD (·=a) B)∧bY K H ds B xs
 | .dt ks ds,A,v=>∃a xs B,v=.ref a∧H a=some (.dT (ks.zip xs))∧ks.length=xs.length∧¬B a∧Is A (dD (·=a) B)∧bY K H ds B xs
 | .ins C nm ds,A,v=>∃a dx xs B,v=.ref a∧H a=some (.ins C dx (nm.zip xs))∧H dx=some (.own a)∧nm.length=xs.length∧¬B a∧¬B dx∧Is A (dD (λx=>x=a∨x=dx) B)∧bY K H ds B xs
def bY(K:aA)(H:Hp):List D→Fp→List V→Prop
 | [],A,ys=>None A∧ys=[]
 | d::ds,A,ys=>∃y yt A1 A2,ys=y::yt∧Apart A1 A2∧Is A (dD A1 A2)∧Ow K H d A1 y∧bY K H ds A2 yt
end
theorem cL{K:aA}{H:Hp}:∀{ds:List D} {A:Fp} {ys:List V},bY K H ds A ys↔cV (Ow K H) ds A ys
 | [],A,ys=>by unfold bY cV;exact Iff.rfl
 | d::ds,A,ys=>by
  unfold bY cV
  constructor
  ·rintro⟨y,yt,A1,A2,h1,h2,h3,h4,h5⟩;exact⟨y,yt,A1,A2,h1,h2,h3,h4,cL.mp h5⟩
  ·rintro⟨y,yt,A1,A2,h1,h2,h3,h4,h5⟩;exact⟨y,yt,A1,A2,h1,h2,h3,h4,cL.mpr h5⟩
def qQ(K:aA)(H H':Hp):Prop:=∀a xs,jP K H a xs→jP K H' a xs
theorem aG.tk{K:aA}{H H':Hp}(e:aG H H'):qQ K H H':=λ_ _ h=>e.tup h
theorem Ow.congr{K:aA}{H:Hp}{d:D}{A A':Fp}{v:V}(h:Ow K H d A v)(e:Is A A'):Ow K H d A' v:=by
 cases d with
 | non=>unfold Ow at h ⊢;exact⟨λx q=>h.1 x ((e x).mpr q),h.2⟩
 | bl b=>unfold Ow at h ⊢;exact⟨λx q=>h.1 x ((e x).mpr q),h.2⟩
 | int b=>unfold Ow at h ⊢;exact⟨λx q=>h.1 x ((e x).mpr q),h.2⟩
 | str b=>unfold Ow at h ⊢;exact⟨λx q=>h.1 x ((e x).mpr q),h.2⟩
 | lst ds=>unfold Ow at h ⊢;obtain⟨a,xs,B,h1,h2,h3,h4,h5⟩:=h;exact⟨a,xs,B,h1,h2,h3,λx=>(e x).symm.trans (h4 x),h5⟩
 | tup ds=>unfold Ow at h ⊢;obtain⟨a,xs,h1,h2,h3⟩:=h;exact⟨a,xs,h1,h2,cL.mpr ((cL.mp h3).congr e)⟩
 | dk ks ds=>unfold Ow at h ⊢;obtain⟨a,xs,B,h1,h2,h2',h3,h4,h5⟩:=h;exact⟨a,xs,B,h1,h2,h2',h3,λx=>(e x).symm.trans (h4 x),h5⟩
 | dt ks ds=>unfold Ow at h ⊢;obtain⟨a,xs,B,h1,h2,h2',h3,h4,h5⟩:=h;exact⟨a,xs,B,h1,h2,h2',h3,λx=>(e x).symm.trans (h4 x),h5⟩
 | ins C nm ds=>unfold Ow at h ⊢;obtain⟨a,dx,xs,B,h1,h2,h2',h3,h3',h3'',h4,h5⟩:=h;exact⟨a,dx,xs,B,h1,h2,h2',h3,h3',h3'',λx=>(e x).symm.trans (h4 x),h5⟩
mutual
theorem Ow.frame{K:aA}{H H':Hp}(t:qQ K H H'):∀(d:D)(A:Fp)(v:V),Ow K H d A v→(∀a,A a→H' a=H a)→Ow K H' d A v
 | .non,A,v,h,f=>by unfold Ow at h ⊢;exact h
 | .bl _,A,v,h,f=>by unfold Ow at h ⊢;exact h
 | .int _,A,v,h,f=>by unfold Ow at h ⊢;exact h
 | .str _,A,v,h,f=>by unfold Ow at h ⊢;exact h
 | .lst ds,A,v,h,f=>by
  unfold Ow at h ⊢
  obtain⟨a,xs,B,h1,h2,h3,h4,h5⟩:=h
  exact⟨a,xs,B,h1,(f a ((h4 a).mpr (.inl rfl))).trans h2,h3,h4,bY.frame t ds B xs h5 λb q=>f b ((h4 b).mpr (.inr q))⟩
 | .tup ds,A,v,h,f=>by unfold Ow at h ⊢;obtain⟨a,xs,h1,h2,h3⟩:=h;exact⟨a,xs,h1,t _ _ h2,bY.frame t ds A xs h3 f⟩
 | .dk ks ds,A,v,h,f=>by
  unfold Ow at h ⊢
  obtain⟨a,xs,B,h1,h2,h2',h3,h4,h5⟩:=h
  exact⟨a,xs,B,h1,(f a ((h4 a).mpr (.inl rfl))).trans h2,h2',h3,h4,bY.frame t ds B xs h5 λb q=>f b ((h4 b).mpr (.inr q))⟩
 | .dt ks ds,A,v,h,f=>by
  unfold Ow at h ⊢
  obtain⟨a,xs,B,h1,h2,h2',h3,h4,h5⟩:=h
  exact⟨a,xs,B,h1,(f a ((h4 a).mpr (.inl rfl))).trans h2,h2',h3,h4,bY.frame t ds B xs h5 λb q=>f b ((h4 b).mpr (.inr q))⟩
 | .ins C nm ds,A,v,h,f=>by
  unfold Ow at h ⊢
  obtain⟨a,dx,xs,B,h1,h2,h2',h3,h3',h3'',h4,h5⟩:=h
  exact⟨a,dx,xs,B,h1,(f a ((h4 a).mpr (.inl (.inl rfl)))).trans h2,(f dx ((h4 dx).mpr (.inl (.inr rfl)))).trans h2',h3,h3',h3'',h4,bY.frame t ds B xs h5 λb q=>f b ((h4 b).mpr (.inr q))⟩
theorem bY.frame{K:aA}{H H':Hp}(t:qQ K H H'):∀(ds:List D)(A:Fp)(ys:List V),bY K H ds A ys→(∀a,A a→H' a=H a)→bY K H' ds A ys
 | [],A,ys,h,f=>by unfold bY at h ⊢;exact h
 | d::ds,A,ys,h,f=>by
  unfold bY at h ⊢
  obtain⟨y,yt,A1,A2,h1,h2,h3,h4,h5⟩:=h
  exact⟨y,yt,A1,A2,h1,h2,h3,Ow.frame t d A1 y h4 λb q=>f b ((h3 b).mpr (.inl q)),bY.frame t ds A2 yt h5 λb q=>f b ((h3 b).mpr (.inr q))⟩
end
mutual
theorem Ow.rv{K:aA}{H:Hp}:∀(d:D)(A:Fp)(v:V),Ow K H d A v→Rv K H d v
 | .non,A,v,h=>by unfold Ow at h;unfold Rv;exact h.2
 | .bl _,A,v,h=>by unfold Ow at h;unfold Rv;exact h.2
 | .int _,A,v,h=>by unfold Ow at h;unfold Rv;exact h.2
 | .str _,A,v,h=>by unfold Ow at h;unfold Rv;exact h.2
 | .lst ds,A,v,h=>by unfold Ow at h;unfold Rv;obtain⟨a,xs,B,h1,h2,h3,h4,h5⟩:=h;exact⟨a,xs,h1,iM.of h2,bY.rv ds B xs h5⟩
 | .tup ds,A,v,h=>by unfold Ow at h;unfold Rv;obtain⟨a,xs,h1,h2,h3⟩:=h;exact⟨a,xs,h1,h2,bY.rv ds A xs h3⟩
 | .dk ks ds,A,v,h=>by unfold Ow at h;unfold Rv;obtain⟨a,xs,B,h1,h2,h2',h3,h4,h5⟩:=h;exact⟨a,xs,h1,.inl h2,h2',bY.rv ds B xs h5⟩
 | .dt ks ds,A,v,h=>by unfold Ow at h;unfold Rv;obtain⟨a,xs,B,h1,h2,h2',h3,h4,h5⟩:=h;exact⟨a,xs,h1,.inl h2,h2',bY.rv ds B xs h5⟩
 | .ins C nm ds,A,v,h=>by unfold Ow at h;unfold Rv;obtain⟨a,dx,xs,B,h1,h2,h2',h3,h3',h3'',h4,h5⟩:=h;exact⟨a,dx,xs,h1,h2,h3,bY.rv ds B xs h5⟩
theorem bY.rv{K:aA}{H:Hp}:∀(ds:List D)(A:Fp)(ys:List V),bY K H ds A ys→bH K H ds ys
 | [],A,ys,h=>by unfold bY at h;unfold bH;exact h.2
 | d::ds,A,ys,h=>by unfold bY at h;unfold bH;obtain⟨y,yt,A1,A2,h1,h2,h3,h4,h5⟩:=h;exact⟨y,yt,h1,Ow.rv d A1 y h4,bY.rv ds A2 yt h5⟩
end
def lE(H:Hp)(a:Addr):Prop:=(∃o,H a=some o)∧nT H a
mutual
theorem Ow.cells{K:aA}{H:Hp}:∀(d:D)(A:Fp)(v:V),Ow K H d A v→∀a,A a→lE H a
 | .non,A,v,h,a,q=>by unfold Ow at h;exact absurd q (h.1 a)
 | .bl _,A,v,h,a,q=>by unfold Ow at h;exact absurd q (h.1 a)
 | .int _,A,v,h,a,q=>by unfold Ow at h;exact absurd q (h.1 a)
 | .str _,A,v,h,a,q=>by unfold Ow at h;exact absurd q (h.1 a)
 | .lst ds,A,v,h,a,q=>by
  unfold Ow at h
  obtain⟨p,xs,B,h1,h2,h3,h4,h5⟩:=h
  rcases(h4 a).mp q with z | z
  ·cases z;exact⟨⟨_,h2⟩,mK h2⟩
  ·exact bY.cells ds B xs h5 a z
 | .tup ds,A,v,h,a,q=>by unfold Ow at h;obtain⟨p,xs,h1,h2,h3⟩:=h;exact bY.cells ds A xs h3 a q
 | .dk ks ds,A,v,h,a,q=>by
  unfold Ow at h
  obtain⟨p,xs,B,h1,h2,h2',h3,h4,h5⟩:=h
  rcases(h4 a).mp q with z | z
  ·cases z;exact⟨⟨_,h2⟩,Pq h2⟩
  ·exact bY.cells ds B xs h5 a z
 | .dt ks ds,A,v,h,a,q=>by
  unfold Ow at h
  obtain⟨p,xs,B,h1,h2,h2',h3,h4,h5⟩:=h
  rcases(h4 a).mp q with z | z
  ·cases z;exact⟨⟨_,h2⟩,λys e=>(by rw[h2]at e;cases e),λo ys e=>(by rw[h2]at e;cases e)⟩
  ·exact bY.cells ds B xs h5 a z
 | .ins C nm ds,A,v,h,a,q=>by
  unfold Ow at h
  obtain⟨p,dx,xs,B,h1,h2,h2',h3,h3',h3'',h4,h5⟩:=h
  rcases(h4 a).mp q with (z | z) | z
  ·cases z;exact⟨⟨_,h2⟩,λys e=>(by rw[h2]at e;cases e),λo ys e=>(by rw[h2]at e;cases e)⟩
  ·cases z;exact⟨⟨_,h2'⟩,λys e=>(by rw[h2']at e;cases e),λo ys e=>(by rw[h2']at e;cases e)⟩
  ·exact bY.cells ds B xs h5 a z
theorem bY.cells{K:aA}{H:Hp}:∀(ds:List D)(A:Fp)(ys:List V),bY K H ds A ys→∀a,A a→lE H a
 | [],A,ys,h,a,q=>by unfold bY at h;exact absurd q (h.1 a)
 | d::ds,A,ys,h,a,q=>by
  unfold bY at h
  obtain⟨y,yt,A1,A2,h1,h2,h3,h4,h5⟩:=h
  rcases(h3 a).mp q with z | z
  ·exact Ow.cells d A1 y h4 a z
  ·exact bY.cells ds A2 yt h5 a z
end
mutual
def D.dZ:D→Bool
  | .non=>true | .bl _=>true | .int _=>true | .str _=>true
  | .tup ds=>D.aZ ds
  | _=>false
def D.aZ:List D→Bool
  | []=>true
  | d::ds=>D.dZ d&&D.aZ ds
end
abbrev nil:Fp:=λ_=>False
mutual
theorem uH{K:aA}{H:Hp}:∀(d:D)(v:V),d.dZ=true→Rv K H d v→Ow K H d nil v
 | .non,v,_,h=>by unfold Rv at h;unfold Ow;exact⟨λ_ z=>z,h⟩
 | .bl _,v,_,h=>by unfold Rv at h;unfold Ow;exact⟨λ_ z=>z,h⟩
 | .int _,v,_,h=>by unfold Rv at h;unfold Ow;exact⟨λ_ z=>z,h⟩
 | .str _,v,_,h=>by unfold Rv at h;unfold Ow;exact⟨λ_ z=>z,h⟩
 | .tup ds,v,i,h=>by unfold D.dZ at i;unfold Rv at h;unfold Ow;obtain⟨a,xs,h1,h2,h3⟩:=h;exact⟨a,xs,h1,h2,zJ ds xs i h3⟩
 | .lst ds,v,i,h=>by unfold D.dZ at i;cases i
 | .dk _ ds,v,i,h=>by unfold D.dZ at i;cases i
 | .dt _ ds,v,i,h=>by unfold D.dZ at i;cases i
 | .ins _ _ ds,v,i,h=>by unfold D.dZ at i;cases i
theorem zJ{K:aA}{H:Hp}:∀(ds:List D)(ys:List V),D.aZ ds=true→bH K H ds ys→bY K H ds nil ys
 | [],ys,_,h=>by unfold bH at h;unfold bY;exact⟨λ_ z=>z,h⟩
 | d::ds,ys,i,h=>by
  unfold D.aZ at i
  rw[D5]at i
  unfold bH at h
  unfold bY
  obtain⟨y,yt,h1,h2,h3⟩:=h
  exact⟨y,yt,nil,nil,h1,λ_ z _=>z,λx=>⟨False.elim,λz=>z.elim id id⟩,uH d y i.1 h2,zJ ds yt i.2 h3⟩
end
open Classical in
noncomputable def out(H:Hp)(A:Fp):Hp:=λa=>if A a then none else H a
theorem FZ{H:Hp}{A:Fp}{a:Addr}(h:¬A a):out H A a=H a:=by unfold out;rw[if_neg h]
theorem aU{H:Hp}{A:Fp}{a:Addr}{o:HO}:out H A a=some o↔¬A a∧H a=some o:=by
 unfold out
 split
 ·rename_i h;exact⟨λz=>(by cases z),λz=>absurd h z.1⟩
 ·rename_i h;exact⟨λz=>⟨h,z⟩,λz=>z.2⟩
theorem gO(H:Hp)(A:Fp):aG (out H A) H:=λb o h=>(aU.mp h).2
theorem Pu{K:aA}{H:Hp}{A:Fp}(h:∀a,A a→nT H a):qQ K H (out H A):=λa xs q=>by
 rcases q with (q | ⟨o,q⟩) | q
 ·exact .inl (.inl (aU.mpr ⟨λz=>(h a z).1 _ q,q⟩))
 ·exact .inl (.inr ⟨o,aU.mpr ⟨λz=>(h a z).2 _ _ q,q⟩⟩)
 ·exact .inr q
theorem Ow.out{K:aA}{H:Hp}{d:D}{A A':Fp}{v:V}(h:Ow K H d A' v)(ap:Apart A' A)(c:∀a,A a→nT H a):Rv K (out H A) d v:=
 Ow.rv d A' v (Ow.frame (Pu c) d A' v h λa q=>FZ (ap a q))
end L2


namespace L2
open PySem PySem.Spec PyProof.Rows
abbrev DE:=List (Option D)
abbrev FE:=DE→Option D
abbrev FA:=DE→Option (List D)
abbrev FT:=DE→Option Bool
def nJ(K:aA)(H:Hp)(e:DE)(σ:St):Prop:=∀(i:Nat)(d:D),e[i]?=some (some d)→∃v,σ[i]?=some (some v)∧Rv K H d v
theorem nJ.same{K:aA}{H H':Hp}{e:DE}{σ:St}(h:nJ K H e σ)(s:aG H H'):nJ K H' e σ:=λi d q=>let ⟨v,h1,h2⟩:=h i d q;⟨v,h1,s.rv _ _ h2⟩
structure Zn(K:aA)(N:Fp)(Z H:Hp):Prop where
 sm:aG Z H
 tk:qQ K H Z
 no:∀a,N a→Z a=none∧¬H a=none
theorem Zn.self(K:aA)(H:Hp):Zn K nil H H:=⟨aG.refl _,λ_ _ h=>h,λ_ z=>z.elim⟩
theorem qQ.trans{K:aA}{H H1 H2:Hp}(a:qQ K H H1)(b:qQ K H1 H2):qQ K H H2:=λp xs h=>b p xs (a p xs h)
theorem Ow.same{K:aA}{H H':Hp}{d:D}{A:Fp}{v:V}(h:Ow K H d A v)(s:aG H H'):Ow K H' d A v:=
 Ow.frame s.tk d A v h λa q=>by
  obtain⟨⟨o,e⟩,_⟩:=Ow.cells d A v h a q
  rw[e];exact s a o e
theorem bY.same{K:aA}{H H':Hp}{ds:List D}{A:Fp}{vs:List V}(h:bY K H ds A vs)(s:aG H H'):bY K H' ds A vs:=
 bY.frame s.tk ds A vs h λa q=>by
  obtain⟨⟨o,e⟩,_⟩:=bY.cells ds A vs h a q
  rw[e];exact s a o e
def xH(K:aA)(H H':Hp)(d:D)(v:V):Prop:=∃A,Ow K H' d A v∧∀a,A a→H a=none
def wL(K:aA)(H H':Hp)(ds:List D)(vs:List V):Prop:=∃A,bY K H' ds A vs∧∀a,A a→H a=none
theorem wL.rv{K:aA}{H H':Hp}{ds:List D}{vs:List V}(h:wL K H H' ds vs):bH K H' ds vs:=let ⟨A,o,_⟩:=h;bY.rv ds A vs o
theorem xH.same{K:aA}{H H' H2:Hp}{d:D}{v:V}(h:xH K H H' d v)(s:aG H' H2):xH K H H2 d v:=let ⟨A,o,f⟩:=h;⟨A,o.same s,f⟩
theorem xH.back{K:aA}{H0 H H':Hp}{d:D}{v:V}(h:xH K H H' d v)(s:aG H0 H):xH K H0 H' d v:=let ⟨A,o,f⟩:=h;⟨A,o,λa q=>s.free (f a q)⟩
theorem xH.dZ{K:aA}{H H':Hp}{d:D}{v:V}(i:d.dZ=true)(h:Rv K H' d v):xH K H H' d v:=⟨nil,uH d v i h,λ_ z=>z.elim⟩
theorem wL.aZ{K:aA}{H H':Hp}{ds:List D}{vs:List V}(i:D.aZ ds=true)(h:bH K H' ds vs):wL K H H' ds vs:=⟨nil,zJ ds vs i h,λ_ z=>z.elim⟩
open Classical in
noncomputable def zK(Z H H':Hp):Hp:=λa=>if H a=none then H' a else Z a
theorem pH{Z H H':Hp}{a:Addr}(h:H a=none):zK Z H H' a=H' a:=by unfold zK;rw[if_pos h]
theorem uI{Z H H':Hp}{a:Addr}(h:¬H a=none):zK Z H H' a=Z a:=by unfold zK;rw[if_neg h]
theorem qR{K:aA}{N:Fp}{Z H H':Hp}(z:Zn K N Z H):aG Z (zK Z H H'):=λb o e=>by
 rw[uI (by rw[z.sm b o e];intro q;cases q)];exact e
theorem zL{K:aA}{N:Fp}{Z H H':Hp}(z:Zn K N Z H)(s:aG H H'):Zn K N (zK Z H H') H' where
  sm:=λb o e=>by
    by_cases c:H b=none
    · rw[pH c]at e;exact e
    · rw[uI c]at e;exact s b o (z.sm b o e)
  tk:=λa xs h=>by
    by_cases c:H a=none
    · rcases h with (h | ⟨o,h⟩) | h
      · exact .inl (.inl (by rw[pH c];exact h))
      · exact .inl (.inr ⟨o,by rw[pH c];exact h⟩)
      · exact .inr h
    · have q:jP K H a xs:=by
        rcases h with (h | ⟨o,h⟩) | h
        · cases e:H a with
          | none=>exact absurd e c
          | some o=>have:=s a o e;rw[h]at this;cases this;exact .inl (.inl e)
        · cases e:H a with
          | none=>exact absurd e c
          | some o=>have:=s a o e;rw[h]at this;cases this;exact .inl (.inr ⟨_,e⟩)
        · exact .inr h
      exact(qR z).tup (z.tk a xs q)
  no:=λa q=>⟨by rw[uI (z.no a q).2];exact(z.no a q).1,λh=>(z.no a q).2 (s.free h)⟩
theorem xH.zone{K:aA}{N:Fp}{Z H H':Hp}{d:D}{v:V}(h:xH K H H' d v)(z:Zn K N Z H)(s:aG H H'):Rv K (zK Z H H') d v:=by
 obtain⟨A,o,f⟩:=h
 exact Ow.rv d A v (Ow.frame (zL z s).tk d A v o λa q=>pH (f a q))
def Dy(K:aA)(t:TE)(f:FE):Prop:=∀{N:Fp}(σ:St)(H Z:Hp)(e:DE)(d:D)(Q:VK),Zn K N Z H→nJ K Z e σ→f e=some d →
 (∀v H' Z',aG H H'→aG Z Z'→Zn K N Z' H'→Rv K Z' d v→Q v H')→t σ H Q
def Dz(K:aA)(t:TE)(f:FE):Prop:=∀(σ:St)(H:Hp)(e:DE)(d:D)(Q:VK),nJ K H e σ→f e=some d →
 (∀v H',aG H H'→xH K H H' d v→Q v H')→t σ H Q
def Ii(K:aA)(t:TT)(f:FT):Prop:=∀(σ:St)(H:Hp)(e:DE)(b:Bool)(Q:Bool→Hp→Prop),nJ K H e σ→f e=some b→(∀H',aG H H'→Q b H')→t σ H Q
def GC(K:aA)(t:TA)(f:FA):Prop:=∀{N:Fp}(σ:St)(H Z:Hp)(e:DE)(ds:List D)(Q:List V→Hp→Prop),Zn K N Z H→nJ K Z e σ→f e=some ds →
 (∀vs H' Z',aG H H'→aG Z Z'→Zn K N Z' H'→bH K Z' ds vs→Q vs H')→t σ H Q
def MF(K:aA)(t:TA)(f:FA):Prop:=∀(σ:St)(H:Hp)(e:DE)(ds:List D)(Q:List V→Hp→Prop),nJ K H e σ→f e=some ds →
 (∀vs H',aG H H'→wL K H H' ds vs→Q vs H')→t σ H Q
theorem Dz.r{K:aA}{t:TE}{f:FE}(h:Dz K t f):Dy K t f:=λσ H Z e d Q z r q k=>
 h σ H e d Q (r.same z.sm) q λv H' s n=>k v H' (zK Z H H') s (qR z) (zL z s) (n.zone z s)
def iT(f:FE):FE:=λe=>(f e).bind λd=>if d.dZ=true then some d else none
theorem xJ{f:FE}{e:DE}{d:D}:iT f e=some d↔f e=some d∧d.dZ=true:=by
 unfold iT
 cases q:f e with
 | none=>simp
 | some a=>
  simp only[B4]
  split
  ·rename_i h;constructor
   ·intro z;cases z;exact⟨rfl,h⟩
   ·rintro⟨z,_⟩;exact z
  ·rename_i h;constructor
   ·intro z;cases z
   ·rintro⟨z,z2⟩;cases z;exact absurd z2 h
theorem Dy.n{K:aA}{t:TE}{f:FE}(h:Dy K t f):Dz K t (iT f):=λσ H e d Q r q k=>by
 obtain⟨q1,q2⟩:=xJ.mp q
 exact h σ H H e d Q (Zn.self K H) r q1 λv H' Z' s1 s2 z' rv=>k v H' s1 (.dZ q2 (z'.sm.rv _ _ rv))
def aC(i:Nat):FE:=λe=>(e[i]?).getD none
theorem GD{K:aA}(i:Nat):Dy K (cB i) (aC i):=λσ H Z e d Q z r q k=>by
 have e1:e[i]?=some (some d):=by
  unfold aC at q
  cases h:e[i]? with
  | none=>rw[h]at q;cases q
  | some o=>rw[h]at q;cases q;rfl
 obtain⟨v,h1,h2⟩:=r i d e1
 exact⟨v,h1,k v H Z (aG.refl _) (aG.refl _) z h2⟩
def fC(d:D):FE:=λ_=>some d
theorem Px{K:aA}(i:Int):Dz K (tC (.int i)) (fC (.int i)):=λσ H e d Q r q k=>by cases q;exact k _ H (aG.refl _) (.dZ rfl (by unfold Rv;rfl))
theorem QR{K:aA}(i:Bool):Dz K (tC (.bl i)) (fC (.bl i)):=λσ H e d Q r q k=>by cases q;exact k _ H (aG.refl _) (.dZ rfl (by unfold Rv;rfl))
def f2(φ:D→D→Option D)(f g:FE):FE:=λe=>(f e).bind λa=>(g e).bind λb=>φ a b
theorem Ij{φ:D→D→Option D}{f g:FE}{e:DE}{d:D}(h:f2 φ f g e=some d):∃a b,f e=some a∧g e=some b∧φ a b=some d:=by
 unfold f2 at h
 obtain⟨a,h1,h2⟩:=aW h
 obtain⟨b,h3,h4⟩:=aW h2
 exact⟨a,b,h1,h3,h4⟩
def jb(K:aA)(r:R2)(φ:D→D→Option D):Prop:=∀{N:Fp}(x y:V)(H Z:Hp)(a b d:D)(Q:VK),Zn K N Z H→Rv K Z a x→Rv K Z b y→φ a b=some d →
 (∀v H' Z',aG H H'→aG Z Z'→Zn K N Z' H'→Rv K Z' d v→Q v H')→r x y H Q
def Uv(K:aA)(r:R2)(φ:D→D→Option D):Prop:=∀(x y:V)(H:Hp)(a b d:D)(Q:VK),Rv K H a x→Rv K H b y→φ a b=some d →
 (∀v H',aG H H'→xH K H H' d v→Q v H')→r x y H Q
theorem QS{K:aA}{r:R2}{φ:D→D→Option D}{ta tb:TE}{f g:FE}(o:jb K r φ)(ha:Dy K ta f)(hb:Dy K tb g):Dy K (wB r ta tb) (f2 φ f g):=λσ H Z e d Q z re q k=>by
 obtain⟨a,b,h1,h2,h3⟩:=Ij q
 refine ha σ H Z e a _ z re h1 λx H1 Z1 s1 t1 z1 rx=>hb σ H1 Z1 e b _ z1 (re.same t1) h2 λy H2 Z2 s2 t2 z2 ry=>?_
 exact o x y H2 Z2 a b d Q z2 (t2.rv _ _ rx) ry h3 λv H3 Z3 s3 t3 z3 rv=>k v H3 Z3 (s1.trans (s2.trans s3)) (t1.trans (t2.trans t3)) z3 rv
theorem Py{K:aA}{r:R2}{φ:D→D→Option D}{ta tb:TE}{f g:FE}(o:Uv K r φ)(ha:Dy K ta f)(hb:Dy K tb g):Dz K (wB r ta tb) (f2 φ f g):=λσ H e d Q re q k=>by
 obtain⟨a,b,h1,h2,h3⟩:=Ij q
 refine ha σ H H e a _ (Zn.self K H) re h1 λx H1 Z1 s1 t1 z1 rx=>hb σ H1 Z1 e b _ z1 (re.same t1) h2 λy H2 Z2 s2 t2 z2 ry=>?_
 exact o x y H2 a b d Q (z2.sm.rv _ _ (t2.rv _ _ rx)) (z2.sm.rv _ _ ry) h3 λv H3 s3 n=>k v H3 (s1.trans (s2.trans s3)) (n.back (s1.trans s2))
def uJ(C:Int→Int→Prop) [∀i j,Decidable (C i j)] (g:Int→Int→D):D→D→Option D
 | .int i,.int j=>if C i j then some (g i j)else none
 | _,_=>none
theorem uK{C:Int→Int→Prop} [∀i j,Decidable (C i j)] {g:Int→Int→D} {a b d:D} (h:uJ C g a b=some d):∃i j,a=.int i∧b=.int j∧C i j∧d=g i j:=by
 unfold uJ at h
 split at h
 ·split at h
  ·rename_i i j c;cases h;exact⟨i,j,rfl,rfl,c,rfl⟩
  ·cases h
 ·cases h
theorem uL{K:aA}{C:Int→Int→Prop} [∀i j,Decidable (C i j)] {C':Int→Int→Prop} (hC:∀i j,C i j→C' i j) {g:Int→Int→Int}:Uv K (rI C' λi j=>.int (g i j)) (uJ C λi j=>.int (g i j)):=λx y H a b d Q ra rb q k=>by
 obtain⟨i,j,rfl,rfl,c,rfl⟩:=uK q
 unfold Rv at ra rb
 exact⟨i,j,ra,rb,hC i j c,k _ H (aG.refl _) (.dZ rfl (by unfold Rv;rfl))⟩
theorem Wf{K:aA}{g:Int→Int→Int}:Uv K (Od λi j=>.int (g i j)) (uJ (λ_ _=>True) λi j=>.int (g i j)):=λx y H a b d Q ra rb q k=>by
 obtain⟨i,j,rfl,rfl,c,rfl⟩:=uK q
 unfold Rv at ra rb
 exact⟨i,j,ra,rb,k _ H (aG.refl _) (.dZ rfl (by unfold Rv;rfl))⟩
theorem zM{K:aA}{g:Int→Int→Bool}:Uv K (Od λi j=>.bl (g i j)) (uJ (λ_ _=>True) λi j=>.bl (g i j)):=λx y H a b d Q ra rb q k=>by
 obtain⟨i,j,rfl,rfl,c,rfl⟩:=uK q
 unfold Rv at ra rb
 exact⟨i,j,ra,rb,k _ H (aG.refl _) (.dZ rfl (by unfold Rv;rfl))⟩
def aQ:FA:=λ_=>some []
def aD(f:FE)(fs:FA):FA:=λe=>(f e).bind λa=>(fs e).bind λr=>some (a::r)
theorem rU{f:FE}{fs:FA}{e:DE}{ds:List D}(h:aD f fs e=some ds):∃a r,f e=some a∧fs e=some r∧ds=a::r:=by
 unfold aD at h
 obtain⟨a,h1,h2⟩:=aW h
 obtain⟨b,h3,h4⟩:=aW h2
 cases h4
 exact⟨a,b,h1,h3,rfl⟩
theorem GF{K:aA}:GC K qO aQ:=λσ H Z e ds Q z re q k=>by cases q;exact k [] H Z (aG.refl _) (aG.refl _) z (by unfold bH;rfl)
theorem Wg{K:aA}{te:TE}{t:TA}{f:FE}{fs:FA}(h:Dy K te f)(hs:GC K t fs):GC K (dY te t) (aD f fs):=λσ H Z e ds Q z re q k=>by
 obtain⟨a,r,h1,h2,rfl⟩:=rU q
 refine h σ H Z e a _ z re h1 λx H1 Z1 s1 t1 z1 rx=>hs σ H1 Z1 e r _ z1 (re.same t1) h2 λvs H2 Z2 s2 t2 z2 rs=>?_
 exact k _ H2 Z2 (s1.trans s2) (t1.trans t2) z2 (by unfold bH;exact⟨x,vs,rfl,t2.rv _ _ rx,rs⟩)
theorem GJ{K:aA}:MF K qO aQ:=λσ H e ds Q re q k=>by cases q;exact k [] H (aG.refl _) (.aZ rfl (by unfold bH;rfl))
theorem Wh{K:aA}{te:TE}{t:TA}{f:FE}{fs:FA}(h:Dz K te f)(hs:MF K t fs):MF K (dY te t) (aD f fs):=λσ H e ds Q re q k=>by
 obtain⟨a,r,h1,h2,rfl⟩:=rU q
 refine h σ H e a _ re h1 λx H1 s1 n1=>hs σ H1 e r _ (re.same s1) h2 λvs H2 s2 n2=>?_
 refine k _ H2 (s1.trans s2) ?_
 obtain⟨A,oA,fA⟩:=n1
 obtain⟨B,oB,fB⟩:=n2
 refine⟨dD A B,?_,λp q=>q.elim (fA p) λz=>s1.free (fB p z)⟩
 unfold bY
 refine⟨x,vs,A,B,rfl,λp qa qb=>?_,λ_=>Iff.rfl,oA.same s2,oB⟩
 obtain⟨⟨o,e1⟩,_⟩:=Ow.cells _ _ _ oA p qa
 rw[fB p qb]at e1;cases e1
def cap(n:Nat)(d:D):Option D:=if n≤100000 then some d else none
theorem uM{n:Nat}{d d':D}(h:cap n d=some d'):n≤100000∧d'=d:=by
 unfold cap at h
 split at h
 ·rename_i c;cases h;exact⟨c,rfl⟩
 ·cases h
theorem Br{n:Nat}(h:n≤100000):n≤sizeLine:=by rw[sizeLine_eq];omega
theorem Pz{n:Nat}(h:n≤100000):n<sizeLine:=by rw[sizeLine_eq];omega
def lF(fs:FA):FE:=λe=>(fs e).bind λds=>cap ds.length (.lst ds)
def Ep(fs:FA):FE:=λe=>(fs e).bind λds=>cap ds.length (.tup ds)
theorem jR{K:aA}{H H1:Hp}{ds:List D}{xs:List V}{p:Addr}(s:aG H H1)(n:wL K H H1 ds xs)(hp:H1 p=none):xH K H (upd H1 p (.lst xs)) (.lst ds) (.ref p):=by
 obtain⟨A,o,f⟩:=n
 refine⟨dD (·=p) A,?_,λa q=>q.elim (λz=>by cases z;exact s.free hp) (f a)⟩
 unfold Ow
 refine⟨p,xs,A,rfl,bB,λz=>?_,λ_=>Iff.rfl,o.same (bG hp _)⟩
 obtain⟨⟨u,e⟩,_⟩:=bY.cells _ _ _ o p z
 rw[hp]at e;cases e
theorem zN{K:aA}{H H1:Hp}{ds:List D}{xs:List V}{p:Addr}(n:wL K H H1 ds xs)(hp:H1 p=none):xH K H (upd H1 p (.tup xs)) (.tup ds) (.ref p):=by
 obtain⟨A,o,f⟩:=n
 refine⟨A,?_,f⟩
 unfold Ow
 exact⟨p,xs,rfl,jP.of bB,o.same (bG hp _)⟩
theorem GK{K:aA}{t:TA}{fs:FA}(h:MF K t fs):Dz K (Oh t) (lF fs):=λσ H e d Q re q k=>by
 unfold lF at q
 obtain⟨ds,h1,h2⟩:=aW q
 obtain⟨hc,rfl⟩:=uM h2
 refine h σ H e ds _ re h1 λxs H1 s1 n=>⟨Br (by rw[n.rv.length];exact hc),λp hp=>?_⟩
 exact k _ _ (s1.trans (bG hp _)) (jR s1 n hp)
theorem GP{K:aA}{t:TA}{fs:FA}(h:MF K t fs):Dz K (Eg t) (Ep fs):=λσ H e d Q re q k=>by
 unfold Ep at q
 obtain⟨ds,h1,h2⟩:=aW q
 obtain⟨hc,rfl⟩:=uM h2
 refine h σ H e ds _ re h1 λxs H1 s1 n=>⟨Br (by rw[n.rv.length];exact hc),λp hp=>?_⟩
 exact k _ _ (s1.trans (bG hp _)) (zN n hp)
theorem Qa{K:aA}{N:Fp}{Z H:Hp}{p:Addr}{o:HO}(z:Zn K N Z H)(hp:H p=none):aG Z (upd Z p o)∧Zn K N (upd Z p o) (upd H p o):=by
 have hz:Z p=none:=z.sm.free hp
 refine⟨bG hz o,⟨λb u e=>?_,λa xs h=>?_,λa q=>?_⟩⟩
 ·by_cases c:b=p
  ·subst c;rw[bB]at e;rw[bB];exact e
  ·rw[aP c]at e;rw[aP c];exact z.sm b u e
 ·by_cases c:a=p
  ·subst c
   rcases h with (h | ⟨u,h⟩) | h
   ·rw[bB]at h;exact .inl (.inl (by rw[bB];exact h))
   ·rw[bB]at h;exact .inl (.inr ⟨u,by rw[bB];exact h⟩)
   ·exact .inr h
  ·have q:jP K H a xs:=by
    rcases h with (h | ⟨u,h⟩) | h
    ·rw[aP c]at h;exact .inl (.inl h)
    ·rw[aP c]at h;exact .inl (.inr ⟨u,h⟩)
    ·exact .inr h
   exact(bG hz o).tup (z.tk a xs q)
 ·have c:a≠p:=λz'=>(z.no a q).2 (by rw[z'];exact hp)
  rw[aP c,aP c];exact z.no a q
theorem GQ{K:aA}{t:TA}{fs:FA}(h:GC K t fs):Dy K (Oh t) (lF fs):=λσ H Z e d Q z re q k=>by
 unfold lF at q
 obtain⟨ds,h1,h2⟩:=aW q
 obtain⟨hc,rfl⟩:=uM h2
 refine h σ H Z e ds _ z re h1 λxs H1 Z1 s1 t1 z1 rs=>⟨Br (by rw[rs.length];exact hc),λp hp=>?_⟩
 obtain⟨a1,a2⟩:=Qa (o:=.lst xs) z1 hp
 exact k _ _ _ (s1.trans (bG hp _)) (t1.trans a1) a2 (by unfold Rv;exact⟨p,xs,rfl,iM.of bB,a1.Nq _ _ rs⟩)
end L2


namespace L2
open PySem PySem.Spec PyProof.Rows
structure XR(K:aA)(X:Cx)(e:Expr)(t:TE)(f:FE):Prop where
 hk:X.K=K
 pe:PE X e t
 ev:Dy K t f
structure XN(K:aA)(X:Cx)(e:Expr)(t:TE)(f:FE):Prop where
 hk:X.K=K
 pe:PE X e t
 ev:Dz K t f
structure XT(K:aA)(X:Cx)(e:Expr)(t:TT)(f:FT):Prop where
 hk:X.K=K
 pt:PT X e t
 ev:Ii K t f
structure XW(K:aA)(X:Cx)(e:Expr)(t:TT)(f:FT):Prop where
 hk:X.K=K
 pw:PW X e t
 ev:Ii K t f
structure XA(K:aA)(X:Cx)(es:List Expr)(t:TA)(f:FA):Prop where
 hk:X.K=K
 pa:PA X es t
 ev:GC K t f
structure XB(K:aA)(X:Cx)(es:List Expr)(t:TA)(f:FA):Prop where
 hk:X.K=K
 pa:PA X es t
 ev:MF K t f
section
variable{K:aA}{X:Cx}{e a b c:Expr}{es:List Expr}{t ta tb:TE}{f g:FE}{tA:TA}{fs:FA}{pos:Pos}
theorem XN.r(h:XN K X e t f):XR K X e t f:=⟨h.hk,h.pe,h.ev.r⟩
theorem XR.n(h:XR K X e t f):XN K X e t (iT f):=⟨h.hk,h.pe,Dy.n h.ev⟩
theorem aJ{i:Nat}(h:PE X e (cB i))(hk:X.K=K:=by rfl):XR K X e (cB i) (aC i):=⟨hk,h,GD i⟩
theorem aH{i:Int}{j:Nat}(hk:X.K=K:=by rfl):XN K X (.Constant (.int i) j pos) (tC (.int i)) (fC (.int i)):=⟨hk,Nv,Px i⟩
theorem pI{i:Bool}{j:Nat}(hk:X.K=K:=by rfl):XN K X (.Constant (.bool i) j pos) (tC (.bl i)) (fC (.bl i)):=⟨hk,NK,QR i⟩
theorem uN{op:Operator}{r:R2}{φ:D→D→Option D}(ho:pC X (binaryOp op) r)(hd:Uv K r φ)(ha:XR K X a ta f)(hb:XR K X b tb g):XN K X (.BinOp a op b pos) (wB r ta tb) (f2 φ f g):=⟨ha.hk,PB ho ha.pe hb.pe,Py hd ha.ev hb.ev⟩
def Lg:D→D→Option D:=uJ (λ_ _=>True) λi j=>.int (i-j)
instance (i j:Int):Decidable (wF i j):=by unfold wF;exact inferInstance
instance (i j:Int):Decidable (Kl i j):=by unfold Kl;exact inferInstance
instance (i j:Int):Decidable (Km i j):=by unfold Km;exact inferInstance
def sS:D→D→Option D:=uJ wF λi j=>.int (i*j)
def kY:D→D→Option D:=uJ Kl λi j=>.int (i/j)
def cW:D→D→Option D:=uJ (λ_ j=>0<j) λi j=>.int (i%j)
def Bu:D→D→Option D:=uJ Km λi j=>.int (i ^ j.toNat)
theorem Er(ha:XR K X a ta f)(hb:XR K X b tb g):XN K X (.BinOp a .Sub b pos) (wB (Od λi j=>.int (i-j)) ta tb) (f2 Lg f g):=uN BV Wf ha hb
theorem jT(ha:XR K X a ta f)(hb:XR K X b tb g):XN K X (.BinOp a .Mult b pos) (wB (rI wF λi j=>.int (i*j)) ta tb) (f2 sS f g):=uN BW (uL λ_ _ h=>h) ha hb
theorem jU(ha:XR K X a ta f)(hb:XR K X b tb g):XN K X (.BinOp a .FloorDiv b pos) (wB (rI Kl λi j=>.int (i/j)) ta tb) (f2 kY f g):=uN Vh (uL λ_ _ h=>h) ha hb
theorem bN(ha:XR K X a ta f)(hb:XR K X b tb g):XN K X (.BinOp a .Mod b pos) (wB (rI (λ_ j=>0<j) λi j=>.int (i%j)) ta tb) (f2 cW f g):=uN BX (uL λ_ _ h=>h) ha hb
theorem Es(ha:XR K X a ta f)(hb:XR K X b tb g):XN K X (.BinOp a .Pow b pos) (wB (rI Km λi j=>.int (i ^ j.toNat)) ta tb) (f2 Bu f g):=uN BZ (uL λ_ _ h=>h) ha hb
theorem Et{op:CmpOp}{r:R2}{φ:D→D→Option D}(ho:pC X (compareOp op) r)(hd:Uv K r φ)(ha:XR K X a ta f)(hb:XR K X b tb g)(hm:behindInMarks op b=false):XN K X (.Compare a [op] [b] pos) (wB r ta tb) (f2 φ f g):=⟨ha.hk,Vj ho ha.pe hb.pe hm,Py hd ha.ev hb.ev⟩
def fB(f:FE):FT:=λe=>(f e).bind λd=>match d with | .bl b=>some b | _=>none
theorem sZ{f:FE}{e:DE}{b:Bool}(h:fB f e=some b):f e=some (.bl b):=by
 unfold fB at h
 obtain⟨d,h1,h2⟩:=aW h
 split at h2
 ·cases h2;exact h1
 ·cases h2
theorem Wi(h:Dy K t f):Ii K (Og t) (fB f):=λσ H e b Q re q k=>h σ H H e _ _ (Zn.self K H) re (sZ q) λv H' Z' s1 s2 z rv=>by
 unfold Rv at rv
 exact⟨b,rv,k H' s1⟩
theorem QT(h:Dy K t f):Ii K (tB t) (fB f):=λσ H e b Q re q k=>h σ H H e _ _ (Zn.self K H) re (sZ q) λv H' Z' s1 s2 z rv=>by
 unfold Rv at rv
 exact⟨b,rv,k H' s1⟩
theorem eO{op:CmpOp}{r:R2}{φ:D→D→Option D}(ho:pC X (compareOp op) r)(hd:Uv K r φ)(ha:XR K X a ta f)(hb:XR K X b tb g)(hm:behindInMarks op b=false):XT K X (.Compare a [op] [b] pos) (Og (wB r ta tb)) (fB (f2 φ f g)):=⟨ha.hk,Vk ho ha.pe hb.pe hm,Wi (Py hd ha.ev hb.ev).r⟩
theorem jV(h:XR K X e t f)(he:∀whole,isTrue e X.env whole=(do let v ←whole;standAt e.pos;holding [v] (truthy v)):=by intro _;rfl):XT K X e (tB t) (fB f):=⟨h.hk,Zo h.pe he,QT h.ev⟩
def VM:D→D→Option D:=uJ (λ_ _=>True) λi j=>.bl (decide (i<j))
def qt:D→D→Option D:=uJ (λ_ _=>True) λi j=>.bl (decide (i≤j))
def GR:D→D→Option D:=uJ (λ_ _=>True) λi j=>.bl (decide (j<i))
def qu:D→D→Option D:=uJ (λ_ _=>True) λi j=>.bl (decide (j≤i))
def toV:D→Option V
  | .non=>some .non | .bl b=>some (.bl b) | .int i=>some (.int i) | .str x=>some (.str x)
  | _=>none
theorem zO{H:Hp}{d:D}{v x:V}(h:toV d=some v)(r:Rv K H d x):x=v:=by
 cases d<;>unfold toV at h<;>first | (cases h;unfold Rv at r;exact r) | cases h
mutual
def bJ:D→Option DV
 | .int i=>some (.int i)
 | .non=>some .non
 | .lst ds=>(bM ds).map DV.lst
 | .tup ds=>(bM ds).map DV.tup
 | _=>none
def bM:List D→Option (List DV)
 | []=>some []
 | d::ds=>(bJ d).bind λx=>(bM ds).bind λxs=>some (x::xs)
end
mutual
theorem jW{H:Hp}:∀(d:D)(x:DV)(v:V),bJ d=some x→Rv K H d v→Reads K H x v
 | .int i,x,v,h,r=>by unfold bJ at h;cases h;unfold Rv at r;unfold Reads;exact r
 | .lst ds,x,v,h,r=>by
  unfold bJ at h
  obtain⟨xs,h1,rfl⟩:=fH h
  unfold Rv at r;unfold Reads
  obtain⟨a,vs,r1,r2,r3⟩:=r
  exact⟨a,vs,r1,r2,uO ds xs vs h1 r3⟩
 | .tup ds,x,v,h,r=>by
  unfold bJ at h
  obtain⟨xs,h1,rfl⟩:=fH h
  unfold Rv at r;unfold Reads
  obtain⟨a,vs,r1,r2,r3⟩:=r
  exact⟨a,vs,r1,r2,uO ds xs vs h1 r3⟩
 | .non,x,v,h,r=>by unfold bJ at h;cases h;unfold Rv at r;unfold Reads;exact r
 | .bl _,x,v,h,r=>by unfold bJ at h;cases h
 | .str _,x,v,h,r=>by unfold bJ at h;cases h
 | .dk _ _,x,v,h,r=>by unfold bJ at h;cases h
 | .dt _ _,x,v,h,r=>by unfold bJ at h;cases h
 | .ins _ _ _,x,v,h,r=>by unfold bJ at h;cases h
theorem uO{H:Hp}:∀(ds:List D)(xs:List DV)(vs:List V),bM ds=some xs→bH K H ds vs→bF K H xs vs
 | [],xs,vs,h,r=>by unfold bM at h;cases h;unfold bH at r;unfold bF;exact r
 | d::ds,xs,vs,h,r=>by
  unfold bM at h
  obtain⟨x,h1,h2⟩:=aW h
  obtain⟨xt,h3,h4⟩:=aW h2
  cases h4
  unfold bH at r;unfold bF
  obtain⟨y,ys,r1,r2,r3⟩:=r
  exact⟨y,ys,r1,jW d x y h1 r2,uO ds xt ys h3 r3⟩
end
mutual
theorem Qc:∀(d e:D)(x:DV),bJ d=some x→bJ e=some x→d=e
 | .int i,e,x,h,h'=>by
  unfold bJ at h;cases h
  cases e<;>unfold bJ at h'<;>first | (cases h';rfl) | cases h' | (obtain⟨xs,q1,q2⟩:=fH h';cases q2)
 | .lst ds,e,x,h,h'=>by
  unfold bJ at h
  obtain⟨xs,h1,rfl⟩:=fH h
  cases e with
  | lst es=>unfold bJ at h';obtain⟨ys,q1,q2⟩:=fH h';cases q2;rw[qT ds es xs h1 q1]
  | tup es=>unfold bJ at h';obtain⟨ys,q1,q2⟩:=fH h';cases q2
  | _=>unfold bJ at h';cases h'
 | .tup ds,e,x,h,h'=>by
  unfold bJ at h
  obtain⟨xs,h1,rfl⟩:=fH h
  cases e with
  | tup es=>unfold bJ at h';obtain⟨ys,q1,q2⟩:=fH h';cases q2;rw[qT ds es xs h1 q1]
  | lst es=>unfold bJ at h';obtain⟨ys,q1,q2⟩:=fH h';cases q2
  | _=>unfold bJ at h';cases h'
 | .non,e,x,h,h'=>by
  unfold bJ at h;cases h
  cases e<;>unfold bJ at h'<;>first | (cases h';rfl) | cases h' | (obtain⟨xs,q1,q2⟩:=fH h';cases q2)
 | .bl _,e,x,h,h'=>by unfold bJ at h;cases h
 | .str _,e,x,h,h'=>by unfold bJ at h;cases h
 | .dk _ _,e,x,h,h'=>by unfold bJ at h;cases h
 | .dt _ _,e,x,h,h'=>by unfold bJ at h;cases h
 | .ins _ _ _,e,x,h,h'=>by unfold bJ at h;cases h
theorem qT:∀(ds es:List D)(xs:List DV),bM ds=some xs→bM es=some xs→ds=es
 | [],[],xs,h,h'=>rfl
 | [],e::es,xs,h,h'=>by
  unfold bM at h h'
  cases h
  obtain⟨x,h1,h2⟩:=aW h'
  obtain⟨xt,h3,h4⟩:=aW h2
  cases h4
 | d::ds,[],xs,h,h'=>by
  unfold bM at h h'
  cases h'
  obtain⟨x,h1,h2⟩:=aW h
  obtain⟨xt,h3,h4⟩:=aW h2
  cases h4
 | d::ds,e::es,xs,h,h'=>by
  unfold bM at h h'
  obtain⟨x,h1,h2⟩:=aW h
  obtain⟨xt,h3,h4⟩:=aW h2
  cases h4
  obtain⟨y,k1,k2⟩:=aW h'
  obtain⟨yt,k3,k4⟩:=aW k2
  cases k4
  rw[Qc d e x h1 k1,qT ds es xt h3 k3]
end
noncomputable def Ik(a b:D):Option D:=match toV a,toV b with
 | some x,some y=>if Vi x y=true then some (.bl (decide (x=y)))else none
 | _,_=>match bJ a,bJ b with
  | some x,some y=>if x.depth≤32 then some (.bl (lC x y))else none
  | _,_=>none
theorem Bv:Uv K (λx y H Q=>XF x y H Q∨DY K false x y H Q) Ik:=λx y H a b d Q ra rb q k=>by
 unfold Ik at q
 split at q
 ·rename_i u v h1 h2
  split at q
  ·rename_i hs
   cases q
   rw[zO h1 ra,zO h2 rb]
   exact .inl ⟨hs,k _ H (aG.refl _) (.dZ rfl (by unfold Rv;rfl))⟩
  ·cases q
 ·split at q
  ·rename_i u v h1 h2
   split at q
   ·rename_i hs
    cases q
    exact .inr ⟨u,v,jW a u x h1 ra,jW b v y h2 rb,hs,k _ H (aG.refl _) (.dZ rfl (by unfold Rv;rfl))⟩
   ·cases q
  ·cases q
noncomputable def xK(a b:D):Option D:=match toV a,toV b with
 | some x,some y=>if Vi x y=true then some (.bl (!decide (x=y)))else none
 | _,_=>match bJ a,bJ b with
  | some (.lst x),some (.lst y)=>if aV x≤32 then some (.bl (!lC (.lst x) (.lst y)))else none
  | some (.tup x),some (.tup y)=>if aV x≤32 then some (.bl (!lC (.tup x) (.tup y)))else none
  | _,_=>none
def QV(K:aA):R2:=λx y H Q=>bu x y H Q∨(∃ds es,Reads K H (.lst ds) x∧Reads K H (.lst es) y∧aV ds≤32∧Q (.bl (!lC (.lst ds) (.lst es))) H)∨(∃ds es,Reads K H (.tup ds) x∧Reads K H (.tup es) y∧aV ds≤32∧Q (.bl (!lC (.tup ds) (.tup es))) H)
theorem uP:Uv K (QV K) xK:=λx y H a b d Q ra rb q k=>by
 unfold xK at q
 split at q
 ·rename_i u v h1 h2
  split at q
  ·rename_i hs
   cases q
   rw[zO h1 ra,zO h2 rb]
   exact .inl ⟨hs,k _ H (aG.refl _) (.dZ rfl (by unfold Rv;rfl))⟩
  ·cases q
 ·split at q
  ·rename_i u v h1 h2
   split at q
   ·rename_i hs
    cases q
    exact .inr (.inl ⟨u,v,jW a _ x h1 ra,jW b _ y h2 rb,hs,k _ H (aG.refl _) (.dZ rfl (by unfold Rv;rfl))⟩)
   ·cases q
  ·rename_i u v h1 h2
   split at q
   ·rename_i hs
    cases q
    exact .inr (.inr ⟨u,v,jW a _ x h1 ra,jW b _ y h2 rb,hs,k _ H (aG.refl _) (.dZ rfl (by unfold Rv;rfl))⟩)
   ·cases q
  ·cases q
theorem or_eq(hu:X.A.units+64<cLine)(hk:X.K=K):pC X (compareOp .Eq) (λx y H Q=>XF x y H Q∨DY K false x y H Q):=by subst hk;exact PN.or (EY hu)
theorem uQ(hu:X.A.units+64<cLine)(hk:X.K=K):pC X (compareOp .NotEq) (QV K):=by subst hk;exact PQ.or ((FJ hu).or (FW hu))
def lG:D→Option (List D)
 | .lst ds=>some ds
 | .tup ds=>some ds
 | _=>none
theorem zP{H:Hp}{d:D}{ds:List D}{v:V}(h:lG d=some ds)(r:Rv K H d v):∃p xs,v=.ref p∧(iM K H p xs∨jP K H p xs)∧bH K H ds xs:=by
 cases d with
 | lst es=>unfold lG at h;cases h;unfold Rv at r;obtain⟨p,xs,r1,r2,r3⟩:=r;exact⟨p,xs,r1,.inl r2,r3⟩
 | tup es=>unfold lG at h;cases h;unfold Rv at r;obtain⟨p,xs,r1,r2,r3⟩:=r;exact⟨p,xs,r1,.inr r2,r3⟩
 | _=>unfold lG at h;cases h
end
section
variable{κ:Type} [DecidableEq κ] {K:aA} {H:Hp}
def posK:List κ→κ→Option Nat
 | [],_=>none
 | a::ks,k=>if a=k then some 0 else(posK ks k).map (·+1)
theorem pJ:∀{ks:List κ} {xs:List V} {k:κ},ks.length=xs.length→iQ (ks.zip xs) k=(posK ks k).bind λj=>xs[j]?
 | [],xs,k,h=>by unfold posK;rfl
 | a::ks,[],k,h=>by simp at h
 | a::ks,x::xs,k,h=>by
  have ih:=pJ (ks:=ks) (xs:=xs) (k:=k) (by simpa using h)
  unfold posK
  rw[N0]
  unfold iQ at ih ⊢
  rw[J6]
  by_cases c:a=k
  ·rw[if_pos c,decide_eq_true c];rfl
  ·rw[if_neg c,decide_eq_false c]
   show Option.map _ (List.find? _ (ks.zip xs))=_
   rw[ih]
   cases posK ks k<;>rfl
theorem zQ:∀{ks:List κ} {k:κ} {j:Nat},posK ks k=some j→j<ks.length∧ks[j]?=some k
 | [],k,j,h=>by unfold posK at h;cases h
 | a::ks,k,j,h=>by
  unfold posK at h
  split at h
  ·rename_i c;cases h;exact⟨by simp,by simp[c]⟩
  ·obtain⟨i,h1,rfl⟩:=fH h
   obtain⟨a1,a2⟩:=zQ h1
   exact⟨by simpa using a1,by simpa using a2⟩
theorem xM:∀{ks:List κ} {k:κ},posK ks k=none↔k∉ks
  | [],k=>by unfold posK;simp
  | a::ks,k=>by
    unfold posK
    have ih:=xM (ks:=ks) (k:=k)
    split
    · rename_i c;simp[c]
    · rename_i c
      rw[Option.map_eq_none_iff,ih,B8]
      constructor
      · rintro h (q | q)
        · exact c q.symm
        · exact h q
      · intro h q;exact h (.inr q)
def gP(ks:List κ)(k:κ):List κ:=if(posK ks k).isSome then ks else ks++[k]
def putD{β:Type}(ks:List κ)(ds:List β)(k:κ)(d:β):List β:=if(posK ks k).isSome then P7 (λk' d'=>if k'=k then d else d') ks ds else ds++[d]
theorem uR{β:Type}{ks:List κ}{ds:List β}{k:κ}{d:β}(h:ks.length=ds.length):(gP ks k).length=(putD ks ds k d).length:=by
 unfold gP putD
 split
 ·rw[List.length_zipWith,h,P6]
 ·rw[D4,D4,h];rfl
theorem Qd{ks:List κ}{xs:List V}{k:κ}{v:V}(h:ks.length=xs.length):putK (ks.zip xs) k v=(gP ks k).zip (putD ks xs k v):=by
 have ha:((ks.zip xs).any λkv=>decide (kv.1=k))=(posK ks k).isSome:=by
  rw[uA,pJ h]
  cases q:posK ks k with
  | none=>rfl
  | some j=>
   obtain⟨h1,h2⟩:=zQ q
   rw[B4,B5 (by omega)]
   rfl
 unfold putK gP putD
 rw[ha]
 by_cases c:(posK ks k).isSome=true
 ·rw[if_pos c,if_pos c,if_pos c]
  clear ha c
  induction ks generalizing xs with
  | nil=>rfl
  | cons a ks ih=>
   cases xs with
   | nil=>simp at h
   | cons x xs=>
    rw[N0,C5,K1,N0,ih (by simpa using h)]
    split<;>rfl
 ·rw[if_neg c,if_neg c,if_neg c,List.zip_append h]
  rfl
end
def Qe:D→Option Key
 | .int i=>some (.inl i)
 | .str x=>some (.inr x)
 | _=>none
theorem Wj{K:aA}{H:Hp}{d:D}{k:Key}{v:V}(h:Qe d=some k)(r:Rv K H d v):v=kV k:=by
 cases d<;>unfold Qe at h<;>first | (cases h;unfold Rv at r;exact r) | cases h
section
variable{K:aA}{X:Cx}{e a b c:Expr}{es:List Expr}{t ta tb:TE}{f g:FE}{pos:Pos}
def jc(neg:Bool)(k d:D):Option D:=match d with
 | .dk ks ds=>(Qe k).bind λk=>some (.bl (if neg then !(posK ks k).isSome else(posK ks k).isSome))
 | _=>none
def dM(a i:D):Option D:=match i with
 | .int i=>(lG a).bind λds=>Hu ds i
 | _=>none
theorem Yr{H:Hp}{ds:List D}{xs:List V}{i:Int}{d:D}(r:bH K H ds xs)(h:Hu ds i=some d):∃v,Hu xs i=some v∧Rv K H d v:=by
 unfold Hu at h ⊢
 obtain⟨j,h1,h2⟩:=aW h
 rw[r.length,h1]
 exact r.get h2
theorem Il(hk:X.K=K):Ur X (Yn K):=by subst hk;exact CW
theorem bR(ha:XR K X a ta f)(hb:XR K X b tb g)(hs:pF b):XR K X (.Subscript a b pos) (wB (Yn K) ta tb) (f2 dM f g):=
 ⟨ha.hk,Hw (Il ha.hk) ha.pe hb.pe hs,QS (λx y H Z da db d Q z ra rb q k=>by
  unfold dM at q
  split at q
  ·rename_i i
   obtain⟨ds,h1,h2⟩:=aW q
   unfold Rv at rb
   cases da with
   | lst es=>
    unfold lG at h1;cases h1
    unfold Rv at ra
    obtain⟨p,xs,r1,r2,r3⟩:=ra
    obtain⟨v,e1,e2⟩:=Yr r3 h2
    exact .inl ⟨p,xs,i,v,r1,rb,z.sm.seq r2,e1,k v H Z (aG.refl _) (aG.refl _) z e2⟩
   | tup es=>
    unfold lG at h1;cases h1
    unfold Rv at ra
    obtain⟨p,xs,r1,r2,r3⟩:=ra
    obtain⟨v,e1,e2⟩:=Yr r3 h2
    exact .inr (.inl ⟨p,xs,i,v,r1,rb,z.sm.tup r2,e1,k v H Z (aG.refl _) (aG.refl _) z e2⟩)
   | _=>unfold lG at h1;cases h1
  ·cases q) ha.ev hb.ev⟩
end
end L2


namespace L2
open PySem PySem.Spec PyProof.Rows
section
variable{K:aA}{X:Cx}{e a b c:Expr}{es rest:List Expr}{t ta tb:TE}{f g:FE}{tA:TA}{fs:FA}{pos:Pos}{tc:TT}{fc fd:FT}{td:TT}
theorem aR(hk:X.K=K:=by rfl):XA K X [] qO aQ:=⟨hk,oE,GF⟩
theorem aF(h:XR K X e t f)(hs:XA K X es tA fs)(hst:starEach (e::es) X.env=(false,eval e X.env)::starEach es X.env:=by rfl):XA K X (e::es) (dY t tA) (aD f fs):=⟨h.hk,fZ h.pe hs.pa hst,Wg h.ev hs.ev⟩
theorem qU(hk:X.K=K:=by rfl):XB K X [] qO aQ:=⟨hk,oE,GJ⟩
theorem fG(h:XN K X e t f)(hs:XB K X es tA fs)(hst:starEach (e::es) X.env=(false,eval e X.env)::starEach es X.env:=by rfl):XB K X (e::es) (dY t tA) (aD f fs):=⟨h.hk,fZ h.pe hs.pa hst,Wh h.ev hs.ev⟩
theorem zR(h:XB K X es tA fs):XN K X (.List es pos) (Oh tA) (lF fs):=⟨h.hk,Oj h.pa,GK h.ev⟩
theorem zT(h:XA K X es tA fs):XR K X (.List es pos) (Oh tA) (lF fs):=⟨h.hk,Oj h.pa,GQ h.ev⟩
theorem Qf{x1:Nat}(h:XB K X es tA fs):XN K X (.Tuple es x1 pos) (Eg tA) (Ep fs):=⟨h.hk,Oi h.pa,GP h.ev⟩
def Lh(f g:FT):FT:=λe=>(f e).bind λc=>if c=true then g e else some false
def Qg(f g:FT):FT:=λe=>(f e).bind λc=>if c=true then some true else g e
def nM(f:FT):FT:=λe=>(f e).map λc=>!c
theorem GX(h1:Ii K tc fc)(h2:Ii K td fd):Ii K (Zq tc td) (Lh fc fd):=λσ H e b Q re q k=>by
 unfold Lh at q
 obtain⟨c,q1,q2⟩:=aW q
 refine h1 σ H e c _ re q1 λH1 s1=>?_
 cases c with
 | true=>rw[if_pos rfl]at q2 ⊢;exact h2 σ H1 e b Q (re.same s1) q2 λH2 s2=>k H2 (s1.trans s2)
 | false=>rw[if_neg (by decide)]at q2 ⊢;cases q2;exact k H1 s1
theorem QW(h1:Ii K tc fc)(h2:Ii K td fd):Ii K (WX tc td) (Qg fc fd):=λσ H e b Q re q k=>by
 unfold Qg at q
 obtain⟨c,q1,q2⟩:=aW q
 refine h1 σ H e c _ re q1 λH1 s1=>?_
 cases c with
 | false=>rw[if_neg (by decide)]at q2 ⊢;exact h2 σ H1 e b Q (re.same s1) q2 λH2 s2=>k H2 (s1.trans s2)
 | true=>rw[if_pos rfl]at q2 ⊢;cases q2;exact k H1 s1
theorem HD(h1:Ii K tc fc):Ii K (Zr tc) (nM fc):=λσ H e b Q re q k=>by
 unfold nM at q
 obtain⟨c,q1,rfl⟩:=fH q
 exact h1 σ H e c _ re q1 k
theorem XW.xt(h:XW K X e tc fc):XT K X e tc fc:=⟨h.hk,h.pw.pt,h.ev⟩
theorem Wk(h:XT K X a tc fc):XW K X (.BoolOp .And [a] pos) tc fc:=⟨h.hk,Vd h.pt,h.ev⟩
theorem qW(h:XT K X a tc fc):XW K X (.BoolOp .Or [a] pos) tc fc:=⟨h.hk,Zt h.pt,h.ev⟩
theorem HF(h:XT K X a tc fc)(h2:XW K X (.BoolOp .And (b::rest) pos) td fd):XW K X (.BoolOp .And (a::b::rest) pos) (Zq tc td) (Lh fc fd):=⟨h.hk,Zu h.pt h2.pw,GX h.ev h2.ev⟩
theorem xN(h:XT K X a tc fc)(h2:XW K X (.BoolOp .Or (b::rest) pos) td fd):XW K X (.BoolOp .Or (a::b::rest) pos) (WX tc td) (Qg fc fd):=⟨h.hk,NP h.pt h2.pw,QW h.ev h2.ev⟩
theorem jX(h:XT K X a tc fc):XT K X (.UnaryOp .Not a pos) (Zr tc) (nM fc):=⟨h.hk,Zv h.pt,HD h.ev⟩
def uT(f g:FE):FE:=λe=>(fB f e).bind λc=>if c=true then g e else some (.bl false)
def Bw(f:FE):FE:=λe=>(fB f e).map λc=>.bl (!c)
theorem Im{op:BoolOp}(h:XN K X a t f):XN K X (.BoolOp op [a] pos) t f:=⟨h.hk,Zw h.pe,h.ev⟩
theorem Eu(h:XR K X a ta f)(h2:XN K X (.BoolOp .And (b::rest) pos) tb g):XN K X (.BoolOp .And (a::b::rest) pos) (Ye ta tb) (uT f g):=⟨h.hk,Zx h.pe h2.pe,λσ H e d Q re q k=>by
 unfold uT at q
 obtain⟨c,q1,q2⟩:=aW q
 refine h.ev σ H H e _ _ (Zn.self K H) re (sZ q1) λv H1 Z1 s1 t1 z1 rv=>?_
 unfold Rv at rv
 refine⟨c,rv,?_⟩
 cases c with
 | true=>rw[if_pos rfl]at q2 ⊢;exact h2.ev σ H1 e d Q (re.same s1) q2 λv H2 s2 n=>k v H2 (s1.trans s2) (n.back s1)
 | false=>rw[if_neg (by decide)]at q2 ⊢;cases q2;exact k _ H1 s1 (.dZ rfl (by unfold Rv;rfl))⟩
theorem HH(h:XR K X a ta f):XN K X (.UnaryOp .Not a pos) (Yg ta) (Bw f):=⟨h.hk,Zy h.pe,λσ H e d Q re q k=>by
 unfold Bw at q
 obtain⟨c,q1,rfl⟩:=fH q
 refine h.ev σ H H e _ _ (Zn.self K H) re (sZ q1) λv H1 Z1 s1 t1 z1 rv=>?_
 unfold Rv at rv
 exact⟨c,rv,k _ H1 s1 (.dZ rfl (by unfold Rv;rfl))⟩⟩
def fL(φ:List D→Option D)(fs:FA):FE:=λe=>(fs e).bind φ
def rW(K:aA)(r:List V→Hp→VK→Prop)(φ:List D→Option D):Prop:=∀(vs:List V)(H:Hp)(ds:List D)(d:D)(Q:VK),bH K H ds vs→φ ds=some d →
 (∀v H',aG H H'→xH K H H' d v→Q v H')→r vs H Q
theorem Ys{r:List V→Hp→VK→Prop}{φ:List D→Option D}(o:rW K r φ)(h:GC K tA fs):Dz K (Uq r tA) (fL φ fs):=λσ H e d Q re q k=>by
 obtain⟨ds,q1,q2⟩:=aW q
 exact h σ H H e ds _ (Zn.self K H) re q1 λvs H1 Z1 s1 t1 z1 rs=>o vs H1 ds d Q (z1.sm.Nq _ _ rs) q2 λv H2 s2 n=>k v H2 (s1.trans s2) (n.back s1)
theorem lH{r:List V→Hp→VK→Prop}{φ:List D→Option D}{x:Str}{id:String}{p:Pos}(o:rW K r φ)(hc:fW X (.builtin id) r)(hg:Gl X x)(hm:X.mg x=none)(hv:bootBuiltins x=some (.builtin id))(ha:XA K X (e::es) tA fs)(hn:x ≠ "__name__" := by decide) (hdb:(x==("__debug__" : Str))=false:=by decide)
  (he:starEach (e::es) X.env=(false,eval e X.env)::starEach es X.env:=by rfl) (hpl:(backTo pos (starEach es X.env)).any (·.1)=false:=by rfl):XN K X (.Call (.Name x p) (e::es) [] pos) (Uq r tA) (fL φ fs):=⟨ha.hk,tR hc hg hm hv ha.pa hn hdb he hpl,Ys o ha.ev⟩
theorem xO{r:List V→Hp→VK→Prop}{φ:List D→Option D}{x:Str}{id:String}{p:Pos}(o:rW K r φ)(hc:fW X (.type id) r)(hg:Gl X x)(hm:X.mg x=none)(hv:bootBuiltins x=some (.type id))(ha:XA K X (e::es) tA fs)(hn:x ≠ "__name__" := by decide) (hdb:(x==("__debug__" : Str))=false:=by decide)
  (he:starEach (e::es) X.env=(false,eval e X.env)::starEach es X.env:=by rfl) (hpl:(backTo pos (starEach es X.env)).any (·.1)=false:=by rfl):XN K X (.Call (.Name x p) (e::es) [] pos) (Uq r tA) (fL φ fs):=⟨ha.hk,Kv hc hg hm hv ha.pa hn hdb he hpl,Ys o ha.ev⟩
theorem oH{H:Hp}{d:D}{vs:List V}(h:bH K H [d] vs):∃v,vs=[v]∧Rv K H d v:=by
 unfold bH at h
 obtain⟨y,ys,rfl,h1,h2⟩:=h
 unfold bH at h2
 subst h2
 exact⟨y,rfl,h1⟩
theorem HJ{H:Hp}{d d':D}{vs:List V}(h:bH K H [d,d'] vs):∃v v',vs=[v,v']∧Rv K H d v∧Rv K H d' v':=by
 unfold bH at h
 obtain⟨y,ys,rfl,h1,h2⟩:=h
 obtain⟨v,rfl,h3⟩:=oH h2
 exact⟨y,v,rfl,h1,h3⟩
def nO:List D→Option D
 | [d]=>(lG d).map λds=>.int ds.length
 | _=>none
def QX(K:aA):List V→Hp→VK→Prop:=λxs H Q=>∃p ys,xs=[.ref p]∧(iM K H p ys∨jP K H p ys)∧Q (.int ys.length) H
theorem jY:rW K (QX K) nO:=λvs H ds d Q rs q k=>by
 unfold nO at q
 split at q
 ·rename_i d0
  obtain⟨es,q1,rfl⟩:=fH q
  obtain⟨v,rfl,r⟩:=oH rs
  obtain⟨p,xs,rfl,r2,r3⟩:=zP q1 r
  refine⟨p,xs,rfl,r2,k _ H (aG.refl _) (.dZ rfl ?_)⟩
  rw[r3.length];unfold Rv;rfl
 ·cases q
theorem jZ(hk:X.K=K):fW X (.builtin "len") (QX K):=by subst hk;exact yV
def dList:List D→Option D
 | [d]=>(lG d).bind λds=>if D.aZ ds=true then some (.lst ds)else none
 | _=>none
def Yt(K:aA):List V→Hp→VK→Prop:=λxs H Q=>∃p ys,xs=[.ref p]∧(iM K H p ys∨jP K H p ys)∧∀l,H l=none→Q (.ref l) (upd H l (.lst ys))
theorem pK:rW K (Yt K) dList:=λvs H ds d Q rs q k=>by
 unfold dList at q
 split at q
 ·rename_i d0
  obtain⟨es,q1,q2⟩:=aW q
  split at q2
  ·rename_i hi
   cases q2
   obtain⟨v,rfl,r⟩:=oH rs
   obtain⟨p,xs,rfl,r2,r3⟩:=zP q1 r
   exact⟨p,xs,rfl,r2,λl hl=>k _ _ (bG hl _) (jR (aG.refl _) (.aZ hi r3) hl)⟩
  ·cases q2
 ·cases q
theorem pL(hk:X.K=K):fW X (.type "list") (Yt K):=by subst hk;exact yW
def uU:List D→Option D
 | [d]=>(lG d).bind λds=>if D.aZ ds=true then some (.tup ds)else none
 | _=>none
def Qh(K:aA):List V→Hp→VK→Prop:=λxs H Q=>∃p ys,xs=[.ref p]∧((iM K H p ys∧∀l,H l=none→Q (.ref l) (upd H l (.tup ys)))∨(jP K H p ys∧Q (.ref p) H))
theorem Qi:rW K (Qh K) uU:=λvs H ds d Q rs q k=>by
 unfold uU at q
 split at q
 ·rename_i d0
  obtain⟨es,q1,q2⟩:=aW q
  split at q2
  ·rename_i hi
   cases q2
   obtain⟨v,rfl,r⟩:=oH rs
   obtain⟨p,xs,rfl,r2,r3⟩:=zP q1 r
   refine⟨p,xs,rfl,?_⟩
   rcases r2 with r2 | r2
   ·exact .inl ⟨r2,λl hl=>k _ _ (bG hl _) (zN (.aZ hi r3) hl)⟩
   ·exact .inr ⟨r2,k _ H (aG.refl _) (.dZ (by unfold D.dZ;exact hi) (by unfold Rv;exact⟨p,xs,rfl,r2,r3⟩))⟩
  ·cases q2
 ·cases q
theorem Qj(hk:X.K=K):fW X (.type "tuple") (Qh K):=by subst hk;exact wH
def intsOf:List D→Option (List Int)
 | []=>some []
 | .int i::ds=>(intsOf ds).map (i::·)
 | _=>none
theorem oJ:∀ns:List Int,intsOf (ns.map D.int)=some ns
 | []=>rfl
 | n::ns=>by rw[C5];unfold intsOf;rw[oJ ns];rfl
theorem rY:∀{ds:List D} {ns:List Int},intsOf ds=some ns→ds=ns.map D.int
 | [],ns,h=>by unfold intsOf at h;cases h;rfl
 | d::ds,ns,h=>by
  cases d with
  | int i=>
   unfold intsOf at h
   obtain⟨ms,h1,rfl⟩:=fH h
   rw[C5,←rY h1]
  | _=>unfold intsOf at h;cases h
theorem jD{H:Hp}:∀{ns:List Int} {xs:List V},bH K H (ns.map D.int) xs↔xs=ns.map V.int
 | [],xs=>by rw[E9,E9];unfold bH;rfl
 | n::ns,xs=>by
  rw[C5,C5]
  unfold bH
  constructor
  ·rintro⟨y,ys,rfl,h1,h2⟩
   unfold Rv at h1
   rw[h1,jD.mp h2]
  ·rintro rfl
   exact⟨_,_,rfl,by unfold Rv;rfl,jD.mpr rfl⟩
theorem bO:∀ns:List Int,D.aZ (ns.map D.int)=true
 | []=>by rw[E9];unfold D.aZ;rfl
 | n::ns=>by rw[C5];unfold D.aZ D.dZ;rw[bO ns];rfl
theorem Bx{H:Hp}{ds:List D}{ns:List Int}{v:V}(h:intsOf ds=some ns)(r:Rv K H (.lst ds) v):∃p,v=.ref p∧iM K H p (ns.map V.int):=by
 rw[rY h]at r
 unfold Rv at r
 obtain⟨p,xs,r1,r2,r3⟩:=r
 rw[jD.mp r3]at r2
 exact⟨p,r1,r2⟩
def sortI(ns:List Int):List Int:=ns.mergeSort λa b=>decide (a≤b)
theorem gA(ns:List Int):rising ns (sortI ns):=⟨List.mergeSort_perm _ _,by
 have h:=List.pairwise_mergeSort (le:=λa b:Int=>decide (a≤b)) (λa b c h1 h2=>decide_eq_true (Int.le_trans (of_decide_eq_true h1) (of_decide_eq_true h2))) (λa b=>by
  rw[V8,decide_eq_true_iff,decide_eq_true_iff];exact Int.le_total a b) ns
 exact h.imp λh=>of_decide_eq_true h⟩
theorem xP:∀{l m:List Int},l.Pairwise (·≤·)→m.Pairwise (·≤·)→l.Perm m→l=m
  | [],m,_,_,p=>(List.Perm.nil_eq p)
  | a::l,[],_,_,p=>absurd p.symm (by simp)
  | a::l,b::m,h1,h2,p=>by
    obtain⟨VJ,YL⟩:=F8.mp h1
    obtain⟨VL,YM⟩:=F8.mp h2
    have e:a=b:=by
      have q1:a∈b::m:=p.mem_iff.mp C4
      have q2:b∈a::l:=p.mem_iff.mpr C4
      rcases B8.mp q1 with q1 | q1
      · exact q1
      · rcases B8.mp q2 with q2 | q2
        · exact q2.symm
        · have:=VJ b q2
          have:=VL a q1
          omega
    subst e
    rw[xP YL YM (List.Perm.cons_inv p)]
theorem zU{ns ms:List Int}(h:rising ns ms):ms=sortI ns:=xP h.2 (gA ns).2 (h.1.trans (gA ns).1.symm)
def tD:List D→Option D
 | [.lst ds]=>(intsOf ds).bind λns=>if ns.length<64 then some (.lst ((sortI ns).map D.int))else none
 | _=>none
def Io(K:aA):List V→Hp→VK→Prop:=λxs H Q=>∃(p:Addr)(ns:List Int),xs=[.ref p]∧iM K H p (ns.map V.int)∧ns.length<64∧∀l ms,H l=none→rising ns ms→Q (.ref l) (upd H l (.lst (ms.map V.int)))
theorem Li:rW K (Io K) tD:=λvs H ds d Q rs q k=>by
 unfold tD at q
 split at q
 ·obtain⟨ns,q1,q2⟩:=aW q
  split at q2
  ·rename_i hl
   cases q2
   obtain⟨v,rfl,r⟩:=oH rs
   obtain⟨p,rfl,r2⟩:=Bx q1 r
   refine⟨p,ns,rfl,r2,hl,λl ms hl hr=>?_⟩
   rw[zU hr]
   exact k _ _ (bG hl _) (jR (aG.refl _) (.aZ (bO _) (jD.mpr rfl)) hl)
  ·cases q2
 ·cases q
theorem Lj(hk:X.K=K):fW X (.builtin "sorted") (Io K):=by subst hk;exact Bo
def dh:List D→Option D
 | [.int i,.int j]=>some (.int (if j > i then j else i))
 | _=>none
def By:List D→Option D
 | [.int i,.int j]=>some (.int (if j<i then j else i))
 | _=>none
theorem Wl:rW K (λxs H Q=>∃i j,xs=[.int i,.int j]∧Q (.int (if j<i then j else i)) H) By:=λvs H ds d Q rs q k=>by
 unfold By at q
 split at q
 ·cases q
  obtain⟨v,w,rfl,r1,r2⟩:=HJ rs
  unfold Rv at r1 r2
  exact⟨_,_,by rw[r1,r2],k _ H (aG.refl _) (.dZ rfl (by unfold Rv;rfl))⟩
 ·cases q
end
end L2


namespace L2
open PySem PySem.Spec PyProof.Rows
section
variable{K:aA}{X:Cx}{e a b c:Expr}{es rest:List Expr}{t ta tb:TE}{f g:FE}{tA:TA}{fs:FA}{pos:Pos}{tc:TT}{fc fd:FT}{td:TT}
abbrev FO:=DE→Option (Option Int)
def jd(K:aA)(t:TO)(f:FO):Prop:=∀(σ:St)(H:Hp)(e:DE)(o:Option Int)(Q:Option Int→Hp→Prop),nJ K H e σ→f e=some o→(∀H',aG H H'→Q o H')→t σ H Q
structure XO(K:aA)(X:Cx)(e:Option Expr)(t:TO)(f:FO):Prop where
 po:PO X e t
 ev:jd K t f
def oK:FO:=λ_=>some none
def fQ(f:FE):FO:=λe=>(f e).bind λd=>match d with | .int i=>some (some i) | _=>none
theorem mL:XO K X none Ht oK:=⟨Vp,λσ H e o Q re q k=>by cases q;exact k H (aG.refl _)⟩
theorem iH(h:XR K X e t f):XO K X (some e) (Ym t) (fQ f):=⟨Vq h.pe,λσ H e o Q re q k=>by
 unfold fQ at q
 obtain⟨d,q1,q2⟩:=aW q
 split at q2
 ·rename_i i
  cases q2
  refine h.ev σ H H e _ _ (Zn.self K H) re q1 λv H1 Z1 s1 t1 z1 rv=>?_
  unfold Rv at rv
  exact⟨i,rv,k H1 s1⟩
 ·cases q2⟩
def eU{α:Type}(xs:List α)(lo hi:Option Int):List α:=(xs.drop (HT.cN xs.length 0 lo)).take (HT.cN xs.length xs.length hi-HT.cN xs.length 0 lo)
theorem bH.drop{H:Hp}:∀{ds:List D} {xs:List V} (n:Nat),bH K H ds xs→bH K H (ds.drop n) (xs.drop n)
 | ds,xs,0,h=>h
 | [],xs,n+1,h=>by unfold bH at h;subst h;simp;unfold bH;rfl
 | d::ds,xs,n+1,h=>by unfold bH at h;obtain⟨y,ys,rfl,_,h2⟩:=h;simpa using bH.drop n h2
theorem bH.take{H:Hp}:∀{ds:List D} {xs:List V} (n:Nat),bH K H ds xs→bH K H (ds.take n) (xs.take n)
 | ds,xs,0,h=>by simp;unfold bH;rfl
 | [],xs,n+1,h=>by unfold bH at h;subst h;simp;unfold bH;rfl
 | d::ds,xs,n+1,h=>by unfold bH at h;obtain⟨y,ys,rfl,h1,h2⟩:=h;rw[O2,O2];unfold bH;exact⟨y,_,rfl,h1,bH.take n h2⟩
theorem zV{H:Hp}{ds:List D}{xs:List V}(lo hi:Option Int)(h:bH K H ds xs):bH K H (eU ds lo hi) (tW xs lo hi):=by
 unfold eU tW
 rw[h.length]
 exact(h.drop _).take _
def Lk(dZ:Bool)(f:FE)(l h:FO):FE:=λe=>(f e).bind λd=>(l e).bind λlo=>(h e).bind λhi=>match d with
 | .lst ds=>if dZ=false∨D.aZ (eU ds lo hi)=true then some (.lst (eU ds lo hi))else none
 | _=>none
theorem Ca{dZ:Bool}{f:FE}{l h:FO}{e:DE}{d:D}(q:Lk dZ f l h e=some d):∃ds lo hi,f e=some (.lst ds)∧l e=some lo∧h e=some hi∧(dZ=false∨D.aZ (eU ds lo hi)=true)∧d=.lst (eU ds lo hi):=by
 unfold Lk at q
 obtain⟨d0,q1,q⟩:=aW q
 obtain⟨lo,q2,q⟩:=aW q
 obtain⟨hi,q3,q⟩:=aW q
 split at q
 ·split at q
  ·rename_i c;cases q;exact⟨_,lo,hi,q1,q2,q3,c,rfl⟩
  ·cases q
 ·cases q
theorem Ip(hk:X.K=K):QC X (Vt K):=by subst hk;exact Vu
variable{lo hi:Option Expr}{tl th:TO}{fl fh:FO}{p2:Pos}
theorem lJ(h:XR K X e t f)(hl:XO K X lo tl fl)(hu:XO K X hi th fh):XR K X (.Subscript e (.Slice lo hi none p2) pos) (VB (Vt K) t tl th) (Lk false f fl fh):=⟨h.hk,tV (Ip h.hk) h.pe hl.po hu.po,λσ H Z e d Q z re q k=>by
 obtain⟨ds,lo,hi,q1,q2,q3,_,rfl⟩:=Ca q
 refine h.ev σ H Z e _ _ z re q1 λv H1 Z1 s1 t1 z1 rv=>hl.ev σ H1 e lo _ (re.same (z.sm.trans s1)) q2 λH2 s2=>hu.ev σ H2 e hi _ (re.same (z.sm.trans (s1.trans s2))) q3 λH3 s3=>?_
 have z3:=zL z1 (s2.trans s3)
 have t3:aG Z1 (zK Z1 H1 H3):=qR z1
 unfold Rv at rv
 obtain⟨p,xs,rfl,r2,r3⟩:=rv
 refine⟨p,xs,rfl,z3.sm.seq (t3.seq r2),λl hl=>?_⟩
 obtain⟨a1,a2⟩:=Qa (o:=.lst (tW xs lo hi)) z3 hl
 exact k _ _ _ (s1.trans (s2.trans (s3.trans (bG hl _)))) (t1.trans (t3.trans a1)) a2 (by unfold Rv;exact⟨l,_,rfl,iM.of bB,a1.Nq _ _ (t3.Nq _ _ (zV lo hi r3))⟩)⟩
theorem Qk(h:XR K X e t f)(hl:XO K X lo tl fl)(hu:XO K X hi th fh):XN K X (.Subscript e (.Slice lo hi none p2) pos) (VB (Vt K) t tl th) (Lk true f fl fh):=⟨h.hk,tV (Ip h.hk) h.pe hl.po hu.po,λσ H e d Q re q k=>by
 obtain⟨ds,lo,hi,q1,q2,q3,qi,rfl⟩:=Ca q
 refine h.ev σ H H e _ _ (Zn.self K H) re q1 λv H1 Z1 s1 t1 z1 rv=>hl.ev σ H1 e lo _ (re.same s1) q2 λH2 s2=>hu.ev σ H2 e hi _ (re.same (s1.trans s2)) q3 λH3 s3=>?_
 have MJ:=(z1.sm.trans (s2.trans s3)).rv _ _ rv
 unfold Rv at MJ
 obtain⟨p,xs,rfl,r2,r3⟩:=MJ
 refine⟨p,xs,rfl,r2,λl hl=>?_⟩
 have Uw:=s1.trans (s2.trans s3)
 exact k _ _ (Uw.trans (bG hl _)) (jR Uw (.aZ (qi.resolve_left (by decide)) (zV lo hi r3)) hl)⟩
def Ql(K:aA):R2:=λx y H Q=>∃l b xs zs,x=.ref l∧y=.ref b∧iM K H l xs∧iM K H b zs∧xs.length+zs.length≤sizeLine∧∀p,H p=none→Q (.ref p) (upd H p (.lst (xs++zs)))
theorem Wm(hk:X.K=K):pC X (binaryOp .Add) (Ql K):=by
 subst hk
 intro pins s σ H x y v u Q I rx ry h
 obtain⟨l,b,xs,zs,rfl,rfl,h1,h2,hz,q⟩:=h
 cases rx
 cases ry
 obtain⟨its,r,pl,_⟩:=I.list h1
 obtain⟨its2,r2,Bp,_⟩:=I.list h2
 obtain⟨⟨cl,dd,da,sl⟩,ho,hc,n,hd⟩:=pl.isList
 obtain⟨⟨cl2,dd2,da2,sl2⟩,ho2,hc2,n2,hd2⟩:=Bp.isList
 dsimp only at hc hd hc2 hd2
 subst hc hd hc2 hd2
 have hlen:its.toArray.size+its2.toArray.size≤sizeLine:=by rw[B3,B3,←r.length,←r2.length];exact hz
 have ea:its.toArray++its2.toArray=(its++its2).toArray:=by simp
 refine concat_meets ⟨_,ho,rfl⟩ ⟨_,ho2,rfl⟩ noFill_list_add seq_list_add PySem.F.slot_list_add PySem.F.entry_list_add (PySem.F.args_list_add_2 _ _)
  (list_addW l b its.toArray its2.toArray n n2 dd dd2 sl sl2 hlen) ⟨ho,ho2,?_⟩
 rw[ea]
 exact⟨.ref _,_,I.DK (t':=s.toks) (r.append r2) (by rw[D4];exact hz),rfl,q _ I.fresh⟩
def fK(a b:D):Option D:=match a,b with
 | .int i,.int j=>some (.int (i+j))
 | .lst x,.lst y=>if D.aZ (x++y)=true∧x.length+y.length≤100000 then some (.lst (x++y))else none
 | _,_=>none
theorem bH.append{H:Hp}:∀{ds es:List D} {xs ys:List V},bH K H ds xs→bH K H es ys→bH K H (ds++es) (xs++ys)
 | [],es,xs,ys,h,h'=>by unfold bH at h;subst h;exact h'
 | d::ds,es,xs,ys,h,h'=>by unfold bH at h;obtain⟨y,yt,rfl,h1,h2⟩:=h;rw[G2,G2];unfold bH;exact⟨y,_,rfl,h1,bH.append h2 h'⟩
theorem Wn:Uv K (λx y H Q=>Od (λi j=>.int (i+j)) x y H Q∨Ql K x y H Q) fK:=λx y H a b d Q ra rb q k=>by
 unfold fK at q
 split at q
 ·cases q;unfold Rv at ra rb;exact .inl ⟨_,_,ra,rb,k _ H (aG.refl _) (.dZ rfl (by unfold Rv;rfl))⟩
 ·split at q
  ·rename_i c
   cases q
   unfold Rv at ra rb
   obtain⟨p,xs,rfl,r2,r3⟩:=ra
   obtain⟨p',xs',rfl,r2',r3'⟩:=rb
   refine .inr ⟨p,p',xs,xs',rfl,rfl,r2,r2',Br (by rw[r3.length,r3'.length];exact c.2),λl hl=>?_⟩
   exact k _ _ (bG hl _) (jR (aG.refl _) (.aZ c.1 (r3.append r3')) hl)
  ·cases q
 ·cases q
theorem dO(ha:XR K X a ta f)(hb:XR K X b tb g):XN K X (.BinOp a .Add b pos) (wB (λx y H Q=>Od (λi j=>.int (i+j)) x y H Q∨Ql K x y H Q) ta tb) (f2 fK f g):=uN (BR.or (Wm ha.hk)) Wn ha hb
def YQ(K:aA)(wi:TI)(fi:FA):Prop:=∀{N:Fp}(σ:St)(H Z:Hp)(e:DE)(ds:List D)(R:It→Hp→Prop),Zn K N Z H→nJ K Z e σ→fi e=some ds →
 (∀J H' Z' P vs,aG H H'→aG Z Z'→Zn K N Z' H'→DX J P vs→(∀H2,aG Z' H2→P H2)→bH K Z' ds vs→R J H')→wi σ H R
structure XI(K:aA)(X:Cx)(tg iter:Expr)(wi:TI)(fi:FA):Prop where
 hk:X.K=K
 pi:PI X tg iter wi
 ev:YQ K wi fi
def lK(f:FE):FA:=λe=>(f e).bind lG
def YT(K:aA)(t:TE):TI:=λσ H R=>Yi K t σ H R∨OJ K t σ H R
theorem gQ{tg:Expr}(h:XR K X e t f):XI K X tg e (YT K t) (lK f):=⟨h.hk,by
 have hk:=h.hk
 subst hk
 exact λpins s σ H R I q=>q.elim (Vg h.pe pins s σ H R I) (BL h.pe pins s σ H R I),λσ H Z e ds R z re q k=>by
 unfold lK at q
 obtain⟨d,q1,q2⟩:=aW q
 cases d with
 | lst es=>
  unfold lG at q2;cases q2
  refine .inl (h.ev σ H Z e _ _ z re q1 λv H1 Z1 s1 t1 z1 rv=>?_)
  unfold Rv at rv
  obtain⟨p,xs,rfl,r2,r3⟩:=rv
  exact⟨p,rfl,⟨xs,z1.sm.seq r2⟩,k _ H1 Z1 _ xs s1 t1 z1 Ph (λH2 s=>s.seq r2) r3⟩
 | tup es=>
  unfold lG at q2;cases q2
  refine .inr (h.ev σ H Z e _ _ z re q1 λv H1 Z1 s1 t1 z1 rv=>?_)
  unfold Rv at rv
  obtain⟨p,xs,rfl,r2,r3⟩:=rv
  exact⟨p,rfl,⟨xs,z1.sm.tup r2⟩,k _ H1 Z1 _ xs s1 t1 z1 Wd (λH2 s=>s.tup r2) r3⟩
 | _=>unfold lG at q2;cases q2⟩
def dB(lo:Int)(n:Nat):List D:=(D3 n).map λi:Nat=>D.int (lo+(i:Int))
theorem xQ{H:Hp}(lo:Int)(n:Nat):bH K H (dB lo n) ((D3 n).map λi:Nat=>V.int (lo+(i:Int))):=by
 unfold dB
 refine bH.of (by simp) λi d x h1 h2=>?_
 rw[C3]at h1 h2
 cases q:(D3 n)[i]? with
 | none=>rw[q]at h1;cases h1
 | some j=>rw[q]at h1 h2;cases h1;cases h2;unfold Rv;rfl
def lim(i:Int):Bool:=decide (-100000≤i∧i≤100000)
def kW(fs:FA):FA:=λe=>(fs e).bind λds=>match ds with
 | [.int n]=>if lim n=true then some (dB 0 n.toNat)else none
 | _=>none
theorem Qm{i:Int}(h:lim i=true):-100000≤i∧i≤100000:=of_decide_eq_true h
theorem xR{tg:Expr}{p:Pos}(hg:Gl X "range") (hm:X.mg "range" = none) (ha:XA K X [a] tA fs) (hs:starEach [a] X.env=[(false,eval a X.env)]:=by rfl):XI K X tg (.Call (.Name "range" p) [a] [] pos) (Oc tA) (kW fs):=⟨ha.hk,wR hg hm ha.pa hs,λσ H Z e ds R z re q k=>by
 unfold kW at q
 obtain⟨es,q1,q2⟩:=aW q
 split at q2
 ·rename_i n
  split at q2
  ·rename_i hl
   cases q2
   have hl:=Qm hl
   refine ha.ev σ H Z e _ _ z re q1 λvs H1 Z1 s1 t1 z1 rs=>?_
   obtain⟨v,rfl,r⟩:=oH rs
   unfold Rv at r
   subst r
   exact⟨n,rfl,by omega,by omega,k _ H1 Z1 _ _ s1 t1 z1 xF (λ_ _=>True.intro) (xQ 0 n.toNat)⟩
  ·cases q2
 ·cases q2⟩
def fY(e:DE)(fr:List Nat):DE:=fr.map λi=>(e[i]?).getD none
theorem Wo{H:Hp}{e:DE}{σ:St}{fr:List Nat}{d:D}{x:V}(re:nJ K H e σ)(r:Rv K H d x):nJ K H (some d::fY e fr) (some x::Bk σ fr):=λi d' h=>by
 cases i with
 | zero=>simp at h;subst h;exact⟨x,rfl,r⟩
 | succ i=>
  rw[List.getElem?_cons_succ]at h ⊢
  unfold fY at h
  unfold Bk
  rw[C3]at h ⊢
  cases q:fr[i]? with
  | none=>rw[q]at h;cases h
  | some j=>
   rw[q]at h
   have h:(e[j]?).getD none=some d':=E4 h
   have h2:e[j]?=some (some d'):=by
    cases q2:e[j]? with
    | none=>rw[q2]at h;cases h
    | some o=>rw[q2]at h;rw[show o=some d' from h]
   obtain⟨v,h3,h4⟩:=re j d' h2
   refine⟨v,?_,h4⟩
   show some (σ.getD j none)=_
   rw[D6,h3]
   rfl
def iI(c:D→Option Bool)(el:D→Option D):List D→Option (List D)
 | []=>some []
 | x::xs=>(c x).bind λb=>if b=true then(el x).bind λy=>(iI c el xs).map (y::·)else iI c el xs
def cX(fi:FA)(fr:List Nat)(fc:FT)(fe:FE):FE:=λe=>(fi e).bind λxs=>if xs.length≤100000 then(iI (λx=>fc (some x::fY e fr)) (λx=>fe (some x::fY e fr)) xs).map D.lst else none
theorem qX{H:Hp}{p:Addr}{o:HO}(n:nT H p):qQ K H (upd H p o):=λa xs h=>h.upd n
theorem zW{wi:TI}{fi:FA}{fr:List Nat}{te:TE}{fe:FE}(hi:YQ K wi fi)(hc:Ii K tc fc)(he:Dz K te fe):Dz K (uC wi 1 fr (bU 0) tc te) (cX fi fr fc fe):=by
 intro σ H e d Q re q k
 unfold cX at q
 obtain⟨xs,q1,q⟩:=aW q
 split at q
 ·rename_i hlen
  obtain⟨ds,q2,rfl⟩:=fH q
  refine hi σ H H e xs _ (Zn.self K H) re q1 λJ H1 Z1 P vs s1 t1 z1 hJ hP rvs=>?_
  intro D0 hD
  have hl:=rvs.length
  have je:H D0=none:=s1.free hD
  generalize hcc:(λx=>fc (some x::fY e fr))=cc at q2
  generalize hel:(λx=>fe (some x::fY e fr))=el at q2
  refine⟨λi m ys H2=>∃MK VN A,m=vs.length-i∧i≤vs.length∧ds=MK++VN∧iI cc el (xs.drop i)=some VN∧aG H1 H2∧H2 D0=some (.lst ys)∧bY K H2 MK A ys∧(∀a,A a→H1 a=none∧a≠D0)∧ys.length≤i,
   ⟨vs.length,[],ds,nil,by simp,J4 _,rfl,by simpa using q2,bG hD _,bB,by unfold bY;exact⟨λ_ z=>z,rfl⟩,λ_ z=>z.elim,B6 _⟩,?_⟩
  rintro i m ys H2 ⟨MK,VN,A,rfl,hi',hds,hcl,s2,hD2,ow,fr2,hyl⟩
  obtain⟨j1,j2,j3⟩:=hJ i H2 (hP H2 (z1.sm.trans s2))
  refine⟨hD2,?_⟩
  by_cases hlt:i<vs.length
  ·refine .inr ⟨j1 hlt,λx H' y=>?_⟩
   obtain⟨e1,ex⟩:=j2 x H' y
   subst e1
   have hx:=ex hlt
   have hxi:i<xs.length:=by omega
   have hxs:xs.drop i=xs[i]::xs.drop (i+1):=J3 hxi
   obtain⟨x',hx',rx⟩:=rvs.get (B5 hxi)
   rw[hx]at hx'
   cases hx'
   rw[hxs]at hcl
   unfold iI at hcl
   obtain⟨bb,c1,c2⟩:=aW hcl
   show Kp 1 σ fr (some x::Bk σ fr)∧_
   refine⟨⟨by simp[blk],λj v hv=>?_⟩,?_⟩
   ·cases j with
    | zero=>simp[blk]at hv
    | succ j=>simpa[blk]using hv
   have dj:nJ K H' (some xs[i]::fY e fr) (some x::Bk σ fr):=Wo (re.same (s1.trans s2)) ((z1.sm.trans s2).rv _ _ rx)
   refine hc _ H' _ bb _ dj (by rw[←hcc]at c1;exact c1) λH3 s3=>?_
   have YW:=s3 _ _ hD2
   cases bb with
   | false=>
    rw[if_neg (by decide)]at c2 ⊢
    exact⟨vs.length-(i+1),by omega,MK,VN,A,rfl,by omega,hds,c2,s2.trans s3,YW,ow.same s3,fr2,by omega⟩
   | true=>
    rw[if_pos rfl]at c2 ⊢
    obtain⟨dy,c3,c4⟩:=aW c2
    obtain⟨jf,c5,rfl⟩:=fH c4
    refine he _ H3 _ dy _ (dj.same s3) (by rw[←hel]at c3;exact c3) λyv H4 s4 n4=>?_
    have dm:=s4 _ _ YW
    refine⟨dm,Pz (by omega),vs.length-(i+1),by omega,MK++[dy],jf,?_⟩
    obtain⟨B,oB,fB⟩:=n4
    have hB:∀a,B a→H1 a=none∧a≠D0:=λa qa=>⟨(s2.trans s3).free (fB a qa),λz=>by have q0:=fB a qa;rw[z,YW]at q0;cases q0⟩
    refine⟨dD A B,rfl,by omega,by rw[hds];simp,c5,λb o eb=>?_,bB,?_,λa qa=>qa.elim (fr2 a) (hB a),by rw[D4];simp;exact hyl⟩
    ·rw[aP (cO eb hD)]
     exact(s2.trans (s3.trans s4)) b o eb
    ·have o4:=(ow.same s3).same s4
     have ap:Apart A B:=λa qa qb=>by
      obtain⟨⟨u,eu⟩,_⟩:=bY.cells _ _ _ (ow.same s3) a qa
      rw[fB a qb]at eu;cases eu
     have all:bY K H4 (MK++[dy]) (dD A B) (ys++[yv]):=cL.mpr ((cL.mp o4).snoc oB ap)
     exact bY.frame (qX (mK dm)) _ _ _ all λa qa=>aP (qa.elim (λz=>(fr2 a z).2) λz=>(hB a z).2)
  ·have ei:i=vs.length:=by omega
   subst ei
   have:xs.drop vs.length=[]:=R3 (by omega)
   rw[this]at hcl
   unfold iI at hcl
   cases hcl
   rw[Q8]at hds
   subst hds
   refine .inl ⟨j3 (B6 _),k _ H2 (s1.trans s2) ⟨dD (·=D0) A,?_,λa qa=>qa.elim (λz=>by cases z;exact je) λz=>s1.free (fr2 a z).1⟩⟩
   unfold Ow
   exact⟨D0,ys,A,rfl,hD2,λz=>(fr2 D0 z).2 rfl,λ_=>Iff.rfl,ow⟩
 ·cases q
def lM:FT:=λ_=>some true
structure QZ(K:aA)(X:Cx)(ifs:List Expr)(t:TT)(f:FT):Prop where
 YX:Ut X ifs t
 ev:Ii K t f
theorem mO:QZ K X [] QM lM:=⟨Vz,λσ H e b Q re q k=>by cases q;exact k H (aG.refl _)⟩
theorem Ir(h:XT K X c tc fc):QZ K X [c] tc fc:=⟨Wa h.pt,h.ev⟩
theorem pM{tg elt iter:Expr}{ifs:List Expr}{scope:Scope}{wi:TI}{fi:FA}{te:TE}{fe:FE}(N:List Str)(fr:List Nat)(hcalm:X.calm=true)(B:cG X.env.scope scope X.N N 1 fr)(hi:XI K X tg iter wi fi)
  (hg:∀cl fp s H C,PG (cC X scope N cl fp s H C) tg (bU 0)) (hc:∀cl fp s H C,QZ K (cC X scope N cl fp s H C) ifs tc fc) (he:∀cl fp s H C,XN K (cC X scope N cl fp s H C) elt te fe)
  (hs:∀x,foldedSetIterable iter X.env x=pure x:=by intro _;rfl):XN K X (.ListComp elt [⟨tg,iter,ifs,0⟩] scope pos) (uC wi 1 fr (bU 0) tc te) (cX fi fr fc fe):=
 ⟨hi.hk,Wb N 1 fr hcalm B hi.pi hg (λcl fp s H C=>(hc cl fp s H C).YX) (λcl fp s H C=>(he cl fp s H C).pe) hs,
  zW hi.ev (hc [] [] X.s₀ X.H₀ 0).ev (he [] [] X.s₀ X.H₀ 0).ev⟩
def oM(K:aA)(n:Nat)(F:List D→Option D):Sp:=λvs H Q _=>∃ds d,ds.length=n∧bH K H ds vs∧F ds=some d∧∀v H',aG H H'→xH K H H' d v→Q v H'
def cQ(n:Nat)(F:List D→Option D)(fs:FA):FE:=λe=>(fs e).bind λds=>if ds.length=n then F ds else none
theorem cR{x:Str}{k n:Nat}{F:List D→Option D}{p:Pos}(C:nR X.prog X.w X.K X.mg X.base x k n (oM K n F))(hr:gK k X.A)(hg:Gl X x)(ha:XA K X (e::es) tA fs)(hdb:(x==("__debug__" : Str))=false:=by decide)
  (he:starEach (e::es) X.env=(false,eval e X.env)::starEach es X.env:=by rfl) (hpl:(backTo pos (starEach es X.env)).any (·.1)=false:=by rfl):XN K X (.Call (.Name x p) (e::es) [] pos) (Bc (oM K n F) [] E0 tA) (cQ n F fs):=
 ⟨ha.hk,FQ C hr hg ha.pa hdb he hpl,λσ H e d Q re q k=>by
  unfold cQ at q
  obtain⟨ds,q1,q2⟩:=aW q
  split at q2
  ·rename_i hl
   refine call_of (ha.ev σ H H e ds _ (Zn.self K H) re q1 λvs H1 Z1 s1 t1 z1 rs=>?_)
   exact⟨ds,d,hl,z1.sm.Nq _ _ rs,q2,λv H2 s2 n=>k v H2 (s1.trans s2) (n.back s1)⟩
  ·cases q2⟩
end
end L2


namespace L2
open PySem PySem.Spec PyProof.Rows
inductive SD where
  | no | fro (d:D) | own (d:D) | inn (v:V) (d:D)
def SD.z:SD→Option D
 | .fro d=>some d
 | .own d=>if d.dZ=true then some d else none
 | .inn _ d=>if d.dZ=true then some d else none
 | .no=>none
def SD.r:SD→Option D
 | .fro d=>some d
 | .own d=>some d
 | .inn _ d=>some d
 | .no=>none
abbrev EN:=List SD
def zE(env:EN):DE:=env.map SD.z
def rE(env:EN):DE:=env.map SD.r
def dR(K:aA)(H Z:Hp):SD→Fp→Option V→Prop
 | .no,A,_=>None A
 | .fro d,A,y=>None A∧∃v,y=some v∧Rv K Z d v
 | .own d,A,y=>∃v,y=some v∧Ow K H d A v
 | .inn v d,A,y=>y=some v∧Ow K H d A v
def Rel(K:aA)(B:Hp)(env:EN)(σ:St)(H:Hp):Prop:=∃A,cV (dR K H (out H A)) env A σ∧aG B (out H A)
section
variable{K:aA}{B B' H H' Z Z':Hp}{env:EN}{σ:St}{A:Fp}
theorem cV.all{α β:Type}{R:α→Fp→β→Prop}{Pr:Addr→Prop}:∀{ds:List α} {A:Fp} {ys:List β},cV R ds A ys→(∀d B y,R d B y→∀a,B a→Pr a)→∀a,A a→Pr a
 | [],A,ys,h,_,a,q=>absurd q (h.1 a)
 | d::ds,A,ys,⟨y,yt,A1,A2,h1,h2,h3,h4,h5⟩,m,a,q=>((h3 a).mp q).elim (m _ _ _ h4 a) (cV.all h5 m a)
theorem dR.cells{s:SD}{y:Option V}(h:dR K H Z s A y):∀a,A a→lE H a:=by
 cases s with
 | no=>exact λa q=>absurd q (h a)
 | fro d=>exact λa q=>absurd q (h.1 a)
 | own d=>obtain⟨v,_,o⟩:=h;exact Ow.cells d A v o
 | inn v d=>exact Ow.cells d A v h.2
theorem cH(h:cV (dR K H Z) env A σ):∀a,A a→lE H a:=cV.all h λ_ _ _ q=>q.cells
theorem Rel.len(h:Rel K B env σ H):σ.length=env.length:=let ⟨_,s,_⟩:=h;s.len
theorem Rel.mono(h:Rel K B' env σ H)(s:aG B B'):Rel K B env σ H:=let ⟨A,a,b⟩:=h;⟨A,a,s.trans b⟩
theorem gR{A A':Fp}(s:aG H H')(h:∀a,A' a→A a∨H a=none):aG (out H A) (out H' A'):=λb o e=>by
 obtain⟨e1,e2⟩:=aU.mp e
 refine aU.mpr ⟨λq=>?_,s b o e2⟩
 rcases h b q with q | q
 ·exact e1 q
 ·rw[q]at e2;cases e2
theorem dR.same{s:SD}{y:Option V}(h:dR K H Z s A y)(e:aG H H')(z:aG Z Z'):dR K H' Z' s A y:=by
 cases s with
 | no=>exact h
 | fro d=>obtain⟨h1,v,h2,h3⟩:=h;exact⟨h1,v,h2,z.rv _ _ h3⟩
 | own d=>obtain⟨v,h1,h2⟩:=h;exact⟨v,h1,h2.same e⟩
 | inn v d=>exact⟨h.1,h.2.same e⟩
theorem Rel.same(h:Rel K B env σ H)(s:aG H H'):Rel K B env σ H':=by
 obtain⟨A,a,b⟩:=h
 have g:aG (out H A) (out H' A):=gR s λa q=>.inl q
 exact⟨A,a.mono λe C z _ q=>q.same s g,b.trans g⟩
theorem uV(h:cV (dR K H (out H A)) env A σ):Zn K A (out H A) H:=⟨gO H A,Pu λa q=>(cH h a q).2,λa q=>⟨by
 unfold out;rw[if_pos q],λz=>by obtain⟨⟨o,e⟩,_⟩:=cH h a q;rw[z]at e;cases e⟩⟩
theorem Rel.r(h:Rel K B env σ H):nJ K H (rE env) σ:=λi d q=>by
 obtain⟨A,a,b⟩:=h
 unfold rE at q
 rw[C3]at q
 cases e:env[i]? with
 | none=>rw[e]at q;cases q
 | some s=>
  rw[e]at q
  obtain⟨y,A1,C,h1,h2,h3,h4,_⟩:=a.focus e
  cases s with
  | no=>cases q
  | fro d0=>cases q;obtain⟨_,v,rfl,h5⟩:=h4;exact⟨v,h1,(gO H A).rv _ _ h5⟩
  | own d0=>cases q;obtain⟨v,rfl,h5⟩:=h4;exact⟨v,h1,Ow.rv _ _ _ h5⟩
  | inn v d0=>cases q;obtain⟨rfl,h5⟩:=h4;exact⟨v,h1,Ow.rv _ _ _ h5⟩
theorem RB(a:cV (dR K H (out H A)) env A σ):nJ K (out H A) (zE env) σ:=λi d q=>by
 unfold zE at q
 rw[C3]at q
 cases e:env[i]? with
 | none=>rw[e]at q;cases q
 | some s=>
  rw[e]at q
  obtain⟨y,A1,C,h1,h2,h3,h4,_⟩:=a.focus e
  cases s with
  | no=>cases q
  | fro d0=>cases q;obtain⟨_,v,rfl,h5⟩:=h4;exact⟨v,h1,h5⟩
  | own d0=>
   obtain⟨v,rfl,h5⟩:=h4
   have q:(if d0.dZ=true then some d0 else none)=some d:=E4 q
   split at q
   ·rename_i im
    cases q
    exact⟨v,h1,(uH _ v im (Ow.rv _ _ _ h5)).out (λ_ z=>z.elim) λx hx=>(cH a x hx).2⟩
   ·cases q
  | inn v d0=>
   obtain⟨rfl,h5⟩:=h4
   have q:(if d0.dZ=true then some d0 else none)=some d:=E4 q
   split at q
   ·rename_i im
    cases q
    exact⟨v,h1,(uH _ v im (Ow.rv _ _ _ h5)).out (λ_ z=>z.elim) λx hx=>(cH a x hx).2⟩
   ·cases q
theorem Rel.own{i:Nat}{d:D}{v:V}(h:Rel K B env σ H)(hi:i<env.length)(s:aG H H')(n:xH K H H' d v):Rel K B (env.set i (.own d)) (σ.set i (some v)) H':=by
 obtain⟨A,a,b⟩:=h
 obtain⟨N,o,f⟩:=n
 have cl:=cH a
 obtain⟨y,A1,C,h1,h2,h3,h4,k⟩:=a.focus (B5 hi)
 have g:aG (out H A) (out H' (dD N C)):=gR s λx q=>q.elim (λq=>.inr (f x q)) λq=>.inl ((h3 x).mpr (.inr q))
 refine⟨dD N C,k (dR K H' (out H' (dD N C))) (λe D z _ q=>q.same s g) (.own d) (some v) N (λx q c=>?_) ⟨v,rfl,o⟩,b.trans g⟩
 obtain⟨⟨u,e⟩,_⟩:=cl x ((h3 x).mpr (.inr c))
 rw[f x q]at e;cases e
theorem tE{i:Nat}{d:D}{v:V}(a:cV (dR K H (out H A)) env A σ)(b:aG B (out H A))(hi:i<env.length)(s:aG H H')(t:aG (out H A) Z')(z:Zn K A Z' H')(r:Rv K Z' d v):Rel K B (env.set i (.fro d)) (σ.set i (some v)) H':=by
 obtain⟨y,A1,C,h1,h2,h3,h4,k⟩:=a.focus (B5 hi)
 have hC:∀x,dD nil C x→A x:=λx q=>q.elim False.elim λq=>(h3 x).mpr (.inr q)
 have g:aG (out H A) (out H' (dD nil C)):=gR s λx q=>.inl (hC x q)
 have g2:aG Z' (out H' (dD nil C)):=λx o e=>aU.mpr ⟨λq=>(by rw[(z.no x (hC x q)).1]at e;cases e),z.sm x o e⟩
 exact⟨dD nil C,k (dR K H' (out H' (dD nil C))) (λe D z _ q=>q.same s g) (.fro d) (some v) nil (λx q c=>q) ⟨λ_ z=>z,v,rfl,g2.rv _ _ r⟩,b.trans g⟩
def Qn(env:EN)(j:Nat):EN:=match env[j]? with
 | some (.own d)=>env.set j (.fro d)
 | _=>env
def iC(js:List Nat)(env:EN):EN:=js.foldl Qn env
theorem set_same{α:Type}{l:List α}{i:Nat}{x:α}(h:l[i]?=some x):l.set i x=l:=by
 apply K3
 intro j
 rw[P1]
 by_cases c:i=j
 ·subst c
  rw[if_pos rfl,h]
  split
  ·rfl
  ·rename_i q;rw[D8 (by omega)]at h;cases h
 ·rw[if_neg c]
theorem Rel.Qn{j:Nat}(h:Rel K B env σ H):Rel K B (Qn env j) σ H:=by
 unfold L2.Qn
 cases e:env[j]? with
 | none=>exact h
 | some s=>
  cases s with
  | no=>exact h
  | fro d=>exact h
  | inn v d=>exact h
  | own d=>
   obtain⟨A,a,b⟩:=h
   have cl:=cH a
   obtain⟨y,A1,C,h1,h2,h3,h4,k⟩:=a.focus e
   obtain⟨v,rfl,o⟩:=h4
   have g:aG (out H A) (out H (dD nil C)):=gR (aG.refl _) λx q=>q.elim False.elim λq=>.inl ((h3 x).mpr (.inr q))
   have:=k (dR K H (out H (dD nil C))) (λe D z _ q=>q.same (aG.refl _) g) (.fro d) (some v) nil (λx q c=>q)
    ⟨λ_ z=>z,v,rfl,o.out (λx q c=>h2 x q (c.elim False.elim id)) λx q=>(cl x ((h3 x).mpr (.inr (q.elim False.elim id)))).2⟩
   rw[set_same h1]at this
   exact⟨dD nil C,this,b.trans g⟩
theorem Rel.iC{js:List Nat}(h:Rel K B env σ H):Rel K B (iC js env) σ H:=by
 unfold L2.iC
 induction js generalizing env with
 | nil=>exact h
 | cons j js ih=>exact ih h.Qn
end
inductive SR where
  | next (env:EN) | ret (d:D) | brk (env:EN) | cont (env:EN) | bad | rete (d:D) (env:EN)
def sU(K:aA)(B:Hp)(E:Ends):SR→Prop
 | .next env=>∀σ H,Rel K B env σ H→E.nx σ H
 | .ret d=>∀v H A,aG B (out H A)→Ow K H d A v→E.rt v H
 | .brk env=>∀σ H,Rel K B env σ H→E.bk σ H
 | .cont env=>∀σ H,Rel K B env σ H→E.ct σ H
 | .bad=>False
 | .rete d env=>∀v σ H,Rel K B (env++[.own d]) (σ++[some v]) H→E.rt v H
theorem sU.mono{K:aA}{B B':Hp}{E:Ends}{r:SR}(h:sU K B E r)(s:aG B B'):sU K B' E r:=by
 cases r with
 | next env=>exact λσ H q=>h σ H (q.mono s)
 | ret d=>exact λv H A q=>h v H A (s.trans q)
 | brk env=>exact λσ H q=>h σ H (q.mono s)
 | cont env=>exact λσ H q=>h σ H (q.mono s)
 | bad=>exact h
 | rete d env=>exact λv σ H q=>h v σ H (q.mono s)
abbrev GS:=EN→SR
def DS(K:aA)(t:TS)(g:GS):Prop:=∀(B:Hp)(E:Ends)(σ:St)(H:Hp)(env:EN),Rel K B env σ H→sU K B E (g env)→t E σ H
def RC(K:aA)(B:Hp)(E:Ends)(σ:St):SR→Prop
 | .next env=>∀H,Rel K B env σ H→E.nx σ H
 | r=>sU K B E r
def MN(K:aA)(t:TS)(g:GS):Prop:=∀(B:Hp)(E:Ends)(σ:St)(H:Hp)(env:EN),Rel K B env σ H→RC K B E σ (g env)→t E σ H
theorem MN.ds{K:aA}{t:TS}{g:GS}(h:MN K t g):DS K t g:=λB E σ H env r p=>h B E σ H env r (by
 cases q:g env with
 | next e=>rw[q]at p;exact λH' r'=>p σ H' r'
 | ret d=>rw[q]at p;exact p
 | brk e=>rw[q]at p;exact p
 | cont e=>rw[q]at p;exact p
 | bad=>rw[q]at p;exact p
 | rete d e=>rw[q]at p;exact p)
structure YS(K:aA)(X:Cx)(st:Stmt)(t:TS)(g:GS):Prop where
 ps:PS X st t
 ev:DS K t g
structure YB(K:aA)(X:Cx)(st:List Stmt)(t:TS)(g:GS):Prop where
 ps:Dw X st t
 ev:DS K t g
section
variable{K:aA}{X:Cx}{st:Stmt}{sts:List Stmt}{t u:TS}{g g1 g2:GS}{e a b c:Expr}{te ta tb:TE}{f fa fb:FE}{tc:TT}{fc:FT}{pos:Pos}
def aY(g1 g2:GS):GS:=λenv=>match g1 env with
 | .next env'=>g2 env'
 | r=>r
theorem HN(h1:DS K t g1)(h2:DS K u g2):DS K (Nx t u) (aY g1 g2):=λB E σ H env r p=>by
 unfold aY at p
 refine h1 B {E with nx:=u E} σ H env r ?_
 cases q:g1 env with
 | next env'=>rw[q]at p;exact λσ' H' r'=>h2 B E σ' H' env' r' p
 | ret d=>rw[q]at p;exact p
 | brk d=>rw[q]at p;exact p
 | cont d=>rw[q]at p;exact p
 | bad=>rw[q]at p;exact p
 | rete d e=>rw[q]at p;exact p
def dU:GS:=λenv=>.next env
theorem eV:YB K X [] Yh dU:=⟨Ve,λB E σ H env r p=>p σ H r⟩
theorem bA(h:YS K X st t g):YB K X [st] t g:=⟨yQ h.ps,h.ev⟩
theorem aM(h:YS K X st t g1)(h2:YB K X sts u g2):YB K X (st::sts) (Nx t u) (aY g1 g2):=⟨Bb h.ps h2.ps,HN h.ev h2.ev⟩
def cI(i:Nat)(f:FE):GS:=λenv=>match f (rE env)with
 | some d=>if i<env.length then .next (env.set i (.own d))else .bad
 | none=>.bad
theorem Qo{i:Nat}(h:Dz K te f):DS K (nH te (bU i)) (cI i f):=λB E σ H env r p=>by
 unfold cI at p
 split at p
 ·rename_i d q
  split at p
  ·rename_i hi
   exact h σ H (rE env) d _ r.r q λv H' s n=>p _ _ (r.own hi s n)
  ·exact p.elim
 ·exact p.elim
theorem bK{i:Nat}{x:Str}{pos':Pos}(h:XN K X e te f)(hp:PE X e te→PS X (.Assign [.Name x pos'] e pos) (nH te (bU i))):YS K X (.Assign [.Name x pos'] e pos) (nH te (bU i)) (cI i f):=⟨hp h.pe,Qo h.ev⟩
def fU(f:FE):GS:=λenv=>match f (rE env)with
 | some d=>.ret d
 | none=>.bad
theorem cF(h:XN K X e te f):YS K X (.Return (some e) pos) (BJ te) (fU f):=⟨Ny h.pe,λB E σ H env r p=>by
 unfold fU at p
 split at p
 ·rename_i d q
  refine h.ev σ H (rE env) d _ r.r q λv H' s ⟨N,o,fr⟩=>p v H' N (λx u ex=>?_) o
  obtain⟨A,a,b⟩:=r
  have h1:=(aU.mp (b x u ex)).2
  exact aU.mpr ⟨λz=>(by rw[fr x z]at h1;cases h1),s x u h1⟩
 ·exact p.elim⟩
def pN(i:Nat):GS:=λenv=>match env[i]? with
 | some (.own d)=>.ret d
 | some (.fro d)=>if d.dZ=true then .ret d else .bad
 | _=>.bad
theorem tG{i:Nat}(h:PE X e (cB i)):YS K X (.Return (some e) pos) (BJ (cB i)) (pN i):=⟨Ny h,λB E σ H env r p=>by
 unfold pN at p
 obtain⟨A,a,b⟩:=r
 split at p
 ·rename_i d q
  obtain⟨y,A1,C,h1,h2,h3,h4,_⟩:=a.focus q
  obtain⟨v,rfl,o⟩:=h4
  exact⟨v,h1,p v H A1 (b.trans (gR (aG.refl _) λx z=>.inl ((h3 x).mpr (.inl z)))) o⟩
 ·rename_i d q
  split at p
  ·rename_i im
   obtain⟨y,A1,C,h1,h2,h3,h4,_⟩:=a.focus q
   obtain⟨_,v,rfl,rv⟩:=h4
   exact⟨v,h1,p v H nil (b.trans (gR (aG.refl _) λx z=>z.elim)) (uH d v im ((gO H A).rv _ _ rv))⟩
  ·exact p.elim
 ·exact p.elim⟩
def qK(f:FT)(g1 g2:GS):GS:=λenv=>match f (rE env)with
 | some true=>g1 env
 | some false=>g2 env
 | none=>.bad
theorem jE{s1 s2:List Stmt}(hc:XT K X c tc fc)(h1:YB K X s1 t g1)(h2:YB K X s2 u g2):YS K X (.If c s1 s2 pos) (NQ tc t u) (qK fc g1 g2):=⟨NT hc.pt h1.ps h2.ps,λB E σ H env r p=>by
 unfold qK at p
 split at p
 ·rename_i q
  refine hc.ev σ H (rE env) true _ r.r q λH' s=>?_
  rw[if_pos rfl]
  exact h1.ev B E σ H' env (r.same s) p
 ·rename_i q
  refine hc.ev σ H (rE env) false _ r.r q λH' s=>?_
  rw[if_neg (by decide)]
  exact h2.ev B E σ H' env (r.same s) p
 ·exact p.elim⟩
def qY(i:Nat)(g:GS):List D→EN→SR
 | [],env=>.next env
 | x::xs,env=>if i<env.length then match g (env.set i (.fro x))with
   | .next env'=>qY i g xs env'
   | .cont env'=>qY i g xs env'
   | .brk env'=>.next env'
   | r=>r
  else .bad
def sV(js:List Nat)(i:Nat)(fi:FA)(g:GS):GS:=λenv=>match fi (zE (iC js env))with
 | some xs=>qY i g xs (iC js env)
 | none=>.bad
theorem HQ{js:List Nat}{i:Nat}{wi:TI}{fi:FA}{tb:TS}(hi:YQ K wi fi)(h:DS K tb g):DS K (Ed wi (bU i) tb) (sV js i fi g):=λB E σ H env r p=>by
 unfold sV at p
 have r':Rel K B (iC js env) σ H:=r.iC
 generalize iC js env=lN at r' p
 split at p
 ·rename_i xs q
  obtain⟨A,a,b⟩:=r'
  refine hi σ H (out H A) (zE lN) xs _ (uV a) (RB a) q λJ H1 Z1 P vs s t z hJ hP rvs=>?_
  have hl:=rvs.length
  have g0:aG Z1 (out H1 A):=λx o e=>aU.mpr ⟨λqa=>(by rw[(z.no x qa).1]at e;cases e),z.sm x o e⟩
  have HR:Rel K Z1 lN σ H1:=⟨A,a.mono λe D y _ qq=>qq.same s (gR s λx q=>.inl q),g0⟩
  have bz:aG B Z1:=b.trans t
  have p':=p.mono bz
  refine zF hJ (λk σ2 H2=>∃fM,Rel K Z1 fM σ2 H2∧sU K Z1 E (qY i g (xs.drop k) fM)) ⟨lN,HR,by simpa using p'⟩ (λk σ2 H2 _ ⟨fM,⟨A2,a2,b2⟩,_⟩=>hP H2 (b2.trans (gO H2 A2))) ?_ ?_
  ·rintro k x σ2 H2 hx ⟨fM,r2,p2⟩
   have hk:k<xs.length:=by
    have:=B9.mp hx
    obtain⟨h1,_⟩:=this
    omega
   rw[J3 hk]at p2
   unfold qY at p2
   obtain⟨x',hx',rx⟩:=rvs.get (B5 hk)
   rw[hx]at hx'
   cases hx'
   split at p2
   ·rename_i hlen
    obtain⟨A2,a2,b2⟩:=r2
    have r3:Rel K Z1 (fM.set i (.fro xs[k])) (σ2.set i (some x)) H2:=tE a2 b2 hlen (aG.refl _) (aG.refl _) (uV a2) (b2.rv _ _ rx)
    refine h Z1 _ _ H2 _ r3 ?_
    split at p2
    ·rename_i env' q2;rw[q2];exact λσ' H' r'=>⟨env',r',p2⟩
    ·rename_i env' q2;rw[q2];exact λσ' H' r'=>⟨env',r',p2⟩
    ·rename_i env' q2;rw[q2];exact p2
    ·rename_i n1 n2 n3
     cases q2:g (fM.set i (.fro xs[k]))with
     | next e=>exact absurd q2 (n1 e)
     | cont e=>exact absurd q2 (n2 e)
     | brk e=>exact absurd q2 (n3 e)
     | ret d=>rw[q2]at p2;exact p2
     | bad=>rw[q2]at p2;exact p2
     | rete d e=>rw[q2]at p2;exact p2
   ·exact p2.elim
  ·rintro σ2 H2 ⟨fM,r2,p2⟩
   rw[hl,P8]at p2
   exact p2 σ2 H2 r2
 ·exact p.elim
theorem uW{tg iter:Expr}{body:List Stmt}{wi:TI}{fi:FA}{tb:TS}{i:Nat}(js:List Nat)(hp:PassesOwn (model X.prog X.w) X.A X.env X.xe)(Qp:X.calm=true)(hi:XI K X tg iter wi fi)(hg:PG X tg (bU i))(hb:YB K X body tb g)
  (hs:∀x,foldedSetIterable iter X.env x=pure x:=by intro _;rfl):YS K X (.For tg iter body [] pos) (Ed wi (bU i) tb) (sV js i fi g):=⟨Ef hp Qp hi.pi hg hb.ps hs,HQ hi.ev hb.ev⟩
end
end L2


namespace L2
open PySem PySem.Spec PyProof.Rows
inductive Step where
  | ix (k:Nat) | key (k:Key) | fld (C:Addr) (f:Str)
def kids:D→List D
 | .lst ds=>ds
 | .dk _ ds=>ds
 | .ins _ _ ds=>ds
 | _=>[]
def pO:D→List D→D
 | .lst _,ds=>.lst ds
 | .dk ks _,ds=>.dk ks ds
 | .ins C nm _,ds=>.ins C nm ds
 | d,_=>d
def sW:Step→D→Option Nat
 | .ix k,.lst ds=>some k
 | .key k,.dk ks _=>posK ks k
 | .fld C f,.ins C' nm _=>if C'=C then posK nm f else none
 | _,_=>none
def nP:List Step→D→Option D
 | [],d=>some d
 | s::p,d=>(sW s d).bind λj=>((kids d)[j]?).bind (nP p)
def jF:List Step→D→D→D
 | [],_,d'=>d'
 | s::p,d,d'=>match sW s d with
  | some j=>(match (kids d)[j]? with
   | some c=>pO d ((kids d).set j (jF p c d'))
   | none=>d)
  | none=>d
def stepV(H:Hp)(s:Step)(v:V):Option V:=match v with
 | .ref a=>(match s,H a with
  | .ix k,some (.lst xs)=>xs[k]?
  | .key k,some (.dK kvs)=>iQ kvs k
  | .fld C f,some (.ins C' _ fs)=>if C'=C then fs.lookup f else none
  | _,_=>none)
 | _=>none
def Av(H:Hp):List Step→V→Option V
 | [],v=>some v
 | s::p,v=>(stepV H s v).bind (Av H p)
theorem Ew{H H':Hp}(e:aG H H'){s:Step}{v w:V}(h:stepV H s v=some w):stepV H' s v=some w:=by
 cases v with
 | ref a=>
  unfold stepV at h ⊢
  dsimp only at h ⊢
  cases q:H a with
  | none=>rw[q]at h;cases s<;>cases h
  | some o=>rw[e a o q];rw[q]at h;exact h
 | _=>unfold stepV at h;cases h
theorem Cd{H H':Hp}(e:aG H H'):∀{p:List Step} {v w:V},Av H p v=some w→Av H' p v=some w
 | [],v,w,h=>h
 | s::p,v,w,h=>by
  unfold Av at h ⊢
  obtain⟨u,h1,h2⟩:=aW h
  rw[Ew e h1]
  exact Cd e h2
theorem Ey{nm:List Str}{xs:List V}{f:Str}(h:nm.length=xs.length):(nm.zip xs).lookup f=(posK nm f).bind λj=>xs[j]?:=by
 induction nm generalizing xs with
 | nil=>unfold posK;rfl
 | cons a nm ih=>
  cases xs with
  | nil=>simp at h
  | cons x xs=>
   have ih:=ih (xs:=xs) (by simpa using h)
   unfold posK
   rw[N0,J9]
   by_cases c:a=f
   ·subst c;simp
   ·have c2:(f==a)=false:=by
     rw[beq_eq_false_iff_ne];exact λz=>c z.symm
    rw[c2,if_neg c,ih]
    cases posK nm f<;>rfl
theorem Ow.kids{K:aA}{H:Hp}{d:D}{A:Fp}{v:V}{s:Step}{j:Nat}(h:Ow K H d A v)(q:sW s d=some j):∃xs T Bt,(∀x,xs[j]?=some x→stepV H s v=some x)∧bY K H (kids d) Bt xs∧Is A (dD T Bt)∧Apart T Bt ∧
  ∀H' ds' B',ds'.length=(kids d).length→bY K H' ds' B' xs→(∀a,T a→H' a=H a)→Apart T B'→Ow K H' (pO d ds') (dD T B') v:=by
 cases d with
 | lst ds=>
  unfold Ow at h
  obtain⟨a,xs,B,rfl,h2,h3,h4,h5⟩:=h
  cases s with
  | ix k=>
   unfold sW at q
   cases q
   refine⟨xs,(·=a),B,λx hx=>?_,h5,h4,λx qx qb=>h3 (qx▸qb),λH' ds' B' hl o f ap=>?_⟩
   ·unfold stepV;dsimp only;rw[h2];exact hx
   ·show Ow K H' (.lst ds') _ _
    unfold Ow
    exact⟨a,xs,B',rfl,(f a rfl).trans h2,ap a rfl,λ_=>Iff.rfl,o⟩
  | _=>unfold sW at q;cases q
 | dk ks ds=>
  unfold Ow at h
  obtain⟨a,xs,B,rfl,h2,h2',h3,h4,h5⟩:=h
  cases s with
  | key k=>
   have q:posK ks k=some j:=q
   refine⟨xs,(·=a),B,λx hx=>?_,h5,h4,λx qx qb=>h3 (qx▸qb),λH' ds' B' hl o f ap=>?_⟩
   ·unfold stepV;dsimp only;rw[h2];show iQ (ks.zip xs) k=_;rw[pJ h2',q];exact hx
   ·show Ow K H' (.dk ks ds') _ _
    unfold Ow
    exact⟨a,xs,B',rfl,(f a rfl).trans h2,h2',ap a rfl,λ_=>Iff.rfl,o⟩
  | _=>unfold sW at q;cases q
 | ins C nm ds=>
  unfold Ow at h
  obtain⟨a,dx,xs,B,rfl,h2,h2',h3,h3',h3'',h4,h5⟩:=h
  cases s with
  | fld C0 k=>
   have q:(if C=C0 then posK nm k else none)=some j:=q
   by_cases hc:C=C0
   rotate_left
   ·rw[if_neg hc]at q;cases q
   rw[if_pos hc]at q
   refine⟨xs,(λx=>x=a∨x=dx),B,λx hx=>?_,h5,h4,λx qx qb=>qx.elim (λz=>h3' (z▸qb)) λz=>h3'' (z▸qb),λH' ds' B' hl o f ap=>?_⟩
   ·unfold stepV;dsimp only;rw[h2];show (if C=C0 then(nm.zip xs).lookup k else none)=_;rw[if_pos hc,Ey h3,q];exact hx
   ·show Ow K H' (.ins C nm ds') _ _
    unfold Ow
    exact⟨a,dx,xs,B',rfl,(f a (.inl rfl)).trans h2,(f dx (.inr rfl)).trans h2',h3,ap a (.inl rfl),ap dx (.inr rfl),λ_=>Iff.rfl,o⟩
  | _=>unfold sW at q;cases q
 | _=>cases s<;>(unfold sW at q;cases q)
theorem Ow.at{K:aA}{H:Hp}:∀{p:List Step} {d d1:D} {A:Fp} {v:V},Ow K H d A v→nP p d=some d1→∃w A1 C,Av H p v=some w∧Apart A1 C∧Is A (dD A1 C)∧Ow K H d1 A1 w ∧
    ∀H' d' A',Apart A' C→(∀a,C a→H' a=H a)→qQ K H H'→Ow K H' d' A' w→Ow K H' (jF p d d') (dD A' C) v
  | [],d,d1,A,v,h,q=>by
    unfold nP at q
    cases q
    exact⟨v,A,nil,rfl,λ_ _ z=>z,λx=>⟨.inl,λz=>z.elim id False.elim⟩,h,λH' d' A' _ _ _ o=>o.congr λx=>⟨.inl,λz=>z.elim id False.elim⟩⟩
  | s::p,d,d1,A,v,h,q=>by
    unfold nP at q
    obtain⟨j,q1,q2⟩:=aW q
    obtain⟨c,q3,q4⟩:=aW q2
    obtain⟨xs,T,Bt,k1,k2,k3,k4,k5⟩:=h.kids q1
    obtain⟨y,B1,C1,f1,f2,f3,f4,f5⟩:=(cL.mp k2).focus q3
    obtain⟨w,A1,C2,g1,g2,g3,g4,g5⟩:=Ow.at f4 q4
    refine⟨w,A1,dD T (dD C1 C2),?_,?_,?_,g4,λH' d' A' ap fr tk o=>?_⟩
    · unfold Av
      rw[k1 y f1]
      exact g1
    · intro x qx qc
      have b1:B1 x:=(g3 x).mpr (.inl qx)
      rcases qc with qc | qc | qc
      · exact k4 x qc ((f3 x).mpr (.inl b1))
      · exact f2 x b1 qc
      · exact g2 x qx qc
    · intro x
      rw[k3 x]
      constructor
      · rintro(z | z)
        · exact .inr (.inl z)
        · rcases(f3 x).mp z with z | z
          · rcases(g3 x).mp z with z | z
            · exact .inl z
            · exact .inr (.inr (.inr z))
          · exact .inr (.inr (.inl z))
      · rintro(z | z | z | z)
        · exact .inr ((f3 x).mpr (.inl ((g3 x).mpr (.inl z))))
        · exact .inl z
        · exact .inr ((f3 x).mpr (.inr z))
        · exact .inr ((f3 x).mpr (.inl ((g3 x).mpr (.inr z))))
    · have o1:Ow K H' (jF p c d') (dD A' C2) y:=g5 H' d' A' (λx a b=>ap x a (.inr (.inr b))) (λa z=>fr a (.inr (.inr z))) tk o
      have jg:Apart (dD A' C2) C1:=λx a b=>a.elim (λz=>ap x z (.inr (.inl b))) λz=>f2 x ((g3 x).mpr (.inr z)) b
      have o2:=f5 (Ow K H') (λe B z hb qq=>Ow.frame tk e B z qq λa za=>fr a (.inr (.inl (hb a za)))) (jF p c d') y (dD A' C2) jg o1
      rw[set_same f1]at o2
      have o3:=k5 H' ((L2.kids d).set j (jF p c d')) _ (by rw[M7]) (cL.mpr o2) (λa z=>fr a (.inl z)) (λx a b=>by
        rcases b with (b | b) | b
        · exact ap x b (.inl a)
        · exact k4 x a ((f3 x).mpr (.inl ((g3 x).mpr (.inr b))))
        · exact k4 x a ((f3 x).mpr (.inr b)))
      have e:jF (s::p) d d'=pO d ((L2.kids d).set j (jF p c d')):=by
        show (match sW s d with | some j=>_ | none=>_)=_
        rw[q1]
        show (match (L2.kids d)[j]? with | some c=>_ | none=>_)=_
        rw[q3]
      rw[e]
      refine o3.congr λx=>?_
      show (T x∨(A' x∨C2 x)∨C1 x)↔(A' x∨T x∨C1 x∨C2 x)
      constructor
      · rintro(z | (z | z) | z)
        · exact .inr (.inl z)
        · exact .inl z
        · exact .inr (.inr (.inr z))
        · exact .inr (.inr (.inl z))
      · rintro(z | z | z | z)
        · exact .inr (.inl (.inl z))
        · exact .inl z
        · exact .inr (.inr z)
        · exact .inr (.inl (.inr z))
section
variable{K:aA}{B H:Hp}{env:EN}{σ:St}
theorem Rel.at{i:Nat}{p:List Step}{d0 d:D}(h:Rel K B env σ H)(e:env[i]?=some (.own d0))(q:nP p d0=some d):∃v0 w A1 C,σ[i]?=some (some v0)∧Av H p v0=some w∧Ow K H d A1 w∧Apart A1 C∧(∀a,C a→lE H a) ∧
    ∀H' d' A',Apart A' C→(∀a,C a→H' a=H a)→qQ K H H'→Ow K H' d' A' w→aG (out H (dD A1 C)) (out H' (dD A' C))→Rel K B (env.set i (.own (jF p d0 d'))) σ H':=by
  obtain⟨A,a,b⟩:=h
  have cl:=cH a
  obtain⟨y,A1,C,h1,h2,h3,h4,k⟩:=a.focus e
  obtain⟨v0,rfl,o⟩:=h4
  obtain⟨w,B1,C1,g1,g2,g3,g4,g5⟩:=o.at q
  refine⟨v0,w,B1,dD C1 C,h1,g1,g4,λx z1 z2=>?_,λx z=>?_,λH' d' A' ap fr tk o' sm=>?_⟩
  · exact z2.elim (g2 x z1) (h2 x ((g3 x).mpr (.inl z1)))
  · exact cl x ((h3 x).mpr (z.elim (λz=>.inl ((g3 x).mpr (.inr z))) .inr))
  · have o2:=g5 H' d' A' (λx z1 z2=>ap x z1 (.inl z2)) (λx z=>fr x (.inl z)) tk o'
    have jh:Apart (dD A' C1) C:=λx z1 z2=>z1.elim (λz=>ap x z (.inr z2)) λz=>h2 x ((g3 x).mpr (.inr z)) z2
    have hA:Is A (dD B1 (dD C1 C)):=λx=>by
      rw[h3 x]
      constructor
      · rintro(z | z)
        · exact((g3 x).mp z).elim .inl λz=>.inr (.inl z)
        · exact .inr (.inr z)
      · rintro(z | z | z)
        · exact .inl ((g3 x).mpr (.inl z))
        · exact .inl ((g3 x).mpr (.inr z))
        · exact .inr z
    have g:aG (out H A) (out H' (dD (dD A' C1) C)):=λx u ex=>by
      obtain⟨e1,e2⟩:=aU.mp ex
      have:=sm x u (aU.mpr ⟨λz=>e1 ((hA x).mpr z),e2⟩)
      obtain⟨e3,e4⟩:=aU.mp this
      exact aU.mpr ⟨λz=>e3 (z.elim (λz=>z.elim .inl λz=>.inr (.inl z)) λz=>.inr (.inr z)),e4⟩
    have s:=k (dR K H' (out H' (dD (dD A' C1) C))) (λs D z hb qq=>by
      cases s with
      | no=>exact qq
      | fro d=>obtain⟨q1,v,q2,q3⟩:=qq;exact⟨q1,v,q2,g.rv _ _ q3⟩
      | inn v d=>exact⟨qq.1,Ow.frame tk _ _ _ qq.2 λx zx=>fr x (.inr (hb x zx))⟩
      | own d=>obtain⟨v,q1,q2⟩:=qq;exact⟨v,q1,Ow.frame tk _ _ _ q2 λx zx=>fr x (.inr (hb x zx))⟩) (.own (jF p d0 d')) (some v0) (dD A' C1) jh ⟨v0,rfl,o2⟩
    rw[set_same h1]at s
    exact⟨_,s,b.trans g⟩
theorem Rel.HS{i:Nat}{p:List Step}{d0:D}{ds:List D}(h:Rel K B env σ H)(e:env[i]?=some (.own d0))(q:nP p d0=some (.lst ds)):∃v0 a xs Bs,σ[i]?=some (some v0)∧Av H p v0=some (.ref a)∧H a=some (.lst xs)∧¬Bs a∧bY K H ds Bs xs ∧
    ∀H2 ds' xs' Bn,aG H H2→bY K H2 ds' Bn xs'→(∀b,Bn b→Bs b∨H b=none)→Rel K B (env.set i (.own (jF p d0 (.lst ds')))) σ (upd H2 a (.lst xs')):=by
  obtain⟨v0,w,A1,C,h1,h2,h3,h4,h5,h6⟩:=h.at e q
  unfold Ow at h3
  obtain⟨a,xs,Bs,rfl,o2,o3,o4,o5⟩:=h3
  refine⟨v0,a,xs,Bs,h1,h2,o2,o3,o5,λH2 ds' xs' Bn s o hb=>?_⟩
  have RD:¬Bn a:=λz=>(hb a z).elim o3 λz=>by rw[o2]at z;cases z
  have hC:∀x,C x→¬x=a:=λx z y=>h4 x ((o4 x).mpr (.inl y)) z
  have Ez:H2 a=some (.lst xs):=s a _ o2
  refine h6 _ (.lst ds') (dD (·=a) Bn) (λx z1 z2=>?_) (λx z=>?_) (s.tk.trans (qX (mK Ez))) ?_ (λx u ex=>?_)
  · rcases z1 with z1 | z1
    · exact hC x z2 z1
    · rcases hb x z1 with z | z
      · exact h4 x ((o4 x).mpr (.inr z)) z2
      · obtain⟨⟨u,eu⟩,_⟩:=h5 x z2
        rw[z]at eu;cases eu
  · obtain⟨⟨u,eu⟩,_⟩:=h5 x z
    rw[aP (hC x z),eu,s x u eu]
  · unfold Ow
    refine⟨a,xs',Bn,rfl,bB,RD,λ_=>Iff.rfl,bY.frame (qX (mK Ez)) _ _ _ o λx zx=>aP λy=>RD (y▸zx)⟩
  · obtain⟨e1,e2⟩:=aU.mp ex
    have na:x≠a:=λy=>e1 (.inl ((o4 x).mpr (.inl y)))
    refine aU.mpr ⟨λz=>?_,by rw[aP na];exact s x u e2⟩
    rcases z with (z | z) | z
    · exact na z
    · rcases hb x z with z | z
      · exact e1 (.inl ((o4 x).mpr (.inr z)))
      · rw[z]at e2;cases e2
    · exact e1 (.inr z)
end
end L2


namespace L2
open PySem PySem.Spec PyProof.Rows
abbrev FP:=DE→Option (List Step)
def VP(K:aA)(t:TE)(i:Nat)(π:FP):Prop:=∀(σ:St)(H:Hp)(e:DE)(v0:V)(p:List Step)(v:V)(Q:VK),nJ K H e σ→σ[i]?=some (some v0)→π e=some p→Av H p v0=some v→(∀H',aG H H'→Q v H')→t σ H Q
structure XP(K:aA)(X:Cx)(e:Expr)(t:TE)(i:Nat)(π:FP):Prop where
 hk:X.K=K
 pe:PE X e t
 ev:VP K t i π
theorem Ce{H:Hp}{s:Step}:∀{p:List Step} {v0 v:V},Av H (p++[s]) v0=some v→∃w,Av H p v0=some w∧stepV H s w=some v
 | [],v0,v,h=>by
  rw[M8]at h
  unfold Av at h
  obtain⟨w,h1,h2⟩:=aW h
  unfold Av at h2
  cases h2
  exact⟨v0,rfl,h1⟩
 | s'::p,v0,v,h=>by
  rw[G2]at h
  unfold Av at h
  obtain⟨u,h1,h2⟩:=aW h
  obtain⟨w,h3,h4⟩:=Ce h2
  refine⟨w,?_,h4⟩
  unfold Av
  rw[h1]
  exact h3
theorem Qq{H:Hp}{k:Nat}{w v:V}(h:stepV H (.ix k) w=some v):∃a xs,w=.ref a∧H a=some (.lst xs)∧xs[k]?=some v:=by
 cases w with
 | ref a=>
  unfold stepV at h
  dsimp only at h
  cases q:H a with
  | none=>rw[q]at h;cases h
  | some o=>
   rw[q]at h
   cases o with
   | lst xs=>exact⟨a,xs,rfl,q,h⟩
   | _=>cases h
 | _=>unfold stepV at h;cases h
def qZ:FP:=λ_=>some []
def Ux(π:FP)(g:FE):FP:=λe=>(π e).bind λp=>(g e).bind λd=>match d with
 | .int k=>if 0≤k then some (p++[.ix k.toNat])else none
 | _=>none
section
variable{K:aA}{X:Cx}{e a b c:Expr}{es:List Expr}{t ta tb te:TE}{f g:FE}{tA:TA}{fs:FA}{pos:Pos}{i j:Nat}{π:FP}{st:Stmt}
theorem Ln(h:PE X e (cB i))(hk:X.K=K:=by rfl):XP K X e (cB i) i qZ:=⟨hk,h,λσ H e v0 p v Q re h1 h2 h3 k=>by
 cases h2
 unfold Av at h3
 cases h3
 exact⟨v0,h1,k H (aG.refl _)⟩⟩
theorem Qt(h:XP K X a ta i π)(hb:XR K X b tb g)(hs:pF b):XP K X (.Subscript a b pos) (wB (Yn K) ta tb) i (Ux π g):=⟨h.hk,Hw (Il h.hk) h.pe hb.pe hs,λσ H e v0 p v Q re h1 h2 h3 k=>by
 unfold Ux at h2
 obtain⟨p0,q1,q2⟩:=aW h2
 obtain⟨d,q3,q4⟩:=aW q2
 split at q4
 ·rename_i n
  split at q4
  ·rename_i hn
   cases q4
   obtain⟨w,w1,w2⟩:=Ce h3
   obtain⟨ad,xs,rfl,w3,w4⟩:=Qq w2
   refine h.ev σ H e v0 p0 _ _ re h1 q1 w1 λH1 s1=>hb.ev σ H1 H1 e _ _ (Zn.self K H1) (re.same s1) q3 λy H2 Z2 s2 t2 z2 ry=>?_
   unfold Rv at ry
   exact .inl ⟨ad,xs,n,v,rfl,ry,iM.of (s2 _ _ (s1 _ _ w3)),YK hn w4,k H2 (s1.trans s2)⟩
  ·cases q4
 ·cases q4⟩
def zX(i:Nat)(π:FP)(f:FE):GS:=λenv=>match env[i]?,π (rE env),f (rE env)with
 | some (.own d0),some p,some d=>(match nP p d0 with
  | some (.lst ds)=>if ds.length<100000 then .next (env.set i (.own (jF p d0 (.lst (ds++[d])))))else .bad
  | _=>.bad)
 | _,_,_=>.bad
theorem Qu{H H1:Hp}{A:Fp}{ds:List D}{xs:List V}{N:Fp}(o:bY K H ds A xs)(fr:∀a,N a→H a=none):Apart A N:=λx q1 q2=>by
 obtain⟨⟨u,eu⟩,_⟩:=bY.cells _ _ _ o x q1
 rw[fr x q2]at eu;cases eu
theorem HW(h:VP K ta i π)(he:Dz K te f):MN K (tO (VF K "list" sY ta (dY te qO))) (zX i π f):=λB E σ H env r p=>by
 unfold zX at p
 split at p
 ·rename_i d0 pp d q1 q2 q3
  split at p
  ·rename_i ds q4
   split at p
   ·rename_i hl
    obtain⟨v0,a,xs,Bs,k1,k2,k3,k4,k5,k6⟩:=r.HS q1 q4
    refine h σ H (rE env) v0 pp _ _ r.r k1 q2 k2 λH1 s1=>⟨.inl ⟨rfl,xs,iM.of (s1 _ _ k3)⟩,?_⟩
    refine he σ H1 (rE env) d _ (r.r.same s1) q3 λy H2 s2 n=>?_
    obtain⟨N,o,fr⟩:=n.back s1
    have s12:=s1.trans s2
    refine⟨a,xs,y,rfl,rfl,s12 _ _ k3,Pz (by rw[(bY.rv _ _ _ k5).length];omega),p _ ?_⟩
    exact k6 H2 (ds++[d]) (xs++[y]) (dD Bs N) s12 (cL.mpr ((cL.mp (k5.same s12)).snoc o (Qu (H1:=H) k5 fr))) λb z=>z.imp id (fr b)
   ·exact p.elim
  ·exact p.elim
 ·exact p.elim
theorem Fb{m:Str}{apos cpos:Pos}(h:XP K X a ta i π)(he:XN K X e te f)(hp:PE X a ta→PE X e te→PS X (.Expr (.Call (.Attribute a m apos) [e] [] cpos) pos) (tO (VF K "list" sY ta (dY te qO)))):YS K X (.Expr (.Call (.Attribute a m apos) [e] [] cpos) pos) (tO (VF K "list" sY ta (dY te qO))) (zX i π f):=⟨hp h.pe he.pe,(HW h.ev he.ev).ds⟩
def rA(i:Nat)(π:FP):GS:=λenv=>match env[i]?,π (rE env)with
 | some (.own d0),some p=>(match nP p d0 with
  | some (.lst ds)=>.next (env.set i (.own (jF p d0 (.lst []))))
  | _=>.bad)
 | _,_=>.bad
theorem Qv(h:VP K ta i π):MN K (tO (Vv K "list" yX ta)) (rA i π):=λB E σ H env r p=>by
 unfold rA at p
 split at p
 ·rename_i d0 pp q1 q2
  split at p
  ·rename_i ds q4
   obtain⟨v0,a,xs,Bs,k1,k2,k3,k4,k5,k6⟩:=r.HS q1 q4
   refine h σ H (rE env) v0 pp _ _ r.r k1 q2 k2 λH1 s1=>⟨.inl ⟨rfl,xs,iM.of (s1 _ _ k3)⟩,a,xs,rfl,rfl,s1 _ _ k3,p _ ?_⟩
   exact k6 H1 [] [] nil s1 (by unfold bY;exact⟨λ_ z=>z,rfl⟩) λb z=>z.elim
  ·exact p.elim
 ·exact p.elim
theorem Qw{m:Str}{apos cpos:Pos}(h:XP K X a ta i π)(hp:PE X a ta→PS X (.Expr (.Call (.Attribute a m apos) [] [] cpos) pos) (tO (Vv K "list" yX ta))):YS K X (.Expr (.Call (.Attribute a m apos) [] [] cpos) pos) (tO (Vv K "list" yX ta)) (rA i π):=⟨hp h.pe,(Qv h.ev).ds⟩
def nW(i:Nat)(π:FP)(g f:FE):GS:=λenv=>match env[i]?,π (rE env),g (rE env),f (rE env)with
 | some (.own d0),some p,some (.int k),some d=>(match nP p d0 with
  | some (.lst ds)=>(match Kw ds.length k with
   | some j=>.next (env.set i (.own (jF p d0 (.lst (ds.set j d)))))
   | none=>.bad)
  | _=>.bad)
 | _,_,_,_=>.bad
theorem HX{n:Nat}{k:Int}{j:Nat}(h:Kw n k=some j):j<n:=by
 unfold Kw at h
 split at h
 ·split at h
  ·cases h;omega
  ·cases h
 ·split at h
  ·cases h;omega
  ·cases h
theorem Iu(h:VP K ta i π)(hx:Dy K tb g)(he:Dz K te f):MN K (nH te (Ea ta tb tX)) (nW i π g f):=λB E σ H env r p=>by
 unfold nW at p
 split at p
 ·rename_i d0 pp k d q1 q2 q3 ji
  split at p
  ·rename_i ds q4
   split at p
   ·rename_i j q5
    obtain⟨v0,a,xs,Bs,k1,k2,k3,k4,k5,k6⟩:=r.HS q1 q4
    refine he σ H (rE env) d _ r.r ji λy H1 s1 n=>?_
    refine h σ H1 (rE env) v0 pp _ _ (r.r.same s1) k1 q2 (Cd s1 k2) λH2 s2=>hx σ H2 H2 (rE env) _ _ (Zn.self K H2) (r.r.same (s1.trans s2)) q3 λy' H3 Z3 s3 t3 z3 ry=>?_
    unfold Rv at ry
    have Uw:=s1.trans (s2.trans s3)
    obtain⟨N,o,fr⟩:=n.same (s2.trans s3)
    have hlen:=(bY.rv _ _ _ k5).length
    refine⟨a,xs,k,j,rfl,ry,Uw _ _ k3,by rw[hlen];exact q5,p _ ?_⟩
    obtain⟨y0,A1,C,f1,f2,f3,f4,f5⟩:=(cL.mp (k5.same Uw)).focus (B5 (HX q5))
    have ap:Apart N C:=λx q1 q2=>Qu (H1:=H) k5 fr x ((f3 x).mpr (.inr q2)) q1
    exact k6 H3 (ds.set j d) (xs.set j y) (dD N C) Uw (cL.mpr (f5 (Ow K H3) (λ_ _ _ _ qq=>qq) d y N ap o)) λb z=>z.elim (λz=>.inr (fr b z)) λz=>.inl ((f3 b).mpr (.inr z))
   ·exact p.elim
  ·exact p.elim
 ·exact p.elim
theorem Wq{pos':Pos}(h:XP K X a ta i π)(hx:XR K X b tb g)(he:XN K X e te f)(hp:PE X a ta→PE X b tb→PE X e te→PS X (.Assign [.Subscript a b pos'] e pos) (nH te (Ea ta tb tX))):YS K X (.Assign [.Subscript a b pos'] e pos) (nH te (Ea ta tb tX)) (nW i π g f):=⟨hp h.pe hx.pe he.pe,(Iu h.ev hx.ev he.ev).ds⟩
end
end L2


namespace L2
open PySem PySem.Spec PyProof.Rows
def jk(K:aA)(B:Hp)(R:Fp)(env:EN)(σ:St)(H:Hp):Prop:=∃A,cV (dR K H (out H (dD A R))) env A σ∧Apart A R∧aG B (out H (dD A R))
section
variable{K:aA}{B H H':Hp}{env:EN}{σ:St}{R R' A1:Fp}
end
section
variable{K:aA}{X:Cx}{e a b c:Expr}{es:List Expr}{t ta tb te:TE}{f g:FE}{tA:TA}{fs:FA}{pos:Pos}{i j:Nat}{π:FP}{st:Stmt}
inductive HY(K:aA)(H:Hp):V→Value→Prop where
 | bl (x:Bool):HY K H (.bl x) (.type "bool")
 | int (i:Int):HY K H (.int i) (.type "int")
 | lst {a:Addr} {xs:List V} (e:iM K H a xs):HY K H (.ref a) (.type "list")
 | tup {a:Addr} {xs:List V} (e:jP K H a xs):HY K H (.ref a) (.type "tuple")
theorem zY:fW X (.builtin "isinstance") (λxs H Q=>∃x T t b,xs=[x,.ty T]∧HY X.K H x t∧E8 X.K t (.type T)=some b∧Q (.bl b) H):=by
 intro pins s σ H xs us Q I r h
 obtain⟨x,T,t,b,rfl,ty,hk,q⟩:=h
 obtain⟨u,w',rfl,rx,rt⟩:=vals2 r
 cases rt
 cases ty with
 | bl y=>exact wU I rx (.bl y) hk λtk=>⟨.bl b,H,I.tok _,rfl,q⟩
 | int i=>exact wU I rx (.int i) hk λtk=>⟨.bl b,H,I.tok _,rfl,q⟩
 | @lst a xs e=>
  cases(show u=Value.ref a from rx)
  obtain⟨its,_,pl,_⟩:=I.list e
  obtain⟨o,n,h1,h2,_⟩:=pl
  exact F1 P0 I.yO ⟨o,h1,h2⟩ hk (λz=>nomatch z) λtk=>⟨.bl b,H,I.tok _,rfl,q⟩
 | @tup a xs e=>
  cases(show u=Value.ref a from rx)
  obtain⟨its,_,pl,_⟩:=I.tuple e
  obtain⟨o,h1,h2,_⟩:=pl
  exact F1 T4 I.yO ⟨o,h1,h2⟩ hk (λz=>nomatch z) λtk=>⟨.bl b,H,I.tok _,rfl,q⟩
def Cg(T:String)(d:D):Option D:=match d with
 | .int _=>if T = "int" then some (.bl true)else if T = "bool" then some (.bl false)else none
 | .bl _=>if T = "bool" then some (.bl true)else none
 | .lst _=>if T = "list" then some (.bl true)else none
 | .tup _=>if T = "tuple" then some (.bl true)else none
 | _=>none
def uX(T:String)(f:FE):FE:=λe=>(f e).bind (Cg T)
def RG(K:aA):List V→Hp→VK→Prop:=λxs H Q=>∃x T t b,xs=[x,.ty T]∧HY K H x t∧E8 K t (.type T)=some b∧Q (.bl b) H
theorem IK{H:Hp}{T:String}{d r:D}{v:V}(h:Cg T d=some r)(rv:Rv K H d v):∃t b,HY K H v t∧E8 K t (.type T)=some b∧r=.bl b:=by
 cases d with
 | int i=>
  unfold Cg at h
  dsimp only at h
  unfold Rv at rv
  subst rv
  split at h
  ·rename_i c;cases h;subst c;exact⟨_,_,.int i,Bq,rfl⟩
  ·split at h
   ·rename_i c;cases h;subst c;exact⟨_,_,.int i,zH,rfl⟩
   ·cases h
 | bl b=>
  unfold Cg at h
  dsimp only at h
  unfold Rv at rv
  subst rv
  split at h
  ·rename_i c;cases h;subst c;exact⟨_,_,.bl b,wJ,rfl⟩
  ·cases h
 | lst ds=>
  unfold Cg at h
  dsimp only at h
  unfold Rv at rv
  obtain⟨a,xs,rfl,r2,_⟩:=rv
  split at h
  ·rename_i c;cases h;subst c;exact⟨_,_,.lst r2,wK,rfl⟩
  ·cases h
 | tup ds=>
  unfold Cg at h
  dsimp only at h
  unfold Rv at rv
  obtain⟨a,xs,rfl,r2,_⟩:=rv
  split at h
  ·rename_i c;cases h;subst c;exact⟨_,_,.tup r2,sO,rfl⟩
  ·cases h
 | _=>unfold Cg at h;cases h
theorem IV(hk:X.K=K):fW X (.builtin "isinstance") (RG K):=by subst hk;exact zY
theorem oO{T:String}{p:Pos}{eT:Expr}(h:XR K X e t f)(hT:PE X eT (tC (.ty T)))(hg:Gl X "isinstance") (hm:X.mg "isinstance" = none) (hst:starEach (e::[eT]) X.env=(false,eval e X.env)::starEach [eT] X.env:=by rfl) (hst2:starEach [eT] X.env=(false,eval eT X.env)::starEach [] X.env:=by rfl)
  (hpl:(backTo pos (starEach [eT] X.env)).any (·.1)=false:=by rfl):XN K X (.Call (.Name "isinstance" p) [e,eT] [] pos) (Uq (RG K) (dY t (dY (tC (.ty T)) qO))) (uX T f):=
 ⟨h.hk,tR (IV h.hk) hg hm PyProof.Rows.boot_isinstance (fZ h.pe (fZ hT oE hst2) hst) (by decide) (by decide) hst hpl,λσ H e d Q re q k=>by
  unfold uX at q
  obtain⟨d0,q1,q2⟩:=aW q
  refine h.ev σ H H e d0 _ (Zn.self K H) re q1 λv H1 Z1 s1 t1 z1 rv=>?_
  obtain⟨ty,b,b1,b2,rfl⟩:=IK q2 (z1.sm.rv _ _ rv)
  exact⟨v,T,ty,b,rfl,b1,b2,k _ H1 s1 (.dZ rfl (by unfold Rv;rfl))⟩⟩
structure nY(mg:Str→Option Value)(x:Str)(i:Int):Prop where
 ex:∃t,mg x=some (.int i t)
structure dq(K:aA)(mg:Str→Option Value)(x:Str)(ns:List Int):Prop where
 ex:∃a,mg x=some (.ref a)∧∀H:Hp,jP K H a (ns.map V.int)
theorem Iv{x:Str}{i:Int}(G:nY X.mg x i)(hg:Gl X x)(hd:(x==("__debug__" : Str))=false:=by decide) (hk:X.K=K:=by rfl):XN K X (.Name x pos) (tC (.int i)) (fC (.int i)):=by
 obtain⟨t,h⟩:=G.ex
 exact⟨hk,Vc hg h ⟨t,rfl⟩ hd,Px i⟩
def dTup(ns:List Int):D:=.tup (ns.map D.int)
end
def iU(n m:Nat)(g:GS):List D→Option D:=λds=>if ds.length=m then(match g (ds.map SD.fro++F5 (n-m) SD.no)with
  | .ret d=>some d
  | .next _=>some .non
  | _=>none)else none
theorem Ci{K:aA}{H Z:Hp}{k:Nat}:∀{ds:List D} {vs:List V},bH K Z ds vs→cV (dR K H Z) (ds.map SD.fro++F5 k SD.no) nil (vs.map some++F5 k none)
 | [],vs,h=>by
  unfold bH at h
  subst h
  simp only[E9,M8]
  induction k with
  | zero=>exact⟨λ_ z=>z,rfl⟩
  | succ k ih=>
   rw[T1,T1]
   exact⟨none,_,nil,nil,rfl,λ_ z=>z.elim,λx=>⟨.inl,λz=>z.elim id id⟩,λ_ z=>z,ih⟩
 | d::ds,vs,h=>by
  unfold bH at h
  obtain⟨y,ys,rfl,h1,h2⟩:=h
  rw[C5,C5,G2,G2]
  exact⟨some y,_,nil,nil,rfl,λ_ z=>z.elim,λx=>⟨.inl,λz=>z.elim id id⟩,⟨λ_ z=>z,y,rfl,h1⟩,Ci h2⟩
theorem xT{K:aA}{H:Hp}{k:Nat}{ds:List D}{vs:List V}(h:bH K H ds vs):Rel K H (ds.map SD.fro++F5 k SD.no) (vs.map some++F5 k none) H:=by
 have g:aG H (out H nil):=λx u e=>aU.mpr ⟨λz=>z,e⟩
 exact⟨nil,Ci (g.Nq _ _ h),g⟩
theorem Raw.rB{P:Program}{w:World}{K:aA}{mg:Str→Option Value}{base:Heap}{x:Str}{st:Stmt}{N ps:List Str}{k:Nat}{g:GS}(R:Raw K mg x st)(S:bL N ps (aK st))
  (hb:∀(kV doc pm:Value)(an:Option Addr)(cdv ct:Value)(us:List Value),us.length=ps.length→bindArgs (F7 x x (cT st) (bV st) (aK st) .none kV doc pm an cdv ct) ⟨us,[]⟩=pure (ps.zip us))
  (hbody:∀(f:Addr)(cdv:Value)(A:Around)(outer:List Env)(s:Shared)(H:Hp)(E:XK),gK k (A.deeper (envOfC x (aK st) s.heap.objs.size f cdv)) →
   ∃t,YB K (yR Np P w K mg base N x (aK st) f cdv A outer s H E).Zz (bV st) t g):nR P w K mg base x (k+1) ps.length (oM K ps.length (iU N.length ps.length g)):=by
 refine R.cal S (λvs H Q E h=>?_) hb (λf cdv A outer s H vs Q E hr h=>?_)
 ·obtain⟨ds,d,h1,h2,_⟩:=h
  rw[h2.length];exact h1
 obtain⟨ds,d,h1,h2,h3,kk⟩:=h
 obtain⟨t,yb⟩:=hbody f cdv A outer s H E hr
 refine⟨t,yb.ps,yb.ev H _ _ H (ds.map SD.fro++F5 (N.length-ps.length) SD.no) ?_ ?_⟩
 ·have hl:vs.length=ps.length:=by rw[h2.length];exact h1
  have:=xT (k:=N.length-ps.length) h2
  unfold start
  rw[hl]
  exact this
 ·unfold iU at h3
  rw[if_pos h1]at h3
  cases q:g (ds.map SD.fro++F5 (N.length-ps.length) SD.no)with
  | ret d'=>
   rw[q]at h3
   cases h3
   refine λv H' A' s' o=>kk v H' (s'.trans (gO _ _)) ⟨A',o,λa qa=>?_⟩
   cases e:H a with
   | none=>rfl
   | some u=>exact absurd qa (aU.mp (s' a u e)).1
  | next env'=>
   rw[q]at h3
   cases h3
   refine λσ' H' ⟨A',_,s'⟩=>kk .non H' (s'.trans (gO _ _)) (.dZ rfl (by unfold Rv;rfl))
  | brk env'=>rw[q]at h3;cases h3
  | cont env'=>rw[q]at h3;cases h3
  | bad=>rw[q]at h3;cases h3
  | rete d e=>rw[q]at h3;cases h3
end L2


namespace L2
open PySem PySem.Spec PyProof.Rows
section
variable{K:aA}{X:Cx}{e a b c:Expr}{es:List Expr}{t ta tb te:TE}{f g:FE}{tA:TA}{fs:FA}{pos:Pos}{i j:Nat}{π:FP}{st:Stmt}{gb:GS}{tc:TT}{fc:FT}
def jl(f:FE):FE:=λe=>(f e).bind λd=>match d with | .int i=>some (.int (-i)) | _=>none
theorem Iw{tg elt iter:Expr}{ifs:List Expr}{scope:Scope}{spos py:Pos}{y:Str}{wi:TI}{fi:FA}{fe:FE}(N:List Str)(fr:List Nat)(hcalm:X.calm=true)(B:cG X.env.scope scope X.N N 1 fr)(hN:X.N.Nodup)(hy:X.N[i]?=some y)(hx:Loc X.env.scope y)(hi:XI K X tg iter wi fi)
  (hg:∀cl fp s H C,PG (cC X scope N cl fp s H C) tg (bU 0)) (hc:∀cl fp s H C,QZ K (cC X scope N cl fp s H C) ifs tc fc) (he:∀cl fp s H C,XN K (cC X scope N cl fp s H C) elt te fe)
  (hsw:swapsWith (.ListComp elt [⟨tg,iter,ifs,0⟩] scope pos) (some (.Name y py)) spos.line X.env=pure true:=by rfl)
  (hs:∀x,foldedSetIterable iter X.env x=pure x:=by intro _;rfl) (hf:X.fn y=true∨X.env.scope.names.lookup y=some .local:=by first | exact .inl rfl | exact .inr rfl | assumption) :
  YS K X (.Assign [.Name y py] (.ListComp elt [⟨tg,iter,ifs,0⟩] scope pos) spos) (nH (uC wi 1 fr (bU 0) tc te) (bU i)) (cI i (cX fi fr fc fe)):=
 ⟨Wc N 1 fr hcalm B hN hy hx hi.pi hg (λcl fp s H C=>(hc cl fp s H C).YX) (λcl fp s H C=>(he cl fp s H C).pe) hsw hs hf,Qo (zW hi.ev (hc [] [] X.s₀ X.H₀ 0).ev (he [] [] X.s₀ X.H₀ 0).ev)⟩
def du(K:aA)(wi:TI)(fi:FA):Prop:=∀(σ:St)(H:Hp)(e:DE)(ds:List D)(R:It→Hp→Prop),nJ K H e σ→fi e=some ds →
 (∀J H' P vs,aG H H'→DX J P vs→(∀H2,P H2)→(∀Z,bH K Z ds vs)→R J H')→wi σ H R
structure XJ(K:aA)(X:Cx)(tg iter:Expr)(wi:TI)(fi:FA):Prop where
 pi:PI X tg iter wi
 ev:du K wi fi
theorem rC{tg:Expr}{p:Pos}(hg:Gl X "range") (hm:X.mg "range" = none) (ha:XA K X [a] tA fs) (hs:starEach [a] X.env=[(false,eval a X.env)]:=by rfl):XJ K X tg (.Call (.Name "range" p) [a] [] pos) (Oc tA) (kW fs):=⟨wR hg hm ha.pa hs,λσ H e ds R re q k=>by
 unfold kW at q
 obtain⟨es,q1,q2⟩:=aW q
 split at q2
 ·rename_i n
  split at q2
  ·rename_i hl
   cases q2
   have hl:=Qm hl
   refine ha.ev σ H H e _ _ (Zn.self K H) re q1 λvs H1 Z1 s1 t1 z1 rs=>?_
   obtain⟨v,rfl,r⟩:=oH rs
   unfold Rv at r
   subst r
   exact⟨n,rfl,by omega,by omega,k _ H1 _ _ s1 xF (λ_=>True.intro) λZ=>xQ 0 n.toNat⟩
  ·cases q2
 ·cases q2⟩
def nZ(i:Nat)(fi:FA)(g:GS):GS:=λenv=>match fi (rE env)with
 | some xs=>qY i g xs env
 | none=>.bad
theorem Wr{wi:TI}{fi:FA}{tb:TS}(hi:du K wi fi)(h:DS K tb gb):DS K (Ed wi (bU i) tb) (nZ i fi gb):=λB E σ H env r p=>by
 unfold nZ at p
 split at p
 ·rename_i xs q
  refine hi σ H (rE env) xs _ r.r q λJ H1 P vs s hJ hP rvs=>?_
  have hl:=(rvs H).length
  refine zF hJ (λk σ2 H2=>∃fM,Rel K B fM σ2 H2∧sU K B E (qY i gb (xs.drop k) fM)) ⟨env,r.same s,by simpa using p⟩ (λk σ2 H2 _ _=>hP H2) ?_ ?_
  ·rintro k x σ2 H2 hx ⟨fM,r2,p2⟩
   have hk:k<xs.length:=by
    obtain⟨h1,_⟩:=B9.mp hx
    omega
   rw[J3 hk]at p2
   unfold qY at p2
   split at p2
   ·rename_i hlen
    obtain⟨A2,a2,b2⟩:=r2
    obtain⟨x',hx',rx⟩:=(rvs (out H2 A2)).get (B5 hk)
    rw[hx]at hx'
    cases hx'
    have r3:Rel K B (fM.set i (.fro xs[k])) (σ2.set i (some x)) H2:=tE a2 b2 hlen (aG.refl _) (aG.refl _) (uV a2) rx
    refine h B _ _ H2 _ r3 ?_
    split at p2
    ·rename_i env' q2;rw[q2];exact λσ' H' r'=>⟨env',r',p2⟩
    ·rename_i env' q2;rw[q2];exact λσ' H' r'=>⟨env',r',p2⟩
    ·rename_i env' q2;rw[q2];exact p2
    ·rename_i n1 n2 n3
     cases q2:gb (fM.set i (.fro xs[k]))with
     | next e=>exact absurd q2 (n1 e)
     | cont e=>exact absurd q2 (n2 e)
     | brk e=>exact absurd q2 (n3 e)
     | ret d=>rw[q2]at p2;exact p2
     | bad=>rw[q2]at p2;exact p2
     | rete d e=>rw[q2]at p2;exact p2
   ·exact p2.elim
  ·rintro σ2 H2 ⟨fM,r2,p2⟩
   rw[hl,P8]at p2
   exact p2 σ2 H2 r2
 ·exact p.elim
theorem zZ{tg iter:Expr}{body:List Stmt}{wi:TI}{fi:FA}{tb:TS}(hp:PassesOwn (model X.prog X.w) X.A X.env X.xe)(Qp:X.calm=true)(hi:XJ K X tg iter wi fi)(hg:PG X tg (bU i))(hb:YB K X body tb gb)
  (hs:∀x,foldedSetIterable iter X.env x=pure x:=by intro _;rfl):YS K X (.For tg iter body [] pos) (Ed wi (bU i) tb) (nZ i fi gb):=⟨Ef hp Qp hi.pi hg hb.ps hs,Wr hi.ev hb.ev⟩
end
theorem Fd{K:aA}{st:Stmt}{f:Addr}{fd:FuncData}(F:Us K "law" "law" st f fd) (hb:∀(kV doc pm:Value)(an:Option Addr)(cdv ct:Value)(u:Value),bindArgs (F7 "law" "law" (cT st) (bV st) (aK st) .none kV doc pm an cdv ct) ⟨[u],[]⟩=pure [(("script" : Str),u)]):∀(s:Shared)(u:Value),BindsTo s fd ⟨[u],[]⟩ [("script", u)]:=by
 obtain⟨oc,od,kV,doc,pm,an,cdv,ct,osl,rfl,lk,hcd⟩:=F.ex
 exact λs u=>.of_eq (hb kV doc pm an cdv ct u)
theorem pP{K:aA}{h:Heap}{mg:Str→Option Value}{x:Str}{i:Int}{t:Tok}(X:K.In h)(G:h.Ns mainGlobals mg)(a:T6 K mainGlobals x=some (some (.int i t))):nY mg x i:=⟨t,W8 X G a⟩
end L2


namespace L2
open PySem PySem.Spec PyProof.Rows
section
variable{K:aA}{X:Cx}{e a b c:Expr}{es:List Expr}{t ta tb te:TE}{f g:FE}{tA:TA}{fs:FA}{pos:Pos}{i j:Nat}{π:FP}{st:Stmt}
variable{lo hi:Option Expr}{tl th:TO}{fl fh:FO}{p2:Pos}
def dw(a b:D):Option D:=match a,b with
 | .tup x,.tup y=>if D.aZ x=true∧D.aZ y=true∧x.length+y.length≤100000 then some (.tup (x++y))else none
 | _,_=>none
end
end L2


namespace L2
open PySem PySem.Spec PyProof.Rows
theorem ZC(xs:Array Nat)(j:Nat):∀(fuel lo hi:Nat),hi-lo≤fuel→lo≤hi→hi≤xs.size→xs.toList.Pairwise (·<·) →
  (∀i,i<lo→xs.getD i 0<j)→(∀i,hi≤i→i<xs.size→j≤xs.getD i 0) →
  SetTable.below.go xs j fuel lo hi≤xs.size∧(∀i,i<SetTable.below.go xs j fuel lo hi→xs.getD i 0<j)∧(∀i,SetTable.below.go xs j fuel lo hi≤i→i<xs.size→j≤xs.getD i 0)
 | 0,lo,hi,h1,h2,h3,up,h4,h5=>by
  unfold SetTable.below.go
  have e:lo=hi:=by omega
  subst e
  exact⟨h3,h4,h5⟩
 | fuel+1,lo,hi,h1,h2,h3,up,h4,h5=>by
  unfold SetTable.below.go
  have mono:∀a b,a<b→b<xs.size→xs.getD a 0<xs.getD b 0:=λa b q q'=>by
   have:=K6.mp up a b (by simp;omega) (by simpa using q') q
   simp only[O0]at this
   simpa[K7,q',show a<xs.size by omega]using this
  split
  ·rename_i c
   have hm:(lo+hi)/2<xs.size:=by omega
   have e:xs.getD ((lo+hi)/2) j=xs.getD ((lo+hi)/2) 0:=by simp[K7,hm]
   dsimp only
   rw[e]
   by_cases c2:xs.getD ((lo+hi)/2) 0<j
   ·rw[if_pos c2]
    refine ZC xs j fuel ((lo+hi)/2+1) hi (by omega) (by omega) h3 up (λi hi'=>?_) h5
    rcases G7 i ((lo+hi)/2)with z | z
    ·have:=mono i _ z hm
     omega
    ·have z':i=(lo+hi)/2:=by omega
     subst z'
     exact c2
   ·rw[if_neg c2]
    refine ZC xs j fuel lo ((lo+hi)/2) (by omega) (by omega) (by omega) up h4 λi hi' hs=>?_
    rcases G7 ((lo+hi)/2) i with z | z
    ·have:=mono _ i z hs
     omega
    ·have z':i=(lo+hi)/2:=by omega
     subst z'
     omega
  ·have e:lo=hi:=by omega
   subst e
   exact⟨h3,h4,h5⟩
theorem below_at{xs:Array Nat}(up:xs.toList.Pairwise (·<·))(j:Nat) :
  SetTable.below xs j≤xs.size∧(∀i,i<SetTable.below xs j→xs.getD i 0<j)∧(∀i,SetTable.below xs j≤i→i<xs.size→j≤xs.getD i 0):=by
 unfold SetTable.below
 exact ZC xs j xs.size 0 xs.size (by omega) (J4 _) (B6 _) up (λi h=>absurd h (V9 _)) λi h h'=>by omega
def Led(b:Bool)(t:SetTable):Prop:=t.led=b∧(t.plain=true→t.place.toList.Pairwise (·<·)∧t.dummies=#[])
theorem Led.fresh(b:Bool):Led b (.fresh 0 0 b):=⟨rfl,λ_=>⟨by simp[SetTable.fresh],rfl⟩⟩
theorem Led.standIn{b:Bool}{t:SetTable}(h:Led b t)(n:Nat):Led b (t.standIn n):=⟨h.1,λq=>by simp[SetTable.standIn]at q⟩
theorem Led.off{b:Bool}{t:SetTable}(h:Led b t):Led b {t with plain:=false}:=⟨h.1,λq=>by simp at q⟩
theorem pgo{t:SetTable}(hd:t.dummies=#[]){g:Nat→Int}{h:Int}:∀(fuel:Nat)(p:SetTable.Probe)(j:Nat)(d:Option Nat),p.dummy=none→SetTable.probe.go t g h fuel p=some (.empty j d)→d=none∧t.slot j=.empty
 | 0,p,j,d,_,q=>by simp[SetTable.probe.go]at q
 | fuel+1,p,j,d,e,q=>by
  unfold SetTable.probe.go at q
  have jm:(t.advance p).dummy=none:=by
   unfold SetTable.advance
   split
   ·exact e
   ·exact e
  split at q
  ·rename_i c
   injection q with q
   injection q with q1 q2
   rw[←q1,←q2]
   exact⟨e,c⟩
  ·rename_i c
   exfalso
   unfold SetTable.slot at c
   dsimp only at c
   split at c
   ·cases c
   ·split at c
    ·rename_i z
     rw[hd]at z
     simp[SetTable.has]at z
    ·cases c
  ·split at q
   ·cases q
   ·exact pgo hd fuel _ j d jm q
theorem xU{t:SetTable}(hd:t.dummies=#[]){h:Int}{j:Nat}{w:Bool}(q:t.freeSlot h=some (j,w)):t.slot j=.empty∧w=false:=by
 unfold SetTable.freeSlot at q
 split at q
 ·rename_i j' d e
  obtain⟨rfl,e2⟩:=pgo hd _ _ _ _ (by rfl) e
  simp at q
  obtain⟨rfl,rfl⟩:=q
  exact⟨e2,rfl⟩
 ·cases q
theorem Qx{t:SetTable}(hd:t.dummies=#[])(up:t.place.toList.Pairwise (·<·)){j:Nat}(q:t.slot j=.empty):(t.put j).1.place.toList.Pairwise (·<·)∧(t.put j).1.dummies=#[]:=by
 obtain⟨b1,b2,b3⟩:=below_at up j
 refine⟨?_,?_⟩
 ·show (SetTable.insertAt t.place (SetTable.below t.place j) j).toList.Pairwise (·<·)
  rw[SetTable.toList_insertAt]
  have ne:t.place[SetTable.below t.place j]?≠some j:=λz=>by
   unfold SetTable.slot at q
   dsimp only at q
   rw[z]at q
   simp at q
  have lo:∀x∈t.place.toList.take (SetTable.below t.place j),x<j:=λx hx=>by
   obtain⟨i,hi,rfl⟩:=M5 hx
   rw[G0]at hi
   have hs:i<t.place.size:=by simp at hi;omega
   have:=b2 i (by omega)
   simpa[K7,hs]using this
  have hi:∀x∈t.place.toList.drop (SetTable.below t.place j),j<x:=λx hx=>by
   obtain⟨i,hi,rfl⟩:=M5 hx
   rw[J8,F2]at hi
   have hs:SetTable.below t.place j+i<t.place.size:=by omega
   have h1:=b3 (SetTable.below t.place j+i) (by omega) hs
   have e:(t.place.toList.drop (SetTable.below t.place j))[i]=t.place.getD (SetTable.below t.place j+i) 0:=by simp[K7,hs]
   rw[e]
   rcases Nat.eq_zero_or_pos i with z | z
   ·subst z
    rcases G7 j (t.place.getD (SetTable.below t.place j+0) 0)with y | y
    ·exact y
    ·refine absurd ?_ ne
     have e2:t.place.getD (SetTable.below t.place j) 0=j:=by simp only[Nat.add_zero]at y h1;omega
     rw[G4 (by omega)]
     simpa[K7,show SetTable.below t.place j<t.place.size by omega]using e2
   ·have h0:=b3 (SetTable.below t.place j) (B6 _) (by omega)
    have:=K6.mp up (SetTable.below t.place j) (SetTable.below t.place j+i) (by simp;omega) (by simpa using hs) (by omega)
    simp only[O0]at this
    have e3:t.place.getD (SetTable.below t.place j) 0<t.place.getD (SetTable.below t.place j+i) 0:=by simpa[K7,hs,show SetTable.below t.place j<t.place.size by omega]using this
    omega
  refine List.pairwise_append.mpr ⟨up.sublist (U0 _ _),F8.mpr ⟨hi,up.sublist (List.drop_sublist _ _)⟩,λx hx y hy=>?_⟩
  have h1:=lo x hx
  rcases B8.mp hy with z | z
  ·omega
  ·have:=hi y z
   omega
 ·show (if SetTable.has t.dummies j then _ else t.dummies)=#[]
  rw[hd]
  simp[SetTable.has]
theorem Led.lay{b:Bool}{t:SetTable}(h:Led b t)(es:Array (Int×Value))(k:Int)(x:Value):Led b (layNew t es k x).2.1:=by
 unfold layNew
 split
 ·rename_i j w e
  dsimp only
  unfold SetTable.orStandIn
  split
  ·refine⟨h.1,λq=>?_⟩
   obtain⟨u,d⟩:=h.2 q
   exact Qx d u (xU d e).1
  ·exact Led.standIn (t:=(t.put j).1) ⟨h.1,λq=>by
    obtain⟨u,d⟩:=h.2 q
    exact Qx d u (xU d e).1⟩ _
 ·exact h.standIn _
theorem Yu{β:Type}(f:Nat→Option β):∀l:List Nat,l.Pairwise (·<·)→((l.filterMap λj=>(f j).map λy=>(j,y)).map (·.1)).Pairwise (·<·)∧∀x∈((l.filterMap λj=>(f j).map λy=>(j,y)).map (·.1)),x∈l
 | [],_=>⟨.nil,λx h=>by simp at h⟩
 | a::l,h=>by
  obtain⟨h1,h2⟩:=F8.mp h
  obtain⟨i1,i2⟩:=Yu f l h2
  rw[M4]
  cases e:f a with
  | none=>exact⟨i1,λx hx=>B7 _ (i2 x hx)⟩
  | some y=>
   refine⟨F8.mpr ⟨λx hx=>h1 x (i2 x hx),i1⟩,λx hx=>?_⟩
   rcases B8.mp hx with z | z
   ·exact z▸C4
   ·exact B7 _ (i2 x z)
theorem Led.RJ{b:Bool}{t:SetTable}(h:Led b t)(es:Array (Int×Value))(n:Nat):Led b (relayAll t es n).2.1:=by
 unfold relayAll
 split
 ·rename_i t' order e
  dsimp only
  split
  ·dsimp only
   unfold SetTable.relaid SetTable.laid at e
   obtain⟨ow,e1,e2⟩:=aW e
   injection e2 with e2
   injection e2 with e3 e4
   rw[←e3]
   exact⟨h.1,λ_=>⟨by simpa using (Yu (λj=>ow.getD j none) _ List.pairwise_lt_range).1,rfl⟩⟩
  ·exact h.standIn _
 ·exact h.standIn _
theorem oR{α:Type}:∀(l:List α)(i:Nat)(h:i<l.length),(l[i]::l.eraseIdx i).Perm l
 | [],i,h=>absurd h (by simp)
 | a::l,0,h=>O5 _
 | a::l,i+1,h=>by
  have:=oR l i (by simpa using h)
  simp only[List.getElem_cons_succ,List.eraseIdx_cons_succ]
  exact(List.Perm.swap a _ _).trans (this.cons a)
theorem Iz{α:Type}(next:Nat→Nat):∀(n:Nat)(left:List α)(k:Nat)(out:Array α),left.length=n→((pickOrder.go next n k left out).toList).Perm (out.toList++left)
 | 0,left,k,out,hn=>by
  have:left=[]:=J7 hn
  subst this
  simp[pickOrder.go]
 | n+1,left,k,out,hn=>by
  unfold pickOrder.go
  have hl:next k%left.length<left.length:=Nat.mod_lt _ (by omega)
  rw[B5 hl]
  dsimp only
  refine(Iz next n (left.eraseIdx (next k%left.length)) (k+1) _ (by rw[O7 hl];omega)).trans ?_
  rw[U2,U3]
  exact List.Perm.append_left _ (oR _ _ hl)
theorem Lp{α:Type}(next:Nat→Nat)(xs:Array α):(pickOrder next xs).toList.Perm xs.toList:=by
 have:=Iz next xs.size xs.toList 0 #[] (by simp)
 simpa[pickOrder]using this
end L2


namespace L2
open PySem PySem.Spec PyProof.Rows
section
variable{prog:Program}{w:World}{A:Around}{E:Value→Shared→Prop}{s:Shared}{b:Bool}
def oU(prog:Program)(w:World)(b:Bool)(h:Heap)(a:Addr)(S:Int→Bool)(n:Nat):Prop:=
 ∃o es ep t,h.get? a=some o∧o.ExactSet∧o.data=.set es ep t∧ElemsOf (intKind prog w) es.toList∧(∀k,S k=true↔∃e∈es.toList,(intKind prog w).is k e.2=true)∧es.size<scanBound∧t.fits es.size=true∧es.size=n∧Led b t
theorem oU.at_{h h':Heap}{a:Addr}{S:Int→Bool}{n:Nat}(x:oU prog w b h a S n)(e:∀o,h.get? a=some o→h'.get? a=some o):oU prog w b h' a S n:=
 let ⟨o,es,ep,t,ho,r⟩:=x;⟨o,es,ep,t,e o ho,r⟩
theorem oU.to{h:Heap}{a:Addr}{S S':Int→Bool}{n n':Nat}(x:oU prog w b h a S n)(e:∀k,S k=S' k)(en:n=n'):oU prog w b h a S' n':=by
 subst en
 have:S=S':=funext e
 rw[←this]
 exact x
theorem Yv{h:Heap}{a:Addr}{o:Obj}{es es':Array (Int×Value)}{ep:Nat}{t t':SetTable}{S':Int→Bool}(ho:h.get? a=some o)(hex:o.ExactSet)(hd:o.data=.set es ep t)(hel:ElemsOf (intKind prog w) es'.toList)
  (hm:∀k,S' k=true↔∃e∈es'.toList,(intKind prog w).is k e.2=true) (hz:es'.size<scanBound) (hf:t'.fits es'.size=true) (hl:Led b t') :
  (h.update a (Obj.putSet es' t')).get? a=some {o with data:=.set es' (ep+1) t'}∧oU prog w b (h.update a (Obj.putSet es' t')) a S' es'.size:=
 have g:=(SetOf_store (knd:=intKind prog w) ho hex hd hel hm hz hf).1
 ⟨g,_,es',ep+1,t',g,hex,rfl,hel,hm,hz,hf,rfl,hl⟩
theorem Qy{g:Bool→Sem Unit}(hg:∀(c:Bool)(s₁:Shared)(Q':Unit→Shared→Prop),Q' () s₁→wpAny (model prog w) A (g c) Q' E s₁){a:Addr}{o:Obj}{es e1:Array (Int×Value)}{ep:Nat}{t t2:SetTable}{S':Int→Bool}
  (ho:s.heap.get? a=some o) (hex:o.ExactSet) (hd:o.data=.set es ep t) (hel:ElemsOf (intKind prog w) e1.toList) (hm:∀k,S' k=true↔∃e∈e1.toList,(intKind prog w).is k e.2=true) (hz:e1.size<scanBound) (hf:t2.fits e1.size=true) (hl:Led b t2)
  {wd:Bool} {R:Option Bool→Shared→Prop} (h:∀h',Heap.SameBut a s.heap h'→oU prog w b h' a S' e1.size→R (some true) {s with heap:=h'}) :
  wpAny (model prog w) A (do
    storeSet a e1 t2
    if(!wd&&t2.tooFull)=true then do
      g (relayAll t2 e1 (SetTable.grown e1.size)).2.2
      storeSet a (relayAll t2 e1 (SetTable.grown e1.size)).1 (relayAll t2 e1 (SetTable.grown e1.size)).2.1
      pure (some true)
     else pure (some true)) R E s:=by
 obtain⟨g1,s1⟩:=Yv (prog:=prog) (w:=w) ho hex hd hel hm hz hf hl
 refine wpAny_bind (wpAny_storeSet_of ho hd ?_ (fits_of_scanBound hz))
 have sb:=Heap.SameBut.update s.heap a (Obj.putSet e1 t2)
 split
 ·have pm:=relayAll_perm t2 e1 (SetTable.grown e1.size)
  have ff:=relayAll_fits t2 e1 (SetTable.grown e1.size)
  have ll:=hl.RJ e1 (SetTable.grown e1.size)
  have sz:(relayAll t2 e1 (SetTable.grown e1.size)).1.size=e1.size:=by rw[←F2,pm.length_eq,F2]
  have zz:(relayAll t2 e1 (SetTable.grown e1.size)).1.size<scanBound:=by rw[sz];exact hz
  refine wpAny_bind (hg _ _ _ (wpAny_bind (wpAny_storeSet_of g1 rfl ?_ (fits_of_scanBound zz))))
  obtain⟨_,s2⟩:=Yv (prog:=prog) (w:=w) (S':=S') g1 hex rfl (hel.perm pm) (λk=>(hm k).trans ⟨λ⟨e,he,q⟩=>⟨e,pm.mem_iff.mpr he,q⟩,λ⟨e,he,q⟩=>⟨e,pm.mem_iff.mp he,q⟩⟩) zz ff ll
  rw[sz]at s2
  exact wpAny_pure (h _ (sb.trans (Heap.SameBut.update _ a _)) s2)
 ·exact wpAny_pure (h _ sb s1)
theorem RK{a:Addr}{S:Int→Bool}{n:Nat}{k:Int}{tk:Tok}{Q:Bool→Shared→Prop}(hS:oU prog w b s.heap a S n)(room:n+1<scanBound)
  (h:∀h',Heap.SameBut a s.heap h'→oU prog w b h' a (λj=>S j||decide (j=k)) (if S k then n else n+1)→Q (!S k) {s with heap:=h'}) :
  wpAny (model prog w) A (setAddHashed a (.int k tk) ((intKind prog w).hash k)) Q E s:=by
 obtain⟨o,es,ep,t,ho,hex,hd,hel,hm,hb,hf,hn,hl⟩:=hS
 have key:(intKind prog w).is k (.int k tk)=true:=intKind_is _ _ _ _
 have sc:(Value.int k tk).scannable=true:=rfl
 unfold setAddHashed setAddHashedIn
 refine wpAny_holding (wpAny_bind (wpAny_setState_of ho hd hf ?_))
 dsimp only
 rw[byScan_of sc hb hel]
 simp only[↓reduceIte]
 unfold setAddByScan
 refine wpAny_bind (wpAny_bind (wpAny_rule (wpAny_bind (wpAny_setScan_of key ho hd hf hel ?_))))
 cases hr:List.findIdx? (λe=>(intKind prog w).is k e.2) es.toList with
 | some j=>
  dsimp only
  obtain⟨hj,pj,_⟩:=List.findIdx?_eq_some_iff_getElem.mp hr
  have hk:S k=true:=(hm k).mpr ⟨es.toList[j],V2 hj,pj⟩
  have z:=h s.heap (Heap.SameBut.refl a s.heap) ⟨o,es,ep,t,ho,hex,hd,hel,λj=>by
   rw[V8,decide_eq_true_eq,←hm j]
   exact⟨λq=>q.elim id λe=>by rw[e];exact hk,.inl⟩,hb,hf,by rw[hk];exact hn,hl⟩
  rw[hk]at z
  exact wpAny_pure (wpAny_pure z)
 | none=>
  dsimp only
  have hk:S k=false:=by
   cases e:S k with
   | false=>rfl
   | true=>
    obtain⟨x,hx,px⟩:=(hm k).mp e
    have:=List.findIdx?_eq_none_iff.mp hr x hx
    rw[px]at this
    cases this
  have hgw:∀(c:Bool) {s₁:Shared} {Q':Unit→Shared→Prop},Q' () s₁→wpAny (model prog w) A (match c with | true=>rule "set.scan.the-table-gave-way" | false=>pure ()) Q' E s₁:=λc s₁ Q' q=>by
   cases c
   ·exact wpAny_pure q
   ·exact wpAny_rule q
  have pm:=layNew_perm t es ((intKind prog w).hash k) (.int k tk)
  have ff:=layNew_fits t es ((intKind prog w).hash k) (.int k tk)
  have ll:=hl.lay es ((intKind prog w).hash k) (.int k tk)
  generalize layNew t es ((intKind prog w).hash k) (.int k tk)=Y at pm ff ll ⊢
  obtain⟨e1,t1,wd,gave⟩:=Y
  dsimp only at pm ff ll ⊢
  rw[U2]at pm
  have sz:e1.size=n+1:=by rw[←F2,pm.length_eq,D4,F2,hn];rfl
  have zz:e1.size<scanBound:=by omega
  have dz:=(hel.push key sc).perm pm
  have m1:=mem_push_iff (k:=k) key hm pm
  refine wpAny_bind (hgw _ ?_)
  have fin:∀h',Heap.SameBut a s.heap h'→oU prog w b h' a (λj=>S j||decide (j=k)) e1.size→Q true {s with heap:=h'}:=λh' q1 q2=>by
   have z:=h h' q1
   rw[hk]at z
   rw[sz]at q2
   exact z q2
  split
  ·rw[hashByValue_scannable 8 sc]
   refine wpAny_bind (wpAny_pure ?_)
   refine Qy (b:=b) (λc s₁ Q' q=>hgw c q) ho hex hd dz m1 zz ?_ ?_ λh' q1 q2=>?_
   ·split
    ·exact ff
    ·exact SetTable.fits_plain_off ff
   ·split
    ·exact ll
    ·exact ll.off
   ·dsimp only
    exact wpAny_pure (fin h' q1 q2)
  ·refine wpAny_bind (wpAny_pure ?_)
   simp only[↓reduceIte]
   refine Qy (b:=b) (λc s₁ Q' q=>hgw c q) ho hex hd dz m1 zz ff ll λh' q1 q2=>?_
   dsimp only
   exact wpAny_pure (fin h' q1 q2)
end
section
variable{prog:Program}{w:World}{A:Around}{R:Result→Shared→Prop}{I:Addr}{fp wr:List Addr}{G:Array GenState→Array GenState→Prop}{n:Nat}{P:Nat→Value→Prop}{St:Nat→Shared→Prop}{b:Bool}
abbrev Fe(prog:Program)(w:World)(b:Bool)(h:Heap)(a:Addr)(val:Nat→Int)(i:Nat):Prop:=oU prog w b h a (λk=>(firstMet val i).any (·==k)) (firstMet val i).length
theorem IW(W:WalksS prog w A.in1 I fp wr G n P St)(a:Addr)(hf:a∉fp)(val:Nat→Int)(hval:∀i v,P i v→∃t,v=.int (val i) t)(hz:n+1<scanBound) :
  ∀(m i:Nat)(s:Shared),n-i=m→i≤n→St i s→Fe prog w b s.heap a val i→(∀s',Moved (a::wr) G s s'→Fe prog w b s'.heap a val n→R (.ok (.ret .none)) s') →
   codeAny (model prog w) A (.builtin "set.update.loop" ⟨[.ref a,.ref I],[]⟩) R s:=by
 have hw:a∉wr:=λz=>hf (W.sub _ z)
 have sub:∀c∈wr,c∈a::wr:=λc hc=>B7 _ hc
 intro m
 induction m with
 | zero=>
  intro i s hk hi hst hS hR
  have e:i=n:=by omega
  subst e
  refine codeAny_builtin N1 ?_
  rw[Around.under_plainId K2 _]
  show wpAny _ A.in1 (pyNext (.ref I) >>= _) _ _ s
  refine wpAny_bind (W.done s _ _ hst λs' mv=>?_)
  show wpAny _ A.in1 (ret Value.none) _ _ s'
  exact wpAny_pure (hR s' (mv.mono sub) (hS.at_ λo e=>mv.heap a o hw e))
 | succ m ih=>
  intro i s hk hi hst hS hR
  have lt:i<n:=by omega
  refine codeAny_builtin N1 ?_
  rw[Around.under_plainId K2 _]
  show wpAny _ A.in1 (pyNext (.ref I) >>= _) _ _ s
  refine wpAny_bind (W.item i s _ _ lt hst λv s1 hP st1 mv=>?_)
  obtain⟨tk,rfl⟩:=hval i v hP
  have S1:Fe prog w b s1.heap a val i:=hS.at_ λo e=>mv.heap a o hw e
  show wpAny _ A.in1 (holding [Value.int (val i) tk] (setAdd a (.int (val i) tk)) >>= _) _ _ s1
  unfold setAdd
  refine wpAny_bind (wpAny_holding (wpAny_holding (wpAny_bind ((intKind prog w).pyHash (k:=val i) (intKind_is _ _ _ _) ?_))))
  have room:(firstMet val i).length+1<scanBound:=by have:=firstMet_length_le val i;omega
  refine RK (s:={s1 with toks:=s1.toks+1}) S1 room λh' sb S2=>?_
  have S3:Fe prog w b h' a val (i+1):=S2.to (λj=>by rw[firstMet_succ,step_any]) (by rw[firstMet_succ,step_length])
  refine wpAny_pure ⟨plainId_quiet K2 _,ih (i+1) _ (by omega) lt (W.frame _ s1 _ _ st1 (D7 _) λc hc o e=>?_) S3 λs2 jn S4=>?_⟩
  ·rw[sb.2 c λz=>hf (by rw[←z];exact hc)]
   exact e
  ·refine hR s2 (Moved.trans W.gtrans ((mv.mono sub).then_heap (D7 _) λc o hc e=>?_) jn) S4
   rw[sb.2 c λz=>hc (by rw[z];exact C4)]
   exact e
end
end L2


namespace L2
open PySem PySem.Spec PyProof.Rows
section
variable{prog:Program}{w:World}{A:Around}{E:Value→Shared→Prop}{s:Shared}
abbrev iV(b:Bool):Obj:={cls:=.type "set", dict:=none,data:=.set #[] 0 (.fresh 0 0 b)}
abbrev iW(w:World):Bool:=!w.params.followText "set-order"
theorem RL(a:Value){Q:Value→Shared→Prop}(h:Q (.ref s.heap.objs.size) {s with heap:=s.heap.push (iV (iW w))}) :
  codeAny (model prog w) A (.call (.builtin "set.__new__") ⟨[.type "set", a],[]⟩) (wants Q E) s:=by
 refine codeAny_of_tree ?_
 show wpAny _ A.in1 (checkBuiltinCall "set.__new__" ⟨[.type "set", a],[]⟩ >>= λ_=>again (.builtin "set.__new__" ⟨[.type "set", a],[]⟩)) _ _ s
 refine wpAny_bind (wpAny_of_eq (PySem.F.newCall_set_1 a) (wpAny_pure ⟨plainId_quiet R7 _,codeAny_builtin PySem.F.entry_set_new ?_⟩))
 rw[Around.under_plainId R7 _]
 unfold Builtin.«set.__new__» Builtin.Frozenset.newClass
 have sub:=sub_set_self
 obtain⟨hp,g,d,tk,os⟩:=s
 dsimp only
 wp_walk
 refine wpAny_askSetting (wpAny_pure ?_)
 dsimp only
 simp only[newObj]
 exact wpAny_bind (wpAny_alloc (wpAny_pure (wpAny_pure h)))
theorem Ws(b:Bool){h:Heap}{a:Addr}{val:Nat→Int}(e:h.get? a=some (iV b)):Fe prog w b h a val 0:=
 ⟨_,#[],0,_,e,⟨rfl,rfl,rfl⟩,rfl,λx hx=>by simp at hx,λk=>by simp[firstMet_zero],by decide,by rfl,rfl,Led.fresh b⟩
theorem RM{l:Addr}{its:Array Value}{ns:List Int}{Q:Value→Shared→Prop}(hh:A.handled=none)(hl:s.heap.IsList l its)(hi:IntsAre its.toList ns)(hz:its.size+1<scanBound)
  (h:∀(h':Heap)(tk:Nat),Fe prog w (iW w) h' s.heap.objs.size (λi=>ns.getD i 0) its.size→(∀b o,s.heap.get? b=some o→h'.get? b=some o)→Q (.ref s.heap.objs.size) {s with heap:=h',toks:=tk}) :
  wpAny (model prog w) A (call (.type "set") [.ref l]) Q E s:=by
 obtain⟨c,tl,hmro⟩:=G8.mro
 have hmade:=G8.made
 have hsub:=G8.sub
 refine wpAny_call (codeAny_of_tree ?_)
 show wpAny _ _ (callAny (.type "set") _) _ _ _
 refine wpAny_pure ⟨Code.quiet_builtin _ (by decide +kernel),codeAny_builtin PySem.F.entry_type_call ?_⟩
 rw[Around.under_plain (weight_type_call_type "set" [.ref l] []) rfl]
 have h1:=G8.notType
 have h2:=G8.canCreate
 have hct:=PySem.F.typeCall_set_1 (.ref l)
 repeat (any_goals (first | assumption | wp_step))
 refine codeAny_mono (RL (.ref l) (E:=E) (Q:=λv s1=>v=.ref s.heap.objs.size∧s1={s with heap:=s.heap.push (iV (iW w))}) ⟨rfl,rfl⟩) λr s1 hr=>?_
 cases r with
 | error e=>exact hr
 | ok fl=>
  cases fl with
  | ret obj=>
   obtain⟨rfl,rfl⟩:=hr
   have g0:(s.heap.push (iV (iW w))).get? s.heap.objs.size=some (iV (iW w)):=Heap.get?_push_size _ rfl
   have hT:Shared.TypeIs {s with heap:=s.heap.push (iV (iW w))} (.ref s.heap.objs.size) "set" := ⟨_,g0,rfl⟩
   have hli:=G8.init.lookup
   have hbi:=G8.init.bind (.ref s.heap.objs.size)
   repeat (any_goals (first | assumption | wp_step))
   refine codeAny_mono (codeAny_call_builtin (R:=wants (λr s2=>r=.none∧∃h' tk,s2={s with heap:=h',toks:=tk}∧Fe prog w (iW w) h' s.heap.objs.size (λi=>ns.getD i 0) its.size∧(∀b o,s.heap.get? b=some o→h'.get? b=some o)) E) G8.init.plain PySem.F.entry_set_init (check_set_init_1 hT ?_)) λr2 s2 hr2=>?_
   ·obtain⟨ol,hol,hcl,nl,hdl⟩:=hl
    obtain⟨ocls,odict,odata,oslots⟩:=ol
    simp only at hcl hdl
    subst hcl hdl
    have hol':(s.heap.push (iV (iW w))).get? l=some {cls:=.type "list", dict:=odict,data:=.seq its nl,slots:=oslots}:=Heap.get?_push_of_some _ hol
    have q1:=PySem.F.sub_list_set
    have q2:=PySem.F.sub_list_frozenset
    have q3:(Value.type "list" == Value.type "dict")=false:=by decide
    have L1:(s.heap.push (iV (iW w))).IsList l its:=⟨_,hol',rfl,nl,rfl⟩
    unfold Builtin.«set.__init__» noKeywords Builtin.Frozenset.updateFrom
    generalize hPI:pyIter=PI
    wp_walk
    subst hPI
    refine wpAny_pyIter_list L1 (wpAny_bind (wpAny_runValue ?_))
    have lt:=Heap.lt_size hol
    have hh3:A.in1.in1.in1.handled=none:=by simp[hh]
    have ne:l≠(s.heap.push (iV (iW w))).objs.size:=by rw[Heap.size_push];exact C6 (F3 lt)
    have nf:s.heap.objs.size∉[(s.heap.push (iV (iW w))).objs.size,l]:=by
     rw[Heap.size_push]
     intro z
     rcases B8.mp z with z | z
     ·exact absurd z (C6 (K0 _))
     ·exact absurd (C8.mp z) (F6 lt)
    have hval:∀(i:Nat)(v:Value),its[i]?=some v→∃t,v=.int ((λi=>ns.getD i 0) i) t:=λi v hv=>hi.int_at i v (by rw[J1];exact hv)
    refine IW ((Walks.list hh3 _ l ne its).toS) s.heap.objs.size nf (λi=>ns.getD i 0) hval hz (its.size-0) 0 _ (by omega) (J4 _) ⟨⟨_,Heap.get?_push_size _ rfl,rfl,rfl⟩,(L1.push _)⟩ (Ws (iW w) (Heap.get?_push_of_some _ g0)) λs' mv S'=>?_
    obtain⟨h',g',d',tk',os'⟩:=s'
    have eg:g'=s.gens:=mv.gens
    have ed:d'=s.drawn:=mv.drawn
    have eo:os'=s.os:=mv.os
    subst eg ed eo
    show wpAny _ _ _ _ _ _
    refine wpAny_pure ?_
    show wpAny _ _ (ret Value.none) _ _ _
    refine wpAny_pure ⟨rfl,h',tk',rfl,S',λb o e=>?_⟩
    have lb:=Heap.lt_size e
    refine mv.heap b o (λz=>?_) (Heap.get?_push_of_some _ (Heap.get?_push_of_some _ e))
    rcases B8.mp z with z | z
    ·exact absurd z (C6 lb)
    ·have:=C8.mp z
     rw[Heap.size_push]at this
     exact absurd this (C6 (F3 lb))
   ·cases r2 with
    | error e=>exact hr2
    | ok f2=>
     cases f2 with
     | ret r=>
      obtain⟨rfl,h',tk,rfl,S',kp⟩:=hr2
      repeat (any_goals (first | assumption | wp_step))
      exact h _ _ S' kp
     | _=>exact hr2.elim
  | _=>exact hr.elim
end
end L2


namespace L2
open PySem PySem.Spec PyProof.Rows
theorem Qz:Manifest.owners.lookup (String.ofList ['r','o','t','a','r','e','t','i','_','t','e','s'].reverse)=some Manifest.sig_set_iterator:=by kernel_rfl
theorem dW:Slot "set_iterator" "__next__" "set_iterator.__next__" := Slot.of (owner := "set_iterator") (n := "__next__") (by rw[typeLookup_type,builtinLookup_eq_fast];kernel_rfl) (by decide +kernel) (by decide +kernel) (by decide +kernel) (by first | exact .inl (by decide +kernel) | exact .inr (by decide +kernel)) (by rw[isSubtype_type];kernel_rfl)
theorem mQ:entryFor table "set_iterator.__next__" = some Builtin.«set_iterator.__next__»:=entryFor_of_tree (by kernel_rfl)
theorem mR(a:Value):argsOk "set_iterator.__next__" ⟨[a],[]⟩:=by
 unfold argsOk;rw[signature?_of (id := "set_iterator.__next__") (n:=['_','_','t','x','e','n','_','_']) (o:=['r','o','t','a','r','e','t','i','_','t','e','s']) (by kernel_rfl) Qz];kernel_rfl
theorem Ja:Slot "set_iterator" "__iter__" "set_iterator.__iter__" := Slot.of (owner := "set_iterator") (n := "__iter__") (by rw[typeLookup_type,builtinLookup_eq_fast];kernel_rfl) (by decide +kernel) (by decide +kernel) (by decide +kernel) (by first | exact .inl (by decide +kernel) | exact .inr (by decide +kernel)) (by rw[isSubtype_type];kernel_rfl)
theorem Lq(a:Value):argsOk "set_iterator.__iter__" ⟨[a],[]⟩:=by
 unfold argsOk;rw[signature?_of (id := "set_iterator.__iter__") (n:=['_','_','r','e','t','i','_','_']) (o:=['r','o','t','a','r','e','t','i','_','t','e','s']) (by kernel_rfl) Qz];kernel_rfl
theorem Lr:entryFor table "set_iterator.__iter__" = some Builtin.«dict_keyiterator.__iter__»:=entryFor_alias (id' := "dict_keyiterator.__iter__") (by kernel_rfl) (by first | rfl | decide +kernel | (unfold String.splitOn;simp +decide [String.splitOnAux])) (by decide +kernel) (by kernel_rfl)
theorem Ls:entryFor table "set.__iter__" = some Builtin.«frozenset.__iter__»:=entryFor_alias (id' := "frozenset.__iter__") (by kernel_rfl) rfl (by decide +kernel) (by kernel_rfl)
def Jb(h:Heap)(I:Addr)(f:Value)(i:Nat)(a:Addr)(n ep:Nat):Prop:=∃o,h.get? I=some o∧o.cls=.type "set_iterator" ∧ o.data=.fields #[f,.int (i:Int) 0,.ref a,.int (n:Int) 0,.int (ep:Int) 0]
def Ff(h:Heap)(a:Addr)(es:Array (Int×Value))(ep:Nat)(t:SetTable):Prop:=∃o,h.get? a=some o∧o.cls=.type "set" ∧ o.data=.set es ep t∧t.fits es.size=true
theorem Jb.at_{h h':Heap}{I a:Addr}{f:Value}{i n ep:Nat}(x:Jb h I f i a n ep)(e:∀o,h.get? I=some o→h'.get? I=some o):Jb h' I f i a n ep:=let ⟨o,ho,r⟩:=x;⟨o,e o ho,r⟩
theorem Ff.at_{h h':Heap}{a:Addr}{es:Array (Int×Value)}{ep:Nat}{t:SetTable}(x:Ff h a es ep t)(e:∀o,h.get? a=some o→h'.get? a=some o):Ff h' a es ep t:=let ⟨o,ho,r⟩:=x;⟨o,e o ho,r⟩
section
variable{prog:Program}{w:World}{A:Around}{E:Value→Shared→Prop}{s:Shared}{I a T:Addr}{f:Value}{i n ep:Nat}{es:Array (Int×Value)}{t:SetTable}
theorem Jb.ty(x:Jb s.heap I f i a n ep):s.TypeIs (.ref I) "set_iterator" := let ⟨o,ho,hc,_⟩:=x;⟨o,ho,hc⟩
theorem Ff.ty(x:Ff s.heap a es ep t):s.TypeIs (.ref a) "set" := let ⟨o,ho,hc,_⟩:=x;⟨o,ho,hc⟩
theorem Jc{Q:Value→Shared→Prop}(x:Jb s.heap I f i a n ep)(h:Q (.ref I) s):wpAny (model prog w) A (pyIter (.ref I)) Q E s:=by
 refine wpAny_pyIter_slot x.ty Ja (wpAny_call_entry Ja x.ty Lr ?_ (Lq _))
 show wpAny _ _ (ret (.ref I)) _ _ s
 exact wpAny_pure ⟨_,rfl, "set_iterator", _,x.ty,dW.lookup,h⟩
theorem uY{α:Type}{h1:Heap}{Q0:α→Shared→Prop}{E':Value→Shared→Prop}(hh:A.handled=none)(hQ:∀(v:Value) h',Shared.TypeIs {s with heap:=h'} v "StopIteration" → (∀b o,h1.get? b=some o→h'.get? b=some o)→E' v {s with heap:=h'}) :
  wpAny (model prog w) A.in1 (newExc (.type "StopIteration") [] >>= λe=>(raiseNew e:Sem α)) Q0 E' {s with heap:=h1}:=by
 refine wpAny_bind ?_
 simp only[newExc,newTuple]
 refine wpAny_bind (wpAny_newObj_type (wpAny_bind (m:=firstArgMember _ _) (wpAny_of_eq (a:=Value.none) (by first | rfl | (simp only[firstArgMember];rfl)) (wpAny_newObj_type ?_ (by size_fits)))) (by size_fits))
 simp only[raiseNew]
 refine wpAny_bind (wpAny_handled ?_)
 rw[show A.in1.handled=none from hh]
 refine wpAny_bind (wpAny_pure (wpAny_throw ?_))
 refine hQ (.ref _) _ ?_ λb o e=>Heap.get?_push_of_some _ (Heap.get?_push_of_some _ e)
 exact⟨_,Heap.get?_push_size _ rfl,rfl⟩
theorem Wt{slot nxt:Nat}{x:Value}{Q:Option Value→Shared→Prop}(hit:Jb s.heap I (.int (slot:Int) 0) i a es.size ep)(hs:Ff s.heap a es ep t)
  (hN:∀(Q':Option (Value×Nat)→Shared→Prop) E',Q' (some (x,nxt)) s→wpAny (model prog w) A.in1 (setNext a slot i ep) Q' E' s)
  (hQ:∀h',Jb h' I (.int (nxt:Int) 0) (i+1) a es.size ep→Heap.SameBut I s.heap h'→Q (some x) {s with heap:=h'}):wpAny (model prog w) A (pyNext (.ref I)) Q E s:=by
 obtain⟨o,ho,hc,hd⟩:=id hit
 obtain⟨oa,ha,_,hda,hf⟩:=id hs
 unfold pyNext
 refine wpAny_bind (wpAny_attempt (wpAny_callSpecial?_slot (name:=Str.ofString "__next__") hit.ty dW (wpAny_call_entry dW hit.ty mQ ?_ (mR _))))
 unfold Builtin.«set_iterator.__next__»
 refine wpAny_bind (wpAny_of_eq (a:=(Value.ref I,[])) rfl ?_)
 dsimp only
 refine wpAny_bind (wpAny_fieldsOf ho hd ?_)
 dsimp only
 refine wpAny_bind (wpAny_setEntries_of ha hda hf ?_)
 rw[if_neg (by simp)]
 dsimp only[D2]
 refine wpAny_bind (hN _ _ ?_)
 dsimp only
 refine wpAny_bind (wpAny_setField ho hd (by simp) ?_)
 have g1:=Heap.get?_update_self (Obj.mapFields (·.setIfInBounds 0 (rawInt (nxt:Int)))) ho (Obj.isFreed_of_fields (Obj.data_mapFields hd _))
 have d1:=Obj.data_mapFields hd (·.setIfInBounds 0 (rawInt (nxt:Int)))
 refine wpAny_bind (wpAny_setField g1 d1 (by simp) (wpAny_pure ⟨x,rfl,wpAny_pure (hQ _ ?_ ((Heap.SameBut.update ..).trans (Heap.SameBut.update ..)))⟩))
 refine⟨_,Heap.get?_update_self _ g1 (Obj.isFreed_of_fields (Obj.data_mapFields d1 _)),(Obj.cls_mapFields ..).trans ((Obj.cls_mapFields ..).trans hc),?_⟩
 rw[Obj.data_mapFields d1]
 simp[rawInt]
theorem JB{slot:Nat}{Q:Option Value→Shared→Prop}(hh:A.handled=none)(hit:Jb s.heap I (.int (slot:Int) 0) i a es.size ep)(hs:Ff s.heap a es ep t)
  (hN:∀(Q':Option (Value×Nat)→Shared→Prop) E',Q' none s→wpAny (model prog w) A.in1 (setNext a slot i ep) Q' E' s)
  (hQ:∀h',(∀b o,b≠I→s.heap.get? b=some o→h'.get? b=some o)→Q none {s with heap:=h'}):wpAny (model prog w) A (pyNext (.ref I)) Q E s:=by
 obtain⟨o,ho,hc,hd⟩:=id hit
 obtain⟨oa,ha,_,hda,hf⟩:=id hs
 unfold pyNext
 refine wpAny_bind (wpAny_attempt (wpAny_callSpecial?_slot (name:=Str.ofString "__next__") hit.ty dW (wpAny_call_entry dW hit.ty mQ ?_ (mR _))))
 unfold Builtin.«set_iterator.__next__»
 refine wpAny_bind (wpAny_of_eq (a:=(Value.ref I,[])) rfl ?_)
 dsimp only
 refine wpAny_bind (wpAny_fieldsOf ho hd ?_)
 dsimp only
 refine wpAny_bind (wpAny_setEntries_of ha hda hf ?_)
 rw[if_neg (by simp)]
 dsimp only[D2]
 refine wpAny_bind (hN _ _ ?_)
 dsimp only
 refine wpAny_bind (wpAny_setField ho hd (by simp) ?_)
 refine uY hh λv h' ty kp=>wpAny_bind (wpAny_isInstance ty isSubtype_stop ?_)
 exact wpAny_pure (hQ h' λb o nb e=>kp b o ((Heap.SameBut.update s.heap I _).extBut b o nb e))
theorem Wu{ps:Array Value}{c p:Nat}{tk:Tok}{hx:Int}{x:Value}{oT:Obj}{Q:Option Value→Shared→Prop}(hit:Jb s.heap I (.ref T) i a es.size ep)(hs:Ff s.heap a es ep t)(hT:s.heap.get? T=some oT)(hTd:oT.data=.seq ps c)(hp:ps[i]?=some (.int (p:Int) tk))(he:es[p]?=some (hx,x))
  (hQ:∀h',Jb h' I (.ref T) (i+1) a es.size ep→Heap.SameBut I s.heap h'→Q (some x) {s with heap:=h'}):wpAny (model prog w) A (pyNext (.ref I)) Q E s:=by
 obtain⟨o,ho,hc,hd⟩:=id hit
 obtain⟨oa,ha,_,hda,hf⟩:=id hs
 unfold pyNext
 refine wpAny_bind (wpAny_attempt (wpAny_callSpecial?_slot (name:=Str.ofString "__next__") hit.ty dW (wpAny_call_entry dW hit.ty mQ ?_ (mR _))))
 unfold Builtin.«set_iterator.__next__»
 refine wpAny_bind (wpAny_of_eq (a:=(Value.ref I,[])) rfl ?_)
 dsimp only
 refine wpAny_bind (wpAny_fieldsOf ho hd ?_)
 dsimp only
 refine wpAny_bind (wpAny_setEntries_of ha hda hf ?_)
 rw[if_neg (by simp)]
 dsimp only[D2]
 refine wpAny_bind (wpAny_seqItems hT hTd ?_)
 dsimp only
 rw[hp]
 dsimp only[D2]
 unfold setNextDrawn
 refine wpAny_bind (wpAny_bind (wpAny_setState_of ha hda hf ?_))
 dsimp only
 rw[if_neg (by simp),he]
 dsimp only
 refine wpAny_pure (wpAny_bind (wpAny_setField ho hd (by simp) (wpAny_pure ⟨x,rfl,wpAny_pure (hQ _ ?_ (Heap.SameBut.update ..))⟩)))
 refine⟨_,Heap.get?_update_self _ ho (Obj.isFreed_of_fields (Obj.data_mapFields hd _)),(Obj.cls_mapFields ..).trans hc,?_⟩
 rw[Obj.data_mapFields hd]
 simp[rawInt]
theorem JC{ps:Array Value}{c:Nat}{oT:Obj}{Q:Option Value→Shared→Prop}(hh:A.handled=none)(hit:Jb s.heap I (.ref T) i a es.size ep)(hs:Ff s.heap a es ep t)(hT:s.heap.get? T=some oT)(hTd:oT.data=.seq ps c)(hp:ps[i]?=none)
  (hQ:∀h',(∀b o,b≠I→s.heap.get? b=some o→h'.get? b=some o)→Q none {s with heap:=h'}):wpAny (model prog w) A (pyNext (.ref I)) Q E s:=by
 obtain⟨o,ho,hc,hd⟩:=id hit
 obtain⟨oa,ha,_,hda,hf⟩:=id hs
 unfold pyNext
 refine wpAny_bind (wpAny_attempt (wpAny_callSpecial?_slot (name:=Str.ofString "__next__") hit.ty dW (wpAny_call_entry dW hit.ty mQ ?_ (mR _))))
 unfold Builtin.«set_iterator.__next__»
 refine wpAny_bind (wpAny_of_eq (a:=(Value.ref I,[])) rfl ?_)
 dsimp only
 refine wpAny_bind (wpAny_fieldsOf ho hd ?_)
 dsimp only
 refine wpAny_bind (wpAny_setEntries_of ha hda hf ?_)
 rw[if_neg (by simp)]
 dsimp only[D2]
 refine wpAny_bind (wpAny_seqItems hT hTd ?_)
 dsimp only
 rw[hp]
 dsimp only
 refine wpAny_bind (wpAny_setField ho hd (by simp) ?_)
 have g1:=Heap.get?_update_self (Obj.mapFields (·.setIfInBounds 0 (rawInt 0))) ho (Obj.isFreed_of_fields (Obj.data_mapFields hd _))
 have d1:=Obj.data_mapFields hd (·.setIfInBounds 0 (rawInt 0))
 refine wpAny_bind (wpAny_setField g1 d1 (by simp) ?_)
 refine uY hh λv h' ty kp=>wpAny_bind (wpAny_isInstance ty isSubtype_stop ?_)
 exact wpAny_pure (hQ h' λb o nb e=>kp b o (((Heap.SameBut.update s.heap I _).trans (Heap.SameBut.update _ I _)).extBut b o nb e))
theorem JD{slot:Nat}{Q:Option (Value×Nat)→Shared→Prop}(hb:iW w=false)(hs:Ff s.heap a es ep t)(h:Q (((pickOrder (w.params.setOrder a ep) es)[i]?).map λe=>(e.2,slot)) s):wpAny (model prog w) A (setNext a slot i ep) Q E s:=by
 obtain⟨oa,ha,_,hda,hf⟩:=id hs
 have ft:w.params.followText "set-order" = true:=by simpa using hb
 unfold setNext
 refine wpAny_bind (wpAny_setState_of ha hda hf ?_)
 dsimp only
 unfold setsByText
 refine wpAny_bind (wpAny_bind (wpAny_askSetting (wpAny_pure ?_)))
 dsimp only
 rw[show (model prog w).w.params.followText "set-order" = true from ft,if_pos rfl,if_neg (by simp)]
 unfold setWalk setsByText
 refine wpAny_bind (wpAny_bind (wpAny_setState_of ha hda hf ?_))
 dsimp only
 refine wpAny_bind (wpAny_bind (wpAny_askSetting (wpAny_pure ?_)))
 dsimp only
 rw[show (model prog w).w.params.followText "set-order" = true from ft,if_pos rfl]
 refine wpAny_bind (wpAny_askSetting (wpAny_pure (wpAny_pure ?_)))
 exact h
def pQ(t:SetTable):Nat→Nat
 | 0=>0
 | i+1=>t.place.getD i 0+1
theorem Fg(up:t.place.toList.Pairwise (·<·))(hi:i≤t.place.size):SetTable.below t.place (pQ t i)=i:=by
 obtain⟨b1,b2,b3⟩:=below_at up (pQ t i)
 have mono:∀a b,a<b→b<t.place.size→t.place.getD a 0<t.place.getD b 0:=λa b q q'=>by
  have:=K6.mp up a b (by simp;omega) (by simpa using q') q
  simp only[O0]at this
  simpa[K7,q',show a<t.place.size by omega]using this
 rcases Nat.lt_trichotomy (SetTable.below t.place (pQ t i)) i with z | z | z
 ·cases i with
  | zero=>omega
  | succ i=>
   have h1:=b3 i (by omega) (by omega)
   rw[show pQ t (i+1)=t.place.getD i 0+1 from rfl]at h1
   omega
 ·exact z
 ·have h1:=b2 i z
  cases i with
  | zero=>exact absurd h1 (V9 _)
  | succ i=>
   rw[show pQ t (i+1)=t.place.getD i 0+1 from rfl]at h1
   have:=mono i (i+1) (by omega) (by omega)
   omega
theorem JF{Q:Option (Value×Nat)→Shared→Prop}(hb:iW w=true)(hs:Ff s.heap a es ep t)(hl:Led (iW w) t)(hdr:(!t.plain&&decide (es.size > 1))=false)(hi:i≤es.size)(h:Q ((es[i]?).map λe=>(e.2,pQ t (i+1))) s):wpAny (model prog w) A (setNext a (pQ t i) i ep) Q E s:=by
 obtain⟨oa,ha,_,hda,hf⟩:=id hs
 have ft:w.params.followText "set-order" = false:=by simpa using hb
 have hz:t.place.size=es.size:=by
  simp only[SetTable.fits,D5,beq_iff_eq]at hf
  exact hf.1
 have up:t.place.toList.Pairwise (·<·):=by
  cases e:t.plain with
  | true=>exact(hl.2 e).1
  | false=>
   rw[e]at hdr
   have:es.size≤1:=by simpa using hdr
   match h:t.place.toList with
   | []=>exact .nil
   | [x]=>simp
   | x::y::r=>
    have:=congrArg List.length h
    simp at this
    omega
 unfold setNext
 refine wpAny_bind (wpAny_setState_of ha hda hf ?_)
 dsimp only
 unfold setsByText
 refine wpAny_bind (wpAny_bind (wpAny_askSetting (wpAny_pure ?_)))
 dsimp only
 rw[show (model prog w).w.params.followText "set-order" = false from ft,if_neg (by simp)]
 refine wpAny_ite_split (λq=>?_) λ_=>?_
 ·exfalso
  have q':(!t.plain&&decide (es.size > 1))=true:=q
  rw[hdr]at q'
  cases q'
 ·refine wpAny_bind ?_
  refine wpAny_ite_split (λq=>?_) λ_=>wpAny_pure ?_
  ·exfalso
   have:t.led=true:=by rw[hl.1,hb]
   rw[this]at q
   simp at q
  ·rw[Fg up (by omega)]
   refine wpAny_pure ?_
   rcases G7 i es.size with z | z
   ·rw[G4 z]at h ⊢
    rw[G4 (by omega)]
    have e:t.place[i]'(by omega)=t.place.getD i 0:=by simp[K7,show i<t.place.size by omega]
    simpa[pQ,e]using h
   ·rw[R4 z]at h ⊢
    exact h
end
end L2


namespace L2
open PySem PySem.Spec PyProof.Rows
section
variable{prog:Program}{w:World}{A:Around}{E:Value→Shared→Prop}{s:Shared}{I a T:Addr}{f:Value}{i n ep:Nat}{es:Array (Int×Value)}{t:SetTable}
theorem Wv{M:Model}{src:Source}{m:Nat}{Q:Nat→Shared→Prop}(hm:m≠0)(h:∀i dr,i<m→Q i {s with drawn:=dr}):wpAny M A (choose src m) Q E s:=λ_ _ _=>⟨hm,h _ _ (Nat.mod_lt _ (Nat.pos_of_ne_zero hm))⟩
theorem xV{M:Model}{α:Type}:∀(m:Nat)(xs:List α)(s:Shared)(Q:List α→Shared→Prop),xs.length=m→(∀ys dr,ys.Perm xs→Q ys {s with drawn:=dr})→wpAny M A (drawOrder m xs) Q E s
 | 0,xs,s,Q,hn,h=>by
  have:xs=[]:=J7 hn
  subst this
  unfold drawOrder
  exact wpAny_pure (h [] s.drawn (O5 _))
 | m+1,[],s,Q,hn,h=>absurd hn (by simp)
 | m+1,x::xs,s,Q,hn,h=>by
  unfold drawOrder
  refine wpAny_bind (Wv (by simp) λi dr hi=>?_)
  rw[B5 hi]
  dsimp only
  refine wpAny_bind (xV m ((x::xs).eraseIdx i) _ _ (by rw[O7 hi];omega) λys jo pm=>wpAny_pure ?_)
  exact h _ jo ((pm.cons _).trans (oR _ _ hi))
def Ord(S:Int→Bool)(n:Nat)(ord:List Value):Prop:=ord.length=n∧∃ns,IntsAre ord ns∧∀k,S k=true↔k∈ns
theorem Fi{S:Int→Bool}{l:List (Int×Value)}{ord:List Value}(hel:ElemsOf (intKind prog w) l)(hm:∀k,S k=true↔∃e∈l,(intKind prog w).is k e.2=true)(hn:l.length=n)(pm:ord.Perm (l.map (·.2))):Ord S n ord:=by
  refine⟨by rw[pm.length_eq,A9,hn],?_⟩
  have allI:∀v∈ord,∃k t,v=Value.int k t:=λv hv=>by
    obtain⟨e,he,rfl⟩:=G6.mp (pm.mem_iff.mp hv)
    obtain⟨⟨k,hk,_⟩,_⟩:=hel e he
    obtain⟨t,ht⟩:=Value.isInt_shape hk
    exact⟨k,t,ht⟩
  have mk:∀vs:List Value,(∀v∈vs,∃k t,v=Value.int k t)→∃ns,IntsAre vs ns∧∀k,k∈ns↔∃t,Value.int k t∈vs:=by
    intro vs
    induction vs with
    | nil=>exact λ_=>⟨[],.nil,λk=>by simp⟩
    | cons v vs ih=>
      intro hv
      obtain⟨ns,h1,h2⟩:=ih λv q=>hv v (B7 _ q)
      obtain⟨k,t,rfl⟩:=hv v C4
      refine⟨k::ns,.cons k t h1,λj=>?_⟩
      rw[B8,h2]
      constructor
      · rintro(rfl | ⟨t',q⟩)
        · exact⟨t,C4⟩
        · exact⟨t',B7 _ q⟩
      · rintro⟨t',q⟩
        rcases B8.mp q with q | q
        · injection q with q
          exact .inl q
        · exact .inr ⟨t',q⟩
  obtain⟨ns,h1,h2⟩:=mk ord allI
  refine⟨ns,h1,λk=>?_⟩
  rw[hm,h2]
  constructor
  · rintro⟨e,he,hk⟩
    obtain⟨t,ht⟩:=Value.isInt_shape hk
    exact⟨t,pm.mem_iff.mpr (G6.mpr ⟨e,he,ht⟩)⟩
  · rintro⟨t,q⟩
    obtain⟨e,he,q⟩:=G6.mp (pm.mem_iff.mp q)
    exact⟨e,he,by rw[q];exact intKind_is _ _ _ _⟩
theorem uZ(hh:A.handled=none)(ne:a≠I){slot:Nat→Nat}{ord:List Value}(hz:ord.length=es.size)
  (hN:∀(s:Shared)(i:Nat)(Q':Option (Value×Nat)→Shared→Prop) E',i≤es.size→Ff s.heap a es ep t→Q' ((ord[i]?).map λv=>(v,slot (i+1))) s→wpAny (model prog w) A.in1 (setNext a (slot i) i ep) Q' E' s) :
  Walks prog w A I [I,a] [I] es.size (λi v=>ord[i]?=some v) (λi h=>Jb h I (.int (slot i:Int) 0) i a es.size ep∧Ff h a es ep t) where
 sub:=λb hb=>by simp at hb;simp[hb]
 frame:=λ_ _ _ x kp=>⟨x.1.at_ λo e=>kp I (by simp) o e,x.2.at_ λo e=>kp a (by simp) o e⟩
 item:=λi s Q E hi x hQ=>by
  have e:ord[i]?=some (ord[i]'(by omega)):=B5 (by omega)
  refine Wt (x:=ord[i]'(by omega)) (nxt:=slot (i+1)) x.1 x.2 (λQ' E' q=>hN s i Q' E' (by omega) x.2 (by rw[e];exact q)) λh' st sb=>?_
  exact hQ _ h' s.toks e ⟨st,x.2.at_ λo eo=>sb.extBut a o ne eo⟩ λb o hb eo=>sb.extBut b o (λz=>hb (by simp[z])) eo
 done:=λs Q E x hQ=>JB hh x.1 x.2 (λQ' E' q=>hN s es.size Q' E' (B6 _) x.2 (by rw[D8 (by omega)];exact q)) λh' kp=>hQ h' s.toks λb o hb e=>kp b o (λz=>hb (by simp[z])) e
 self:=λ_ _ _ _ x hQ=>Jc x.1 hQ
theorem Fj(hh:A.handled=none)(ne:a≠I)(neT:T≠I){ps:List Nat}(hz:ps.length=es.size)(hp:∀p∈ps,p<es.size) :
  Walks prog w A I [I,a,T] [I] es.size (λi v=>(ps.map λp=>(es.getD p (0,.none)).2)[i]?=some v) (λi h=>Jb h I (.ref T) i a es.size ep∧Ff h a es ep t∧∃o c,h.get? T=some o∧o.data=.seq (ps.map λ(p:Nat)=>rawInt p).toArray c) where
 sub:=λb hb=>by simp at hb;simp[hb]
 frame:=λ_ _ _ x kp=>⟨x.1.at_ λo e=>kp I (by simp) o e,x.2.1.at_ λo e=>kp a (by simp) o e,let ⟨o,c,ho,hd⟩:=x.2.2;⟨o,c,kp T (by simp) o ho,hd⟩⟩
 item:=λi s Q E hi x hQ=>by
  obtain⟨h1,h2,oT,c,hT,hTd⟩:=x
  have lt:i<ps.length:=by omega
  have lp:=hp ps[i] (V2 lt)
  refine Wu (p:=ps[i]) (tk:=0) (hx:=es[ps[i]].1) (x:=es[ps[i]].2) h1 h2 hT hTd (by simp[lt,rawInt]) (by rw[G4 lp]) λh' st sb=>?_
  exact hQ _ h' s.toks (by simp[lt,K7,lp]) ⟨st,h2.at_ λo eo=>sb.extBut a o ne eo,oT,c,sb.extBut T oT neT hT,hTd⟩ λb o hb eo=>sb.extBut b o (λz=>hb (by simp[z])) eo
 done:=λs Q E x hQ=>by
  obtain⟨h1,h2,oT,c,hT,hTd⟩:=x
  exact JC hh h1 h2 hT hTd (by simp[hz]) λh' kp=>hQ h' s.toks λb o hb e=>kp b o (λz=>hb (by simp[z])) e
 self:=λ_ _ _ _ x hQ=>Jc x.1 hQ
theorem Ra{S:Int→Bool}{Q:Value→Shared→Prop}(hh:A.handled=none)(hs:oU prog w (iW w) s.heap a S n)
    (h:∀(h1:Heap)(dr:Drawn)(I:Addr)(fp:List Addr)(ord:List Value)(St:Nat→Heap→Prop),(∀b o,s.heap.get? b=some o→h1.get? b=some o)→Walks prog w A I fp [I] n (λi v=>ord[i]?=some v) St→St 0 h1→(∀x∈fp,x=a∨s.heap.objs.size≤x)→s.heap.objs.size≤I→Ord S n ord→Q (.ref I) {s with heap:=h1,drawn:=dr}) :
    wpAny (model prog w) A (pyIter (.ref a)) Q E s:=by
  obtain⟨o,es,ep,t,ho,hex,hd,hel,hm,hz,hf,hn,hl⟩:=hs
  have sat:Ff s.heap a es ep t:=⟨o,ho,hex.1,hd,hf⟩
  have lt:=Heap.lt_size ho
  subst hn
  refine wpAny_pyIter_slot sat.ty R8 (wpAny_call_entry R8 sat.ty Ls ?_ (PySem.F.args_set_iter_1 _))
  unfold Builtin.«frozenset.__iter__» Builtin.Frozenset.slot0
  refine wpAny_bind (wpAny_bind (wpAny_of_eq (a:=(Value.ref a,[])) rfl ?_))
  unfold Builtin.Frozenset.addrOf Builtin.Frozenset.sizeOf
  refine wpAny_pure (wpAny_bind (wpAny_bind (wpAny_setEntries_of ho hd hf (wpAny_pure ?_))))
  unfold setDrawn setsByText
  refine wpAny_bind (wpAny_bind (wpAny_setState_of ho hd hf ?_))
  dsimp only
  refine wpAny_bind (wpAny_bind (wpAny_askSetting (wpAny_pure ?_)))
  refine wpAny_pure ?_
  refine wpAny_ite_split (λc=>?_) λc=>?_
  · have c':(iW w&&(!t.plain&&decide (es.size > 1)))=true:=c
    rw[D5]at c'
    refine wpAny_bind (xV es.size (D3 es.size) s _ (by simp) λps dr pm=>?_)
    have fj:ps.length=es.size:=by rw[pm.length_eq,G3]
    have hp:∀p∈ps,p<es.size:=λp hp=>L9.mp (pm.mem_iff.mp hp)
    refine wpAny_bind (wpAny_newTuple ?_ (by rw[A9,fj];exact fits_of_scanBound hz))
    have g1:(s.heap.push {cls:=.type "tuple", data:=.seq (ps.map λ(i:Nat)=>rawInt i).toArray}).get? a=some o:=Heap.get?_push_of_some _ ho
    refine wpAny_bind (wpAny_setEpoch_of g1 hd hf ?_)
    refine wpAny_bind (wpAny_newObj_type (wpAny_pure ⟨_,rfl, "set_iterator", _,⟨_,Heap.get?_push_size _ rfl,rfl⟩,dW.lookup,?_⟩))
    refine h _ dr _ _ (ps.map λp=>(es.getD p (0,.none)).2) _ (λb o e=>Heap.get?_push_of_some _ (Heap.get?_push_of_some _ e)) (Fj (T:=s.heap.objs.size) (t:=t) (ep:=ep) hh ?_ ?_ fj hp) ⟨⟨_,Heap.get?_push_size _ rfl,rfl,rfl⟩,sat.at_ λo e=>Heap.get?_push_of_some _ (Heap.get?_push_of_some _ e),_,_,Heap.get?_push_of_some _ (Heap.get?_push_size _ rfl),rfl⟩ ?_ ?_ ?_
    · show a≠(s.heap.push _).objs.size
      rw[Heap.size_push]
      exact C6 (F3 lt)
    · show s.heap.objs.size≠(s.heap.push _).objs.size
      rw[Heap.size_push]
      exact C6 (K0 _)
    · intro x hx
      rcases B8.mp hx with z | z
      · rw[z]
        show _∨s.heap.objs.size≤(s.heap.push _).objs.size
        rw[Heap.size_push]
        exact .inr (D7 _)
      · rcases B8.mp z with z | z
        · exact .inl z
        · rw[C8.mp z]
          exact .inr (B6 _)
    · show s.heap.objs.size≤(s.heap.push _).objs.size
      rw[Heap.size_push]
      exact D7 _
    · refine Fi (prog:=prog) (w:=w) hel hm (by simp) ?_
      have e:es.toList.map (·.2)=(D3 es.size).map λp=>(es.getD p (0,.none)).2:=by
        refine P5 (by simp) λk k1 k2=>?_
        simp at k1
        simp[K7,k1]
      rw[e]
      exact pm.map _
  · refine wpAny_bind (wpAny_pure ?_)
    refine wpAny_bind (wpAny_setEpoch_of ho hd hf ?_)
    refine wpAny_bind (wpAny_newObj_type (wpAny_pure ⟨_,rfl, "set_iterator", _,⟨_,Heap.get?_push_size _ rfl,rfl⟩,dW.lookup,?_⟩))
    have ne:a≠s.heap.objs.size:=C6 lt
    have fp':∀x∈[s.heap.objs.size,a],x=a∨s.heap.objs.size≤x:=λx hx=>by
      rcases B8.mp hx with z | z
      · exact .inr (Nat.le_of_eq z.symm)
      · exact .inl (C8.mp z)
    cases hb:iW w with
    | false=>
      have pm:=Lp (w.params.setOrder a ep) es
      refine h _ s.drawn _ _ ((pickOrder (w.params.setOrder a ep) es).toList.map (·.2)) _ (λb o e=>Heap.get?_push_of_some _ e) (uZ (t:=t) (ep:=ep) (slot:=λ_=>0) hh ne (by rw[A9,pm.length_eq,F2]) λs i Q' E' hi x q=>?_) ⟨⟨_,Heap.get?_push_size _ rfl,rfl,rfl⟩,sat.at_ λo e=>Heap.get?_push_of_some _ e⟩ fp' (B6 _) (Fi (prog:=prog) (w:=w) hel hm (by simp) (pm.map _))
      refine JD hb x ?_
      rw[C3,J1,W6]at q
      exact q
    | true=>
      have c':(!t.plain&&decide (es.size > 1))=false:=by
        have c2:¬(iW w&&(!t.plain&&decide (es.size > 1)))=true:=c
        rw[hb,Bool.true_and]at c2
        simpa using c2
      refine h _ s.drawn _ _ (es.toList.map (·.2)) _ (λb o e=>Heap.get?_push_of_some _ e) (uZ (t:=t) (ep:=ep) (slot:=pQ t) hh ne (by simp) λs i Q' E' hi x q=>?_) ⟨⟨_,Heap.get?_push_size _ rfl,rfl,rfl⟩,sat.at_ λo e=>Heap.get?_push_of_some _ e⟩ fp' (B6 _) (Fi (prog:=prog) (w:=w) hel hm (by simp) (O5 _))
      refine JF hb x hl c' hi ?_
      rw[C3,J1,W6]at q
      exact q
end
end L2


namespace L2
open PySem PySem.Spec PySem.Calls PyProof.Rows PyProof.V
section
variable{prog:Program}{w:World}{A:Around}{E:Value→Shared→Prop}{s:Shared}{I a T:Addr}{n:Nat}{S:Int→Bool}
theorem Rb{Q:Bool→Shared→Prop}(hT:s.TypeIs (.ref a) "set") (h:Q false s):wpAny (model prog w) A (Builtin.List.listLengthHint (.ref a)) Q E s:=by
 unfold Builtin.List.listLengthHint
 refine wpAny_bind (wpAny_specialOf hT PySem.F.slot_set_len.lookup ?_)
 generalize hid:("set.__len__" : String)=id0
 wp_delta
 rw[show splitId id0=some ("set", "__len__")from by subst hid;decide +kernel]
 subst hid
 refine wpAny_bind (wpAny_isInstance (T := "set") (b:=true) hT (by rw[isSubtype_type];kernel_rfl) (wpAny_ite_split (λz=>absurd z (by decide)) λ_=>wpAny_ite_split (λ_=>?_) λz=>absurd (by decide +kernel) z))
 exact wpAny_bind (wpAny_typeOf hT (wpAny_pure h))
theorem Ww{R:Result→Shared→Prop}(hh:A.handled=none)(hs:oU prog w (iW w) s.heap a S n)(hz:n≤sizeLine)(L:Addr)(ne:L≠a)(hL:s.heap.get? L=some {cls:=.type "list", data:=.seq #[] 0})
    (hR:∀h' dr tk acc c,(∀b o,b≠L→s.heap.get? b=some o→h'.get? b=some o)→h'.get? L=some {cls:=.type "list", dict:=none,data:=.seq acc c,slots:=#[]}→Ord S n acc.toList→R (.ok (.ret (.ref L))) {s with heap:=h',drawn:=dr,toks:=tk}) :
    wpAny (model prog w) A.in1 (Builtin.List.listExtendWith (.ref L) (.ref a) (.ref L)) (λfin s'=>match fin with | .done f=>R (.ok f) s' | .again c'=>c'.quiet=true∧codeAny (model prog w) A c' R s') (λe s'=>R (.error e) s') s:=by
  have lt:L<s.heap.objs.size:=Heap.lt_size hL
  have ty:s.TypeIs (.ref a) "set" := let ⟨o,_,_,_,ho,hex,_⟩:=hs;⟨o,ho,hex.1⟩
  unfold Builtin.List.listExtendWith
  refine wpAny_bind (wpAny_typeOf (T := "set") ty ?_)
  have h1:Builtin.List.listSameRef (.ref L) (.ref a)=false:=by simp[Builtin.List.listSameRef,ne]
  have h2:(Value.type "set" == Value.type "list")=false:=by decide
  have h3:(Value.type "set" == Value.type "tuple")=false:=by decide
  simp only[h1,h2,h3,S7,L6,if_false]
  refine wpAny_bind (Ra (A:=A.in1) hh hs λh0 dr I fp ord St kp W st jq lI od=>?_)
  have hL1:=kp _ _ hL
  have nf:L∉fp:=λz=>by
    rcases jq L z with z | z
    · exact ne z
    · exact absurd lt (Nat.not_lt.mpr z)
  have nI:∀b o,s.heap.get? b=some o→b≠I:=λb o e=>C6 (B0 (Heap.lt_size e) lI)
  have key:∀(h:Heap)(c1 tk:Nat),St 0 h→(∀b o,b≠L→s.heap.get? b=some o→h.get? b=some o)→h.get? L=some {cls:=.type "list", data:=.seq #[] c1}→codeAny (model prog w) A (.builtin "list.extend.loop" ⟨[.ref L,.ref I,.ref L],[]⟩) R {s with heap:=h,drawn:=dr,toks:=tk}:=by
    intro h c1 tk st0 k0 g0
    refine codeAny_extend_loopS W.toS hz L nf (.ref L) n 0 _ #[] c1 rfl (J4 _) st0 g0 (ItemsOf.nil _) λs' acc c mv g' it=>?_
    rw[Moved.eq_with mv]
    refine hR s'.heap dr s'.toks acc c (λb o nb e=>mv.heap b o (λz=>?_) (k0 b o nb e)) g' ?_
    · rcases B8.mp z with z | z
      · exact nb z
      · exact nI b o e (C8.mp z)
    · have e:acc.toList=ord:=by
        refine K3 λj=>?_
        rcases G7 j acc.size with z | z
        · have e1:acc[j]?=some acc[j]:=G4 z
          rw[J1,e1,it.2 j _ e1]
        · rw[D8 (by simpa using z),D8 (by have:=it.1;have:=od.1;omega)]
      rw[e]
      exact od
  refine wpAny_bind (wpAny_holding (Rb (hT:=let ⟨o,ho,hc⟩:=ty;⟨o,kp _ _ ho,hc⟩) ?_))
  refine wpAny_ite_split (λ_=>?_) λ_=>wpAny_pure ⟨plainId_quiet K8 _,key _ 0 _ st (λb o _ e=>kp b o e) hL1⟩
  refine wpAny_bind (wpAny_rule (wpAny_bind ?_))
  show wpAny _ _ (updateSeq L (·.push .none) >>= λ_=>updateSeq L (·.pop)) _ _ _
  refine wpAny_bind (wpAny_updateSeq hL1 rfl ?_)
  have g2:=Heap.get?_update_self (Obj.mapSeq (·.push Value.none)) hL1 rfl
  refine wpAny_updateSeq (hz:=by seq_fits) g2 rfl ?_
  have g3:=Heap.get?_update_self (Obj.mapSeq (·.pop)) g2 rfl
  refine wpAny_pure ⟨plainId_quiet K8 _,key _ _ _ (W.frame 0 _ _ st λb hb o e=>?_) (λb o hb e=>?_) g3⟩
  · have nb:b≠L:=λz=>nf (z▸hb)
    exact(Heap.get?_update_other _ _ (Ne.symm nb)).trans ((Heap.get?_update_other _ _ (Ne.symm nb)).trans e)
  · exact(Heap.get?_update_other _ _ (Ne.symm hb)).trans ((Heap.get?_update_other _ _ (Ne.symm hb)).trans (kp b o e))
theorem Cj{R:List Value→Shared→Prop}(hh:A.handled=none)(hs:oU prog w (iW w) s.heap a S n)(hz:n≤sizeLine)
  (h:∀(h':Heap)(dr:Drawn)(tk:Nat)(acc:List Value),(∀b o,s.heap.get? b=some o→h'.get? b=some o)→Ord S n acc→R acc {s with heap:=h',drawn:=dr,toks:=tk}):wpAny (model prog w) A (collect (.ref a)) R E s:=by
 have lt:a<s.heap.objs.size:=let ⟨o,_,_,_,ho,_⟩:=hs;Heap.lt_size ho
 unfold collect
 refine wpAny_bind (wpAny_runValue (codeAny_builtin entry_proto_collect' ?_))
 rw[Around.under_plainId PySem.F.plain_proto_collect _]
 show wpAny _ A.in1 (newList [] >>= λl=>again (.builtin "list.__iadd__" ⟨[l,.ref a],[]⟩)) _ _ s
 refine wpAny_bind (wpAny_newObj_type (wpAny_pure ⟨plainId_quiet Q5 _,codeAny_builtin entry_list_iadd' ?_⟩))
 rw[Around.under_plainId Q5 _]
 have g1:(s.heap.push {cls:=.type "list", data:=.seq ([]:List Value).toArray}).get? s.heap.objs.size=some {cls:=.type "list", data:=.seq #[]}:=Heap.get?_push_size _ rfl
 show wpAny _ A.in1 (Builtin.List.listExtendWith (.ref s.heap.objs.size) (.ref a) (.ref s.heap.objs.size)) _ _ _
 have key:=Ww (A:=A) (s:={s with heap:=s.heap.push {cls:=.type "list", data:=.seq ([]:List Value).toArray}})
  (R:=λ(q:Result) (s':Shared)=>∃(h':Heap)(dr:Drawn)(tk:Nat)(acc:Array Value)(c:Nat),q=.ok (.ret (.ref s.heap.objs.size))∧s'={s with heap:=h',drawn:=dr,toks:=tk}∧(∀b o,s.heap.get? b=some o→h'.get? b=some o)∧h'.get? s.heap.objs.size=some {cls:=.type "list", dict:=none,data:=.seq acc c,slots:=#[]}∧Ord S n acc.toList)
  hh (hs.at_ λo e=>Heap.get?_push_of_some _ e) hz s.heap.objs.size (F6 lt) g1 λh' dr tk acc c kp g od=>⟨h',dr,tk,acc,c,rfl,rfl,λb o e=>kp b o (C6 (Heap.lt_size e)) (Heap.get?_push_of_some _ e),g,od⟩
 refine wpAny_mono key (λfin s' x=>?_) λe s' x=>?_
 ·cases fin with
  | done f=>
   obtain⟨h',dr,tk,acc,c,e,rfl,kp,g,od⟩:=x
   cases e
   show wpAny _ A (load s.heap.objs.size >>= _) _ _ _
   exact wpAny_bind (wpAny_load g (wpAny_pure (h h' dr tk acc.toList kp od)))
  | again c1=>
   refine⟨x.1,codeAny_mono x.2 λq s2 y=>?_⟩
   obtain⟨h',dr,tk,acc,c,rfl,rfl,kp,g,od⟩:=y
   show wpAny _ A (load s.heap.objs.size >>= _) _ _ _
   exact wpAny_bind (wpAny_load g (wpAny_pure (h h' dr tk acc.toList kp od)))
 ·obtain⟨_,_,_,_,_,e',_⟩:=x
  cases e'
end
end L2


namespace L2
open PySem PySem.Spec PySem.Calls PyProof.Rows PyProof.V
def vA(k:Int):List Int→List Int
 | []=>[k]
 | a::l=>if k<a then k::a::l else if k=a then a::l else a::vA k l
theorem vB(k j:Int):∀l:List Int,j∈vA k l↔j=k∨j∈l
  | []=>by simp[vA]
  | a::l=>by
    unfold vA
    split
    · simp
    · split
      · rename_i e
        subst e
        simp
      · rw[B8,vB k j l,B8]
        constructor
        · rintro(h | h | h)
          · exact .inr (.inl h)
          · exact .inl h
          · exact .inr (.inr h)
        · rintro(h | h | h)
          · exact .inr (.inl h)
          · exact .inl h
          · exact .inr (.inr h)
theorem Jd(k:Int):∀l:List Int,l.Pairwise (·<·)→(vA k l).Pairwise (·<·)
 | [],_=>by simp[vA]
 | a::l,h=>by
  obtain⟨h1,h2⟩:=F8.mp h
  unfold vA
  split
  ·rename_i c
   refine F8.mpr ⟨λx hx=>?_,h⟩
   rcases B8.mp hx with z | z
   ·omega
   ·have:=h1 x z
    omega
  ·split
   ·exact h
   ·refine F8.mpr ⟨λx hx=>?_,Jd k l h2⟩
    rcases(vB k x l).mp hx with z | z
    ·omega
    ·exact h1 x z
def Lw:List Int→List Int
 | []=>[]
 | a::l=>vA a (Lw l)
theorem Aa(j:Int):∀ns:List Int,j∈Lw ns↔j∈ns
 | []=>Iff.rfl
 | a::l=>by
  rw[Lw,vB,Aa j l,B8]
theorem Fo:∀ns:List Int,(Lw ns).Pairwise (·<·)
 | []=>.nil
 | a::l=>Jd a _ (Fo l)
theorem JG{ns ms:List Int}(h:ms.Pairwise (·<·))(m:∀k,k∈ms↔k∈ns):ms=Lw ns:=nU h (Fo ns) λj=>(m j).trans (Aa j ns).symm
theorem Ck(k:Int):∀l:List Int,(vA k l).length≤l.length+1
 | []=>by simp[vA]
 | a::l=>by
  unfold vA
  split
  ·simp
  ·split
   ·simp
   ·have:=Ck k l
    simp only[G5]
    omega
theorem Je:∀ns:List Int,(Lw ns).length≤ns.length
 | []=>B6 _
 | a::l=>by
  have:=Ck a (Lw l)
  have:=Je l
  simp only[Lw,G5]
  omega
theorem vC{α:Type} [DecidableEq α]:∀{l m:List α},l.Nodup→(∀x∈l,x∈m)→m.length≤l.length→l.Perm m
 | [],m,_,_,h=>by
  have:m=[]:=J7 (by simpa using h)
  subst this
  exact O5 _
 | a::l,m,hn,hs,hl=>by
  obtain⟨h1,h2⟩:=J5.mp hn
  have ha:=hs a C4
  have e:=List.perm_cons_erase ha
  refine List.Perm.trans (List.Perm.cons a (vC h2 (λx hx=>?_) ?_)) e.symm
  ·have ne:x≠a:=λz=>by
    rw[z]at hx
    exact h1 hx
   exact(List.mem_erase_of_ne ne).mpr (hs x (B7 _ hx))
  ·rw[List.length_erase_of_mem ha]
   simp only[G5]at hl
   omega
theorem gU(val:Nat→Int):∀i,(firstMet val i).Nodup
 | 0=>by rw[firstMet_zero];exact O4
 | i+1=>by
  rw[firstMet_succ]
  unfold step_dedup
  have ih:=gU val i
  split
  ·exact ih
  ·rename_i c
   refine U4.mpr ⟨ih,by simp,λx hx y hy=>?_⟩
   rw[C8.mp hy]
   intro z
   subst z
   exact c (P9.mpr ⟨_,hx,by simp⟩)
theorem Lx{ns ks ms:List Int}(hk:∀k,(firstMet (λi=>ns.getD i 0) ns.length).any (·==k)=true↔k∈ks)(hl:ks.length=(firstMet (λi=>ns.getD i 0) ns.length).length)(hm:ms.Perm ks)(hs:ms.Pairwise (·≤·)):ms=Lw ns:=by
 have hmem:∀k,k∈ks↔k∈ns:=λk=>by
  rw[←hk,firstMet_any]
  have e:(D3 ns.length).map (λi=>ns.getD i 0)=ns:=by
   refine P5 (by simp) λi h1 h2=>?_
   simp[D6,h2]
  rw[e,P9]
  exact⟨λ⟨x,hx,q⟩=>by rw[←(beq_iff_eq.mp q)];exact hx,λh=>⟨k,h,by simp⟩⟩
 have nd:ks.Nodup:=by
  have p:=vC (gU (λi=>ns.getD i 0) ns.length) (m:=ks) (λx hx=>(hk x).mp (P9.mpr ⟨x,hx,by simp⟩)) (by omega)
  exact p.nodup_iff.mp (gU _ _)
 refine JG ?_ λk=>(hm.mem_iff).trans (hmem k)
 have jr:=hm.nodup_iff.mpr nd
 exact(hs.and jr).imp λq=>by have:=q.1;have:=q.2;omega
section
variable{X:Cx}{e:Expr}{t:TE}{x y:Str}{p p2 pos pos2:Pos}
theorem Wx{T id:String}{r:V→Hp→VK→Prop}(hc:∀(pins:List (Addr×Obj))(s:Shared)(σ:St)(H:Hp)(v:V)(u:Value)(Q:VK),Inv X pins σ H s→RelV v u→r v H Q→wpAny (model X.prog X.w) X.A (call (.type T) [u]) (λu' s'=>wpAny (model X.prog X.w) X.A (call (.builtin id) [u']) (EP X pins σ Q) X.xe s') X.xe s)
  (ha:PE X e t) (hg:Gl X x) (hm:X.mg x=none) (hv:bootBuiltins x=some (.builtin id)) (hg2:Gl X y) (hm2:X.mg y=none) (hv2:bootBuiltins y=some (.type T)) (hn:x ≠ "__name__" := by decide) (hdb:(x==("__debug__" : Str))=false:=by decide) (hn2:y ≠ "__name__" := by decide) (Fq:(y==("__debug__" : Str))=false:=by decide)
  (he:starEach [e] X.env=[(false,eval e X.env)]:=by rfl) (he2:starEach [.Call (.Name y p2) [e] [] pos2] X.env=[(false,eval (.Call (.Name y p2) [e] [] pos2) X.env)]:=by rfl) :
  PE X (.Call (.Name x p) [.Call (.Name y p2) [e] [] pos2] [] pos) (UT r t):=by
 intro pins s σ H Q I h
 refine wpAny_Call_Name_kw (kZ I hg hm hv ?_ hn hdb)
 refine N9 ?_ he2 rfl
 rw[he2]
 refine Calls.spliced_cons (wpAny_Call_Name_kw (kZ I hg2 hm2 hv2 ?_ hn2 Fq))
 refine I0 ?_ he rfl
 rw[he]
 exact Calls.spliced_cons (cJ (ha pins s σ H _ I h) λu s1 ⟨v,H1,I1,r1,q1⟩=>Calls.spliced_nil (cJ (hc pins s1 σ H1 v u Q I1 r1 q1) λu' s' z=>Calls.spliced_nil z))
theorem Wy{T id:String}{r:V→Hp→VK→Prop}(hc:∀(pins:List (Addr×Obj))(s:Shared)(σ:St)(H:Hp)(v:V)(u:Value)(Q:VK),Inv X pins σ H s→RelV v u→r v H Q→wpAny (model X.prog X.w) X.A (call (.type T) [u]) (λu' s'=>wpAny (model X.prog X.w) X.A (call (.type id) [u']) (EP X pins σ Q) X.xe s') X.xe s)
  (ha:PE X e t) (hg:Gl X x) (hm:X.mg x=none) (hv:bootBuiltins x=some (.type id)) (hg2:Gl X y) (hm2:X.mg y=none) (hv2:bootBuiltins y=some (.type T)) (hn:x ≠ "__name__" := by decide) (hdb:(x==("__debug__" : Str))=false:=by decide) (hn2:y ≠ "__name__" := by decide) (Fq:(y==("__debug__" : Str))=false:=by decide)
  (he:starEach [e] X.env=[(false,eval e X.env)]:=by rfl) (he2:starEach [.Call (.Name y p2) [e] [] pos2] X.env=[(false,eval (.Call (.Name y p2) [e] [] pos2) X.env)]:=by rfl) :
  PE X (.Call (.Name x p) [.Call (.Name y p2) [e] [] pos2] [] pos) (UT r t):=by
 intro pins s σ H Q I h
 refine wpAny_Call_Name_kw (kZ I hg hm hv ?_ hn hdb)
 refine I0 ?_ he2 rfl
 rw[he2]
 refine Calls.spliced_cons (wpAny_Call_Name_kw (kZ I hg2 hm2 hv2 ?_ hn2 Fq))
 refine I0 ?_ he rfl
 rw[he]
 exact Calls.spliced_cons (cJ (ha pins s σ H _ I h) λu s1 ⟨v,H1,I1,r1,q1⟩=>Calls.spliced_nil (cJ (hc pins s1 σ H1 v u Q I1 r1 q1) λu' s' z=>Calls.spliced_nil z))
theorem Inv.drew{pins:List (Addr×Obj)}{σ:St}{H:Hp}{s:Shared}(J:Inv X pins σ H s)(dr:Drawn):Inv X pins σ H {s with drawn:=dr}:=⟨J.ok,J.os,J.bare,J.base,J.loc,J.cell,J.free,J.iD,J.pin,J.hok,J.len⟩
def Yw(K:aA):V→Hp→VK→Prop:=λv H Q=>∃(p:Addr)(ns:List Int),v=.ref p∧iM K H p (ns.map V.int)∧ns.length<64∧∀l,H l=none→Q (.ref l) (upd H l (.lst ((Lw ns).map V.int)))
theorem JH(hc:X.calm=true)(pins:List (Addr×Obj))(s:Shared)(σ:St)(H:Hp)(v:V)(u:Value)(Q:VK)(I:Inv X pins σ H s)(rv:RelV v u)(h:Yw X.K v H Q) :
  wpAny (model X.prog X.w) X.A (call (.type "set") [u]) (λu' s'=>wpAny (model X.prog X.w) X.A (call (.builtin "sorted") [u']) (EP X pins σ Q) X.xe s') X.xe s:=by
 obtain⟨p,ns,rfl,hq,h64,q⟩:=h
 cases rv
 obtain⟨its,r,pl,hz⟩:=I.list hq
 have hlen:=r.length
 rw[A9]at hlen
 refine RM (its:=its.toArray) (ns:=ns) (I.ok.hd hc) pl.isList (by simpa using intsAre_of r) (by rw[B3];unfold scanBound;omega) λh1 fu S1 jt=>?_
 have I1:Inv X pins σ H {s with heap:=h1,toks:=fu}:=I.kept (t':=fu) jt
 have ez:its.toArray.size=ns.length:=by simp[hlen]
 rw[ez]at S1
 have hfl:=firstMet_length_le (λi=>ns.getD i 0) ns.length
 refine Calls.call_function_entry kind_sorted plain_sorted entry_sorted (args_sorted1 _) ?_
 unfold Builtin.«sorted»
 refine wpAny_bind (m:=checkCount "sorted" 1 1 _) (wpAny_pure (wpAny_bind (Cj (A:=X.A.in1) (I.ok.hd hc) S1 (K9 (mJ (by omega))) λh2 dr tk2 acc ju od=>?_)))
 obtain⟨al,ks,ik,mk⟩:=od
 have hla:ks.length=acc.length:=(IntsAre.length ik).symm
 refine wpAny_bind (wpAny_newList ?_ (by rw[al];exact K9 (mJ (by omega))))
 have hoL:(h2.push (seqObj "list" acc.toArray 0)).get? h2.objs.size=some (seqObj "list" acc.toArray 0):=Heap.get?_push_size _ rfl
 refine wpAny_bind (wpAny_holding (wpAny_call_entry slot_list_sort ⟨_,hoL,rfl⟩ entry_list_sort (list_sort_tree hoL ik (by omega) λout ns' a1 a2 a3=>⟨_,rfl,?_⟩) (args_list_sort _)))
 refine wpAny_pure ⟨_,rfl,?_⟩
 obtain⟨e,he⟩:=sortedHeap_at (out:=out) hoL
 have I2:Inv X pins σ H {s with heap:=h2,drawn:=dr,toks:=tk2}:=(I1.kept (t':=tk2) ju).drew dr
 have hs:H h2.objs.size=none:=I2.hok.fresh (B6 _)
 have hl2:ns'.length=ks.length:=a2.length_eq
 have I3:=I2.laid (t':=tk2) (a:=h2.objs.size) (o:=.lst (ns'.map V.int)) (h':=sortedHeap (h2.push (seqObj "list" acc.toArray 0)) h2.objs.size acc out)
  (λb o eb=>by
   have hlt:=Heap.lt_size eb
   rw[sortedHeap_old (C6 hlt) (by rw[Heap.size_push];exact F3 hlt)]
   exact Heap.get?_push_of_some _ eb) (B6 _)
  ⟨by rw[A9];exact K9 (mJ (by omega)),out.toList,e,mH a1,by simpa[seqObj]using he⟩
 rw[Lx mk (by omega) a2 a3]at I3
 exact⟨.ref _,_,I3,rfl,q _ hs⟩
def Yx(K:aA):V→Hp→VK→Prop:=λv H Q=>∃(p:Addr)(xs:List V),v=.ref p∧iM K H p xs∧∀l,H l=none→Q (.ref l) (upd H l (.lst xs.reverse))
end
end L2


namespace L2
open PySem PySem.Spec PySem.Calls PyProof.Rows PyProof.V
section
variable{prog:Program}{w:World}{A:Around}{E:Value→Shared→Prop}{s:Shared}{I l:Addr}
theorem Rc{xs:List V}{us:List Value}(r:Vals xs us):Vals xs.reverse us.reverse:=by
 induction r with
 | nil=>exact .nil
 | cons h _ ih=>rw[L8,L8];exact ih.snoc h
theorem Yy:∀{u v:List D},D.aZ u=true→D.aZ v=true→D.aZ (u++v)=true
 | [],v,_,h=>h
 | x::u,v,h1,h2=>by
  unfold D.aZ at h1
  rw[D5]at h1
  rw[G2]
  unfold D.aZ
  rw[D5]
  exact⟨h1.1,Yy h1.2 h2⟩
theorem Cm:∀{u:List D},D.aZ u=true→D.aZ u.reverse=true
 | [],h=>h
 | x::u,h=>by
  unfold D.aZ at h
  rw[D5]at h
  rw[L8]
  refine Yy (Cm h.2) ?_
  unfold D.aZ
  rw[D5]
  exact⟨h.1,by unfold D.aZ;rfl⟩
theorem Jf{K:aA}{H:Hp}:∀{ds:List D} {xs:List V},bH K H ds xs→bH K H ds.reverse xs.reverse
 | [],xs,h=>by
  unfold bH at h
  subst h
  unfold bH
  rfl
 | d::ds,xs,h=>by
  unfold bH at h
  obtain⟨y,ys,rfl,h1,h2⟩:=h
  rw[L8,L8]
  exact(Jf h2).snoc h1
theorem Wz:typeLookup (.type "list_reverseiterator") "__len__" = pure none:=by rw[typeLookup_type,builtinLookup_eq_fast];kernel_rfl
theorem Rf:typeLookup (.type "list_reverseiterator") "__length_hint__" = pure (some (.builtin "list_reverseiterator.__length_hint__")):=by rw[typeLookup_type,builtinLookup_eq_fast];kernel_rfl
theorem Rg{Q:Bool→Shared→Prop}(hT:s.TypeIs (.ref I) "list_reverseiterator") (h:∀b,Q b s):wpAny (model prog w) A (Builtin.List.listLengthHint (.ref I)) Q E s:=by
 unfold Builtin.List.listLengthHint
 refine wpAny_bind (wpAny_specialOf hT Wz ?_)
 show wpAny _ A (specialOf (Value.ref I) (Str.ofString "__length_hint__") >>= _) _ _ _
 refine wpAny_bind (wpAny_specialOf hT Rf ?_)
 generalize hid:("list_reverseiterator.__length_hint__" : String)=id0
 wp_delta
 rw[show splitId id0=some ("list_reverseiterator", "__length_hint__")from by subst hid;decide +kernel]
 subst hid
 refine wpAny_bind (wpAny_isInstance (T := "list_reverseiterator") (b:=true) hT (by rw[isSubtype_type];kernel_rfl) (wpAny_ite_split (λz=>absurd z (by decide)) λ_=>wpAny_ite_split (λ_=>?_) λz=>absurd (by decide +kernel) z))
 exact wpAny_ite_split (λz=>absurd z (by decide +kernel)) λ_=>wpAny_pure (h false)
theorem Rh{its:Array Value}{Q:Value→Shared→Prop}(hh:A.handled=none)(hl:s.heap.IsList l its)(hz:its.size≤sizeLine)
    (hQ:∀h' tk acc c,(∀b o,s.heap.get? b=some o→h'.get? b=some o)→s.heap.objs.size<h'.objs.size→h'.get? (s.heap.objs.size+1)=some {cls:=.type "list", dict:=none,data:=.seq acc c,slots:=#[]}→acc.toList=its.toList.reverse→Q (.ref (s.heap.objs.size+1)) {s with heap:=h',toks:=tk}) :
    wpAny (model prog w) A (call (.type "reversed") [.ref l]) (λu s'=>wpAny (model prog w) A (call (.type "list") [u]) Q E s') E s:=by
  refine call_reversed_list hl ?_
  have lt:l<s.heap.objs.size:=let ⟨_,e,_⟩:=hl;Heap.lt_size e
  generalize hs1:s.heap.push (revObj l ((its.size:Int)-1))=h1
  have e1:h1.objs.size=s.heap.objs.size+1:=by rw[←hs1,Heap.size_push]
  have k1:∀b o,s.heap.get? b=some o→h1.get? b=some o:=λb o e=>by rw[←hs1];exact Heap.get?_push_of_some _ e
  have st:∀h2:Heap,(∀b o,h1.get? b=some o→h2.get? b=some o)→0≤its.size∧h2.IsRevIter s.heap.objs.size l ((its.size:Int)-1-((0:Nat):Int))∧h2.IsList l its:=λh2 k2=>by
    refine⟨J4 _,⟨_,k2 _ _ (by rw[←hs1];exact Heap.get?_push_size _ rfl),rfl,?_⟩,hl.at λo e=>k2 _ _ (k1 _ _ e)⟩
    simp[revObj]
  refine callType_codes (Q₁:=λobj s1=>obj=.ref h1.objs.size∧s1={s with heap:=h1.push {cls:=.type "list", data:=.seq #[]}}) PySem.F.called_list (PySem.F.typeCall_list_1 _) PySem.F.entry_list_init (code_list_new _ ⟨rfl,rfl⟩) λobj s1 z=>?_
  obtain⟨rfl,rfl⟩:=z
  have g0:(h1.push {cls:=.type "list", data:=.seq #[]}).get? h1.objs.size=some {cls:=.type "list", data:=.seq #[]}:=Heap.get?_push_size _ rfl
  have nI:h1.objs.size≠s.heap.objs.size:=by omega
  have nl:h1.objs.size≠l:=F6 (by rw[e1];exact F3 lt)
  have W:=Walks.listRev (prog:=prog) (w:=w) (A:=A.in1.in1) (by simp[hh]) s.heap.objs.size l (C6 lt) its
  refine⟨⟨_,g0,rfl⟩,PySem.F.args_list_init_2 _ _,?_⟩
  show wpAny _ _ (Builtin.List.listItems (.ref h1.objs.size) >>= λold=>Builtin.List.listUpdate (.ref h1.objs.size) (λ_=>#[]) >>= λ_=>letGo old.toList.reverse >>= λ_=>Builtin.List.listExtendWith (.ref h1.objs.size) (.ref s.heap.objs.size) .none) _ _ _
  unfold Builtin.List.listItems
  refine wpAny_bind (wpAny_bind (wpAny_seqItems g0 rfl (wpAny_pure ?_)))
  show wpAny _ _ (updateSeq h1.objs.size (λ_=>#[]) >>= λ_=>letGo (#[]:Array Value).toList.reverse >>= λ_=>Builtin.List.listExtendWith (.ref h1.objs.size) (.ref s.heap.objs.size) .none) _ _ _
  refine wpAny_bind (wpAny_updateSeq g0 rfl ?_)
  have g2:=Heap.get?_update_self (Obj.mapSeq (λ_=>(#[]:Array Value))) g0 rfl
  refine wpAny_bind (wpAny_letGo ?_)
  generalize jw:(h1.push {cls:=.type "list", data:=.seq #[]}).update h1.objs.size (Obj.mapSeq (λ_=>(#[]:Array Value)))=h2 at g2
  have k2:∀b o,h1.get? b=some o→h2.get? b=some o:=λb o e=>by
    rw[←jw]
    exact(Heap.get?_update_other _ _ (F6 (Heap.lt_size e))).trans (Heap.get?_push_of_some _ e)
  have ty:∀h3:Heap,(∀b o,h1.get? b=some o→h3.get? b=some o)→Shared.TypeIs {s with heap:=h3} (.ref s.heap.objs.size) "list_reverseiterator" := λh3 k3=>⟨_,k3 _ _ (by rw[←hs1];exact Heap.get?_push_size _ rfl),rfl⟩
  unfold Builtin.List.listExtendWith
  refine wpAny_bind (wpAny_typeOf (T := "list_reverseiterator") (ty h2 k2) ?_)
  have q1:Builtin.List.listSameRef (.ref h1.objs.size) (.ref s.heap.objs.size)=false:=by simp[Builtin.List.listSameRef,nI]
  have q2:(Value.type "list_reverseiterator" == Value.type "list")=false:=by decide
  have q3:(Value.type "list_reverseiterator" == Value.type "tuple")=false:=by decide
  simp only[q1,q2,q3,S7,L6,if_false]
  refine wpAny_bind (W.self 0 {s with heap:=h2} _ _ (st h2 k2) ?_)
  have nf:h1.objs.size∉[s.heap.objs.size,l]:=by simp[nI,nl]
  have key:∀(h:Heap)(c1 tk:Nat),(∀b o,h1.get? b=some o→h.get? b=some o)→h.get? h1.objs.size=some {cls:=.type "list", data:=.seq #[] c1}→codeAny (model prog w) A.in1 (.builtin "list.extend.loop" ⟨[.ref h1.objs.size,.ref s.heap.objs.size,.none],[]⟩) (wants (λv s'=>v=Value.none∧Q (.ref h1.objs.size) s') E) {s with heap:=h,toks:=tk}:=by
    intro h c1 tk k0 gg
    refine codeAny_extend_loopS W.toS hz _ nf .none its.size 0 _ #[] c1 rfl (J4 _) (st h k0) gg (ItemsOf.nil _) λs' acc c mv g' it=>?_
    rw[Moved.eq_with mv]
    refine⟨rfl,?_⟩
    rw[e1]at g' ⊢
    refine hQ s'.heap s'.toks acc c (λb o e=>mv.heap b o (λz=>?_) (k0 b o (k1 b o e))) ?_ g' ?_
    · rcases B8.mp z with z | z
      · exact absurd (Heap.lt_size e) (by rw[z,e1];exact Nat.not_lt.mpr (D7 _))
      · exact absurd (Heap.lt_size e) (by rw[C8.mp z];exact E2 _)
    · exact Nat.lt_of_succ_lt (Heap.lt_size g')
    · refine K3 λj=>?_
      rcases G7 j acc.size with z | z
      · have e:acc[j]?=some acc[j]:=G4 z
        have z':j<its.size:=by have:=it.1;omega
        have:=it.2 j _ e
        rw[J1,e,←this,List.getElem?_reverse (by simpa using z'),F2,J1]
      · rw[D8 (by simpa using z),D8 (by have:=it.1;simp;omega)]
  refine wpAny_bind (wpAny_holding (Rg (ty h2 k2) λb=>?_))
  refine wpAny_ite_split (λ_=>?_) λ_=>wpAny_pure ⟨plainId_quiet K8 _,key h2 _ _ k2 g2⟩
  refine wpAny_bind (wpAny_rule (wpAny_bind ?_))
  show wpAny _ _ (updateSeq h1.objs.size (·.push .none) >>= λ_=>updateSeq h1.objs.size (·.pop)) _ _ _
  refine wpAny_bind (wpAny_updateSeq g2 rfl ?_)
  have g3:=Heap.get?_update_self (Obj.mapSeq (·.push Value.none)) g2 rfl
  refine wpAny_updateSeq (hz:=by seq_fits) g3 rfl ?_
  have g4:=Heap.get?_update_self (Obj.mapSeq (·.pop)) g3 rfl
  refine wpAny_pure ⟨plainId_quiet K8 _,key _ _ _ (λb o e=>?_) g4⟩
  have nb:h1.objs.size≠b:=F6 (Heap.lt_size e)
  exact(Heap.get?_update_other _ _ nb).trans ((Heap.get?_update_other _ _ nb).trans (k2 b o e))
end
section
variable{K:aA}{X:Cx}{e:Expr}{t:TE}{f:FE}{x y:Str}{p p2 pos pos2:Pos}
theorem JK(hc:X.calm=true)(pins:List (Addr×Obj))(s:Shared)(σ:St)(H:Hp)(v:V)(u:Value)(Q:VK)(I:Inv X pins σ H s)(rv:RelV v u)(h:Yx X.K v H Q) :
  wpAny (model X.prog X.w) X.A (call (.type "reversed") [u]) (λu' s'=>wpAny (model X.prog X.w) X.A (call (.type "list") [u']) (EP X pins σ Q) X.xe s') X.xe s:=by
 obtain⟨p,xs,rfl,hq,q⟩:=h
 cases rv
 obtain⟨its,r,pl,hz⟩:=I.list hq
 have hlen:=r.length
 refine Rh (I.ok.hd hc) pl.isList (by rw[B3,←hlen];exact hz) λh' tk acc c kp lt g e=>?_
 have hs:H (s.heap.objs.size+1)=none:=I.hok.fresh (D7 _)
 have rr:Vals xs.reverse acc.toList:=by
  rw[e]
  simpa using Rc r
 exact⟨.ref _,_,I.laid (t':=tk) (a:=s.heap.objs.size+1) (o:=.lst xs.reverse) kp (D7 _) ⟨by rw[T2];exact hz,acc.toList,c,rr,by simpa[seqObj]using g⟩,rfl,q _ hs⟩
def JL(φ:D→Option D)(f:FE):FE:=λe=>(f e).bind φ
def Jg:D→Option D
 | .lst ds=>(intsOf ds).bind λns=>if ns.length<64 then some (.lst ((Lw ns).map D.int))else none
 | _=>none
theorem Xa(h:XR K X e t f)(hg:Gl X x)(hm:X.mg x=none)(hv:bootBuiltins x=some (.builtin "sorted")) (hg2:Gl X y) (hm2:X.mg y=none) (hv2:bootBuiltins y=some (.type "set")) (hc:X.calm=true:=by rfl) (hn:x ≠ "__name__" := by decide) (hdb:(x==("__debug__" : Str))=false:=by decide) (hn2:y ≠ "__name__" := by decide) (Fq:(y==("__debug__" : Str))=false:=by decide)
  (he:starEach [e] X.env=[(false,eval e X.env)]:=by rfl) (he2:starEach [.Call (.Name y p2) [e] [] pos2] X.env=[(false,eval (.Call (.Name y p2) [e] [] pos2) X.env)]:=by rfl) :
  XN K X (.Call (.Name x p) [.Call (.Name y p2) [e] [] pos2] [] pos) (UT (Yw K) t) (JL Jg f):=⟨h.hk,Wx (by have:=h.hk;subst this;exact JH hc) h.pe hg hm hv hg2 hm2 hv2 hn hdb hn2 Fq he he2,λσ H e d Q re q k=>by
 obtain⟨d0,q1,q2⟩:=aW q
 unfold Jg at q2
 split at q2
 ·obtain⟨ns,q3,q4⟩:=aW q2
  split at q4
  ·rename_i hl
   cases q4
   refine h.ev σ H H e _ _ (Zn.self K H) re q1 λv H1 Z1 s1 t1 z1 rv=>?_
   obtain⟨p,rfl,r2⟩:=Bx q3 (z1.sm.rv _ _ rv)
   exact⟨p,ns,rfl,r2,hl,λl hl=>k _ _ (s1.trans (bG hl _)) ((jR (aG.refl _) (.aZ (bO _) (jD.mpr rfl)) hl).back s1)⟩
  ·cases q4
 ·cases q2⟩
def Cp:D→Option D
 | .lst ds=>if D.aZ ds=true then some (.lst ds.reverse)else none
 | _=>none
theorem Xb(h:XR K X e t f)(hg:Gl X x)(hm:X.mg x=none)(hv:bootBuiltins x=some (.type "list")) (hg2:Gl X y) (hm2:X.mg y=none) (hv2:bootBuiltins y=some (.type "reversed")) (hc:X.calm=true:=by rfl) (hn:x ≠ "__name__" := by decide) (hdb:(x==("__debug__" : Str))=false:=by decide) (hn2:y ≠ "__name__" := by decide) (Fq:(y==("__debug__" : Str))=false:=by decide)
  (he:starEach [e] X.env=[(false,eval e X.env)]:=by rfl) (he2:starEach [.Call (.Name y p2) [e] [] pos2] X.env=[(false,eval (.Call (.Name y p2) [e] [] pos2) X.env)]:=by rfl) :
  XN K X (.Call (.Name x p) [.Call (.Name y p2) [e] [] pos2] [] pos) (UT (Yx K) t) (JL Cp f):=⟨h.hk,Wy (by have:=h.hk;subst this;exact JK hc) h.pe hg hm hv hg2 hm2 hv2 hn hdb hn2 Fq he he2,λσ H e d Q re q k=>by
 obtain⟨d0,q1,q2⟩:=aW q
 unfold Cp at q2
 split at q2
 ·rename_i ds
  split at q2
  ·rename_i hi
   cases q2
   refine h.ev σ H H e _ _ (Zn.self K H) re q1 λv H1 Z1 s1 t1 z1 rv=>?_
   have r1:=z1.sm.rv _ _ rv
   unfold Rv at r1
   obtain⟨p,xs,rfl,r2,r3⟩:=r1
   exact⟨p,xs,rfl,r2,λl hl=>k _ _ (s1.trans (bG hl _)) ((jR (aG.refl _) (.aZ (Cm hi) (Jf r3)) hl).back s1)⟩
  ·cases q2
 ·cases q2⟩
end
end L2


namespace L2
open PySem PySem.Spec PySem.Calls PyProof.Rows PyProof.V PySem.W Att
abbrev Small(k:Int):Prop:=Builtin.Int.intBits k≤1048576
theorem Ri{ns:List Int}(h:WData.layableAll [WData.list (ns.map WData.int)]=true):∀k∈ns,Small k:=λk hk=>by
 have h1:(WData.list (ns.map WData.int)).layable=true:=by simpa[WData.layableAll]using h
 obtain⟨c,_,w⟩:=layableW_iff.mp h1
 have c':WData.canLayAll (ns.map WData.int)=true:=by simpa[WData.canLay]using c
 have w':WData.weightAll (ns.map WData.int)≤2 ^ 20:=by simpa[WData.weight]using w
 have:=(items_part (G6.mpr ⟨k,hk,rfl⟩) c').2.2
 have e:(WData.int k).weight=Builtin.Int.intBits k:=by simp only[WData.weight,Builtin.Int.intBits]
 rw[e]at this
 exact C7 this w'
theorem Cq{l:OpenLaw}{n:Nat}{q:Program}{loose:List Str}{XP:(Str→Option Value)→Heap→Prop}{YP:World→Heap→Prop}{d:DefRec}(hn:l.most=some n)(hdf:d.params.defaults=[])
  (call:∀(w:World)(s₀ s₁:Shared)(mg mb:Str→Option Value)(fa:Addr)(o:Obj)(pm cd doc:Value)(a:Addr)(vs:List Value)(ns:List Int),Ground q loose [] XP w s₀ mg mb s₁.heap→YP w s₁.heap →
   s₁.heap.get? fa=some o→o.data=.func (docDef d.name d.params d.body d.scope pm cd doc)→s₁.heap.CodeRec cd d.name→mg d.name=some (.ref fa) →
   s₁.heap.get? a=some {cls:=.type "list", data:=.seq vs.toArray}→IntsAre vs ns→ns.length≤n→(∀k∈ns,Small k)→s₁.gens=#[] →
   codeAny (model l.prog w) callerA (.call (.ref fa) ⟨[.ref a],[]⟩) (λr s'=>r=.ok (.ret (.bool true))∧OldK s₁.heap s'.heap∧s'.os=s₁.os∧AllBare s'.gens) s₁) :
  WalkO q loose XP YP l.row.toRowW d [] (λf vs=>W0 f vs):=by
 intro w s₀ s₁ mg mb G Y fa o pm cd doc dV kV ho hd hcd hD hmg hg args vals as hpre hlay hrd hwl hlo
 obtain rfl:dV=.none:=Dflts.none hD hdf
 obtain rfl:kV=.none:=Dflts.noKw hD
 obtain⟨a,vs,ns,rfl,rfl,hobj,hints,hlen⟩:=Lb hn hpre hwl
 refine enter_call (codeAny_mono (call w s₀ s₁ mg mb fa o pm cd doc a vs ns G Y ho (fd_plain hd) hcd hmg hobj hints hlen (Ri hlay) hg) λr s' hq=>?_)
 obtain⟨rfl,h2,h3,h4⟩:=hq
 exact⟨.inl ⟨.bool true,.bool true,[],rfl,λ_=>rfl,.bool true,Ld l _,λ_=>⟨U5,λ_ hm=>(nomatch hm)⟩⟩,h2,h3,h4⟩
theorem Ly{l:W2}{n k:Nat}{q:Program}{loose:List Str}{XP:(Str→Option Value)→Heap→Prop}{YP:World→Heap→Prop}{d:DefRec}{K:Params→aA}{CX:World→Ks}{sp:World→Sp}{x:Str}(hn:l.most=some n)(hn2:n≤sizeLine)(hdf:d.params.defaults=[])(hr:gK k callerA)
  (hY:∀(w:World)(h:Heap),YP w h→(K w.params).In h)
  (F:∀(w:World)(mg:Str→Option Value)(fa:Addr)(h:Heap),(K w.params).In h→h.Ns mainGlobals mg→mg d.name=some (.ref fa)→∃fd:FuncData,(∀(s:Shared)(u:Value),BindsTo s fd ⟨[u],[]⟩ [(x,u)])∧∀base:Heap,(K w.params).In base→base.Ns mainGlobals mg→qP l.prog w (K w.params) mg base (CX w) k fa fd [x] (sp w))
  (hsp:∀(w:World)(H:Hp)(a:Addr)(ns:List Int),ns.length≤n→(∀k∈ns,Small k)→Only H→iM (K w.params) H a (ns.map V.int)→sp w [.ref a] H (λv _=>v=.bl true) λ_ _ _=>False)
  (XX:∀(w:World)(H:Hp)(s:Shared)(e:Value)(s':Shared),CX w [] H s (λ_ _ _=>False) e s'→False) :
  W9 q loose XP YP l.row.toRowW d [] (λf vs=>W0 f vs):=by
 refine Cq hn hdf λw s₀ s₁ mg mb fa o pm cd doc a vs ns G Y ho hd hcd hmg hobj hints hlen hsm hg=>?_
 have KX:=hY w _ Y
 obtain⟨fd,hb,hF⟩:=F w mg fa _ KX G.T.g hmg
 exact Pb KX G.T.g G.T.b G.T.builtins G.T.nolimit hg hobj hints (C7 hlen hn2) hr hF hb (λH hO hS=>hsp w H a ns hlen hsm hO hS) λH e s'=>XX w H s₁ e s'
def ZD(K:aA):Sp:=λvs H Q _=>∃(a:Addr)(ns:List Int),vs=[.ref a]∧iM K H a (ns.map V.int)∧ns.length≤63∧(∀k∈ns,Small k)∧∀H',Q (.bl true) H'
theorem Us.jx{P:Program}{w:World}{K:aA}{mg:Str→Option Value}{base:Heap}{x:Str}{st:Stmt}{N:List Str}{k:Nat}{g:GS}{f:Addr}{fd:FuncData}(F:Us K x x st f fd)(S:bL N ["script"] (aK st))
  (hbody:∀(cdv:Value)(A:Around)(outer:List Env)(s:Shared)(H:Hp)(E:XK),gK k (A.deeper (envOfC x (aK st) s.heap.objs.size f cdv))→∃t,YB K (yR Np P w K mg base N x (aK st) f cdv A outer s H E).Zz (bV st) t g)
  (JM:∀ns:List Int,ns.length≤63→(∀k∈ns,Small k)→iU N.length 1 g [.lst (ns.map D.int)]=some (.bl true)):qP P w K mg base Np (k+1) f fd ["script"] (ZD K):=by
 refine F.ok S (λvs H Q E h=>?_) (λcdv A outer s H vs Q E hr h=>?_)
 ·obtain⟨a,ns,rfl,_⟩:=h
  rfl
 obtain⟨a,ns,rfl,hS,hl,hb,q⟩:=h
 obtain⟨t,yb⟩:=hbody cdv A outer s H E hr
 have h3:=JM ns hl hb
 have rv:bH K H [.lst (ns.map D.int)] [.ref a]:=by
  unfold bH
  exact⟨_,_,rfl,by unfold Rv;exact⟨a,_,rfl,hS,jD.mpr rfl⟩,by unfold bH;rfl⟩
 refine⟨t,yb.ps,yb.ev H _ _ H ([D.lst (ns.map D.int)].map SD.fro++F5 (N.length-1) SD.no) (xT rv) ?_⟩
 unfold iU at h3
 rw[if_pos (show [D.lst (ns.map D.int)].length=1 from rfl)]at h3
 cases qq:g ([D.lst (ns.map D.int)].map SD.fro++F5 (N.length-1) SD.no)with
 | ret d'=>
  rw[qq]at h3
  cases h3
  refine λv H' A' s' o=>?_
  have:=Ow.rv _ _ _ o
  unfold Rv at this
  subst this
  exact q _
 | _=>
  rw[qq]at h3
  cases h3
section
variable{K:aA}{X:Cx}{e a b c:Expr}{es:List Expr}{t ta tb te:TE}{f g:FE}{pos:Pos}
def rZ(i j:Int):Prop:=Builtin.Int.intBits i≤4000000∧Builtin.Int.intBits j≤4000000
instance (i j:Int):Decidable (rZ i j):=by unfold rZ;exact inferInstance
theorem rZ.ok{i j:Int}(h:rZ i j):IntMulOk i j:=PyProof.Rows.mulOk_of_bits h.1 h.2 (by decide)
theorem Xc:pC X (binaryOp .Mult) (rI rZ λi j=>.int (i*j)):=PJ λ_ _ _ _ _ _ _ hc q=>mul_int q hc.ok
def Jh:D→D→Option D:=uJ rZ λi j=>.int (i*j)
theorem Xd(ha:XR K X a ta f)(hb:XR K X b tb g):XN K X (.BinOp a .Mult b pos) (wB (rI rZ λi j=>.int (i*j)) ta tb) (f2 Jh f g):=uN Xc (uL λ_ _ h=>h) ha hb
theorem Lz{prog:Program}{w:World}{A:Around}{E:Value→Shared→Prop}{s:Shared}{t sl:Addr}{items:Array Value}{vl vu:Value}{lo hi:Option Int}{Q:Value→Shared→Prop}(ht:IsTup s.heap t items)(hs:s.heap.IsSliceOf sl vl vu .none)(pl:IsPart vl lo)(pu:IsPart vu hi)
    (hw:HT.cN items.size 0 lo=0∧HT.cN items.size items.size hi=items.size) (h:Q (.ref t) s):wpAny (model prog w) A (getItem (.ref t) (.ref sl)) Q E s:=by
  obtain⟨os,hos,hcs,hds⟩:=id hs
  have hTs:s.TypeIs (.ref sl) "slice" := ⟨os,hos,hcs⟩
  unfold getItem
  try with_reducible refine wpAny_holding ?_
  first | refine wpAny_bind (wpAny_pure ?_) | skip
  refine wpAny_bind (wpAny_sequenceKey ht.typeIs (by decide) (wpAny_bind (wpAny_callSpecial?_slot (name:=Str.ofString "__getitem__") ht.typeIs F4 (wpAny_call_entry F4 ht.typeIs entry_tuple_getitem ?_ (args_tuple_getitem _ _)))))
  show wpAny _ _ (Builtin.Tuple.tupleItemsOf (.ref t) >>= _) _ _ s
  refine wpAny_bind (tupleItemsOf_ ht (wpAny_bind (wpAny_typeOf hTs ?_)))
  rw[if_pos (by decide)]
  refine wpAny_bind (HT.jB hs pl pu ?_)
  show wpAny _ _ (if(((HT.cN items.size 0 lo:Nat):Int)==0&&(1:Int)==1&&(HT.cN items.size items.size hi-HT.cN items.size 0 lo)==items.size)=true then _ else _) _ _ s
  rw[if_pos (by rw[hw.1,hw.2];simp)]
  refine wpAny_bind (m:=Builtin.Tuple.tupleIsExact _) ?_
  unfold Builtin.Tuple.tupleIsExact
  refine wpAny_bind (wpAny_typeOf ht.typeIs (wpAny_pure ?_))
  rw[if_pos (by decide)]
  exact wpAny_bind (wpAny_rule (wpAny_pure ⟨_,rfl,wpAny_pure h⟩))
theorem Xe(hk:X.K=K):QC X (λx lo hi H Q=>∃a xs,x=.ref a∧jP K H a xs∧(HT.cN xs.length 0 lo=0∧HT.cN xs.length xs.length hi=xs.length→Q (.ref a) H)∧∀p,H p=none→Q (.ref p) (upd H p (.tup (tW xs lo hi)))):=by
 subst hk
 intro pins s σ H x v vl vu lo hi sl Q I rx hs pl pu h
 obtain⟨a,xs,rfl,hx,q1,q2⟩:=h
 by_cases hw:HT.cN xs.length 0 lo=0∧HT.cN xs.length xs.length hi=xs.length
 ·cases rx
  obtain⟨its,r,ht,hz⟩:=I.tuple hx
  have hlen:its.toArray.size=xs.length:=by rw[B3];exact r.length.symm
  exact⟨"tuple", _,F4.lookup,ht.typeIs,Lz ht hs pl pu (by rw[hlen];exact hw) ⟨.ref a,H,I,rfl,q1 hw⟩⟩
 ·exact CQ pins s σ H (.ref a) v vl vu lo hi sl Q I rx hs pl pu ⟨a,xs,rfl,hx,hw,q2⟩
def Rj(f:FE)(l h:FO):FE:=λe=>(f e).bind λd=>(l e).bind λlo=>(h e).bind λhi=>match d with
 | .tup ds=>if D.aZ ds=true then some (.tup (eU ds lo hi))else none
 | _=>none
variable{lo hi:Option Expr}{tl th:TO}{fl fh:FO}{p2:Pos}
theorem Rk{ds:List D}(h:D.aZ ds=true)(lo hi:Option Int):D.aZ (eU ds lo hi)=true:=by
 have dr:∀(n:Nat)(u:List D),D.aZ u=true→D.aZ (u.drop n)=true:=by
  intro n
  induction n with
  | zero=>exact λu h=>h
  | succ n ih=>
   intro u h
   cases u with
   | nil=>exact h
   | cons x u=>
    unfold D.aZ at h
    rw[D5]at h
    exact ih u h.2
 have tk:∀(n:Nat)(u:List D),D.aZ u=true→D.aZ (u.take n)=true:=by
  intro n
  induction n with
  | zero=>exact λu h=>by rw[List.take_zero];unfold D.aZ;rfl
  | succ n ih=>
   intro u h
   cases u with
   | nil=>exact h
   | cons x u=>
    unfold D.aZ at h
    rw[D5]at h
    rw[O2]
    unfold D.aZ
    rw[D5]
    exact⟨h.1,ih u h.2⟩
 exact tk _ _ (dr _ _ h)
theorem Ma(h:XR K X e t f)(hl:XO K X lo tl fl)(hu:XO K X hi th fh):XN K X (.Subscript e (.Slice lo hi none p2) pos) (VB (λx lo hi H Q=>∃a xs,x=.ref a∧jP K H a xs∧(HT.cN xs.length 0 lo=0∧HT.cN xs.length xs.length hi=xs.length→Q (.ref a) H)∧∀p,H p=none→Q (.ref p) (upd H p (.tup (tW xs lo hi)))) t tl th) (Rj f fl fh):=⟨h.hk,tV (Xe h.hk) h.pe hl.po hu.po,λσ H e d Q re q k=>by
 unfold Rj at q
 obtain⟨d0,q1,qa⟩:=aW q
 obtain⟨lo,q2,qb⟩:=aW qa
 obtain⟨hi,q3,qc⟩:=aW qb
 clear q qa qb
 split at qc
 ·rename_i ds
  split at qc
  ·rename_i qi
   cases qc
   refine h.ev σ H H e _ _ (Zn.self K H) re q1 λv H1 Z1 s1 t1 z1 rv=>hl.ev σ H1 e lo _ (re.same s1) q2 λH2 s2=>hu.ev σ H2 e hi _ (re.same (s1.trans s2)) q3 λH3 s3=>?_
   have Uw:=s1.trans (s2.trans s3)
   have MJ:=(z1.sm.trans (s2.trans s3)).rv _ _ rv
   have ZF:=MJ
   unfold Rv at MJ
   obtain⟨p,xs,rfl,r2,r3⟩:=MJ
   refine⟨p,xs,rfl,r2,λw=>k _ _ Uw ?_,λl hl=>k _ _ (Uw.trans (bG hl _)) (((zN (.aZ (Rk qi lo hi) (zV lo hi r3)) hl):xH K H3 _ _ _).back Uw)⟩
   have e:eU ds lo hi=ds:=by
    rw[r3.length]at w
    unfold eU
    rw[w.1,w.2]
    simp
   rw[e]
   exact .dZ (by unfold D.dZ;exact qi) ZF
  ·cases qc
 ·cases qc⟩
end
end L2


namespace L2
open PySem PySem.Spec PySem.Calls PyProof.Rows PyProof.V
section
variable{K:aA}{X:Cx}
def gf:List D→Option D
 | [.bl c]=>some (.int (if c then 1 else 0))
 | _=>none
end
end L2


namespace L2
open PySem PySem.Spec PySem.Calls PyProof.Rows PyProof.V
section
variable{X:Cx}{pins:List (Addr×Obj)}{σ:St}{H:Hp}{s:Shared}{h':Heap}
end
section
variable{K:aA}{X:Cx}{e a b c:Expr}{es:List Expr}{t ta tb te:TE}{f g fe:FE}{tc:TT}{fc:FT}{pos p p2:Pos}{x:Str}
end
end L2


namespace L2
open PySem PySem.Spec PySem.Calls PyProof.Rows PyProof.V
section
variable{K:aA}{B H:Hp}{env:EN}{σ:St}{i:Nat}{v:V}{d:D}
end
section
variable{K:aA}{X:Cx}{st:Stmt}{sts:List Stmt}{t u tb:TS}{g g1 g2:GS}{e a b c:Expr}{es:List Expr}{te ta t0:TE}{f f0 fa fb:FE}{gk:FE}{tA:TA}{fs:FA}{tc:TT}{fc:FT}{pos:Pos}{i:Nat}{π:FP}
end
end L2


namespace L2
open PySem PySem.Spec PySem.Calls PyProof.Rows PyProof.V
section
variable{α β:Type}{R:α→Fp→β→Prop}
end
section
variable{K:aA}{B H H':Hp}{env:EN}{σ:St}{i:Nat}{v:V}{d:D}
end
section
variable{K:aA}{X:Cx}{st:Stmt}{sts:List Stmt}{t u tb:TS}{g g1 g2:GS}{e a b c o:Expr}{es:List Expr}{te ta t0 tv:TE}{f f0 fa fb:FE}{gk:FE}{tA:TA}{fs:FA}{tc:TT}{fc:FT}{pos apos:Pos}{i:Nat}{π:FP}
structure jy(K:aA)(C:Addr)(nm:List Str):Prop where
 cl:UW K C
 no:∀f∈nm,CJ K C f
end
section
variable{K:aA}{B H:Hp}{env:EN}{σ:St}
end
section
variable{K:aA}{X:Cx}{st:Stmt}{sts:List Stmt}{t u tb:TS}{g g1 g2:GS}{e a b c o:Expr}{es:List Expr}{te ta t0 tv:TE}{f f0 fa fb:FE}{gk:FE}{tA:TA}{fs:FA}{tc:TT}{fc:FT}{pos apos:Pos}{i:Nat}{π:FP}
end
end L2


namespace L2
open PySem PySem.Spec PySem.Calls PyProof.Rows PyProof.V
section
variable{K:aA}{B H H':Hp}{env:EN}{σ:St}{i:Nat}{p:List Step}{d0 d:D}
end
abbrev GM:=EN→Option (D×EN)
def jz(K:aA)(t:TE)(g:GM):Prop:=∀(B:Hp)(σ:St)(H:Hp)(env:EN)(d:D)(env':EN)(Q:VK),Rel K B env σ H→g env=some (d,env')→(∀v H',Rel K B (env'++[.own d]) (σ++[some v]) H'→Q v H')→t σ H Q
structure XM(K:aA)(X:Cx)(e:Expr)(t:TE)(g:GM):Prop where
 hk:X.K=K
 pe:PE X e t
 ev:jz K t g
abbrev GB:=EN→Option (Bool×EN)
def RN(K:aA)(t:TT)(g:GB):Prop:=∀(B:Hp)(σ:St)(H:Hp)(env:EN)(b:Bool)(env':EN)(Q:Bool→Hp→Prop),Rel K B env σ H→g env=some (b,env')→(∀H',Rel K B env' σ H'→Q b H')→t σ H Q
structure qw(K:aA)(X:Cx)(e:Expr)(t:TT)(g:GB):Prop where
 hk:X.K=K
 pt:PT X e t
 ev:RN K t g
structure qy(K:aA)(X:Cx)(e:Expr)(t:TT)(g:GB):Prop where
 hk:X.K=K
 pw:PW X e t
 ev:RN K t g
abbrev FA2:=DE→DE→Option (List D)
def ZG(K:aA)(t:TA)(fs:FA2):Prop:=∀(A1:Fp)(σ:St)(H:Hp)(eF eZ:DE)(ds:List D)(Q:List V→Hp→Prop),(∀x,A1 x→lE H x)→nJ K H eF σ→nJ K (out H A1) eZ σ→fs eF eZ=some ds →
 (∀vs H',aG H H'→bH K (out H' A1) ds vs→Q vs H')→t σ H Q
structure qz(K:aA)(X:Cx)(es:List Expr)(t:TA)(fs:FA2):Prop where
 hk:X.K=K
 pa:PA X es t
 ev:ZG K t fs
section
variable{K:aA}{X:Cx}{st:Stmt}{sts:List Stmt}{t u tb:TS}{g:GM}{g1 g2:GS}{e a b c o:Expr}{es rest:List Expr}{te ta t0 tv:TE}{f f0 fa fb:FE}{tA:TA}{fs:FA2}{tc td:TT}{fc:FT}{gb gc:GB}{pos apos:Pos}{i:Nat}{π:FP}
structure kh(P:Program)(w:World)(K:aA)(mg:Str→Option Value)(base:Heap)(C:Addr)(m:Str)(k n:Nat)(df:Bool)(sp:Sp):Prop where
 ex:∃f fd ps,ps.length=n∧qP P w K mg base Np k f fd ps sp∧Binds K fd ps []∧(df=true→Binds K fd ps [Value.none])∧Meth K C m f
structure kj(P:Program)(w:World)(K:aA)(mg:Str→Option Value)(base:Heap)(x:Str)(C:Addr)(k n:Nat)(sp:Sp):Prop where
 ex:∃f fd ps,ps.length=n∧qP P w K mg base Np k f fd ps sp∧Binds K fd ps []∧Mk K C f∧mg x=some (.ref C)
end
end L2


namespace L2
open PySem PySem.Spec PySem.Calls PyProof.Rows PyProof.V
def ZJ(K:aA)(dN:Bool)(dV:Value):Prop:=match dN with
 | false=>dV=.none
 | true=>∃T o n,dV=.ref T∧K.lookup T=some o∧o.data=.seq #[.none] n
structure RP(K:aA)(f:Addr)(m q:Str)(st:Stmt)(dN:Bool):Prop where
 ex:∃(oc:Value)(od:Option Addr)(dV kV doc pm:Value)(an:Option Addr)(cdv ct:Value)(osl:Array (Option Value)),
  K.lookup f=some ⟨oc,od,.func (F7 m q (cT st) (bV st) (aK st) dV kV doc pm an cdv ct),osl⟩∧M0 K cdv q=true∧ZJ K dN dV
structure km(K:aA)(C:Addr)(m q:Str)(st:Stmt)(dN:Bool):Prop where
 ex:∃f,RP K f m q st dN∧Meth K C m f
structure lg(K:aA)(mg:Str→Option Value)(x:Str)(C:Addr)(q:Str)(st:Stmt):Prop where
 ex:∃f,RP K f "__init__" q st false∧Mk K C f∧mg x=some (.ref C)
def HB(x q:Str)(st:Stmt)(ps:List Str):Prop:=∀(kV doc pm:Value)(an:Option Addr)(cdv ct:Value)(us:List Value),us.length=ps.length→bindArgs (F7 x q (cT st) (bV st) (aK st) .none kV doc pm an cdv ct) ⟨us,[]⟩=pure (ps.zip us)
def lq(x q:Str)(st:Stmt)(ps:List Str):Prop:=∀(T:Addr)(kV doc pm:Value)(an:Option Addr)(cdv ct:Value)(us:List Value),(us.length=ps.length→∃k,bindArgs (F7 x q (cT st) (bV st) (aK st) (.ref T) kV doc pm an cdv ct) ⟨us,[]⟩=seqItems? (Value.ref T) >>= k∧k (some #[Value.none])=pure (ps.zip us)) ∧
 (us.length+1=ps.length→∃k,bindArgs (F7 x q (cT st) (bV st) (aK st) (.ref T) kV doc pm an cdv ct) ⟨us,[]⟩=seqItems? (Value.ref T) >>= k∧k (some #[Value.none])=pure (ps.zip (us++[Value.none])))
def rm(dN:Bool)(x q:Str)(st:Stmt)(ps:List Str):Prop:=match dN with
 | false=>HB x q st ps
 | true=>lq x q st ps
section
variable{P:Program}{w:World}{K:aA}{mg:Str→Option Value}{base:Heap}
end
section
variable{K:aA}{X:Cx}{st:Stmt}{g g1 g2 gb:GS}{e a b c o:Expr}{es rest:List Expr}{te ta tb tc t0 tv:TE}{f f0 fa fb fc:FE}{tA:TA}{fs:FA}{pos apos:Pos}{i j:Nat}{π:FP}{gj:TS}
end
end L2


namespace L2
open PySem PySem.Spec PySem.Calls PyProof.Rows PyProof.V
theorem vD{H:Hp}{p:Addr}{kvs:List (List Key×V)}(h:H p=some (.dT kvs)):nT H p:=⟨λys e=>(by rw[h]at e;cases e),λo ys e=>(by rw[h]at e;cases e)⟩
section
variable{K:aA}{B H:Hp}{env:EN}{σ:St}
theorem Rel.ZK{i:Nat}{p:List Step}{d0:D}{ks:List (List Key)}{ds:List D}(h:Rel K B env σ H)(e:env[i]?=some (.own d0))(q:nP p d0=some (.dt ks ds)):∃v0 a xs Bs,σ[i]?=some (some v0)∧Av H p v0=some (.ref a)∧H a=some (.dT (ks.zip xs))∧ks.length=xs.length∧¬Bs a∧bY K H ds Bs xs ∧
    ∀H2 ks' ds' xs' Bn,aG H H2→ks'.length=xs'.length→bY K H2 ds' Bn xs'→(∀b,Bn b→Bs b∨H b=none)→Rel K B (env.set i (.own (jF p d0 (.dt ks' ds')))) σ (upd H2 a (.dT (ks'.zip xs'))):=by
  obtain⟨v0,w,A1,C,h1,h2,h3,h4,h5,h6⟩:=h.at e q
  unfold Ow at h3
  obtain⟨a,xs,Bs,rfl,o2,o2',o3,o4,o5⟩:=h3
  refine⟨v0,a,xs,Bs,h1,h2,o2,o2',o3,o5,λH2 ks' ds' xs' Bn s hl o hb=>?_⟩
  have RD:¬Bn a:=λz=>(hb a z).elim o3 λz=>by rw[o2]at z;cases z
  have hC:∀x,C x→¬x=a:=λx z y=>h4 x ((o4 x).mpr (.inl y)) z
  have Ez:H2 a=some (.dT (ks.zip xs)):=s a _ o2
  refine h6 _ (.dt ks' ds') (dD (·=a) Bn) (λx z1 z2=>?_) (λx z=>?_) (s.tk.trans (qX (vD Ez))) ?_ (λx u ex=>?_)
  · rcases z1 with z1 | z1
    · exact hC x z2 z1
    · rcases hb x z1 with z | z
      · exact h4 x ((o4 x).mpr (.inr z)) z2
      · obtain⟨⟨u,eu⟩,_⟩:=h5 x z2
        rw[z]at eu;cases eu
  · obtain⟨⟨u,eu⟩,_⟩:=h5 x z
    rw[aP (hC x z),eu,s x u eu]
  · unfold Ow
    refine⟨a,xs',Bn,rfl,bB,hl,RD,λ_=>Iff.rfl,bY.frame (qX (vD Ez)) _ _ _ o λx zx=>aP λy=>RD (y▸zx)⟩
  · obtain⟨e1,e2⟩:=aU.mp ex
    have na:x≠a:=λy=>e1 (.inl ((o4 x).mpr (.inl y)))
    refine aU.mpr ⟨λz=>?_,by rw[aP na];exact s x u e2⟩
    rcases z with (z | z) | z
    · exact na z
    · rcases hb x z with z | z
      · exact e1 (.inl ((o4 x).mpr (.inr z)))
      · rw[z]at e2;cases e2
    · exact e1 (.inr z)
end
def pR:List D→Option (List Key)
 | []=>some []
 | d::ds=>(Qe d).bind λk=>(pR ds).map λr=>k::r
theorem Cr{K:aA}{H:Hp}:∀{ds:List D} {ks:List Key} {vs:List V},pR ds=some ks→bH K H ds vs→vs=ks.map kV
 | [],ks,vs,h,r=>by
  unfold pR at h
  cases h
  unfold bH at r
  exact r
 | d::ds,ks,vs,h,r=>by
  unfold pR at h
  obtain⟨k,h1,h2⟩:=aW h
  obtain⟨ks',h3,rfl⟩:=fH h2
  unfold bH at r
  obtain⟨y,ys,rfl,r1,r2⟩:=r
  rw[Wj h1 r1,Cr h3 r2]
  rfl
abbrev FK:=DE→Option (List Key)
def lr(K:aA)(t:TE)(fk:FK):Prop:=∀(σ:St)(H:Hp)(e:DE)(k:List Key)(Q:VK),nJ K H e σ→fk e=some k→(∀b H',aG H H'→H' b=some (.tup (k.map kV))→Q (.ref b) H')→t σ H Q
structure rn(K:aA)(X:Cx)(e:Expr)(t:TE)(fk:FK):Prop where
 hk:X.K=K
 pe:PE X e t
 ev:lr K t fk
section
variable{K:aA}{X:Cx}{st:Stmt}{e a b c o:Expr}{es rest:List Expr}{te ta tb tc t0 tv:TE}{f fa fb:FE}{g:FK}{gd:FE}{tA:TA}{fs:FA}{pos apos:Pos}{i j:Nat}{π:FP}{gj:TS}
theorem Rm(hk:X.K=K:=by rfl):XN K X (.Dict [] [] pos) Ox (fC (.dt [] [])):=⟨hk,Oz,λσ H e d Q re q k=>by
 cases q
 intro p hp
 refine k _ _ (bG hp _) ⟨(·=p),?_,λa q=>by cases q;exact hp⟩
 unfold Ow
 exact⟨p,[],nil,rfl,bB,rfl,λz=>z,λx=>⟨.inl,λz=>z.elim id False.elim⟩,by unfold bY;exact⟨λ_ z=>z,rfl⟩⟩⟩
theorem Cu{H:Hp}{d:D}{v:V}(o:Ow K H d nil v)(k:List Key):∀{ks:List (List Key)} {ds:List D} {A:Fp} {xs:List V},ks.length=xs.length→bY K H ds A xs→∃A',(∀x,A' x→A x)∧bY K H (P7 (λk' d'=>if k'=k then d else d') ks ds) A' (P7 (λk' d'=>if k'=k then v else d') ks xs)
 | [],ds,A,xs,hl,h=>by
  cases xs with
  | nil=>exact⟨nil,λ_ z=>z.elim,by rw[R9,R9];unfold bY;exact⟨λ_ z=>z,rfl⟩⟩
  | cons x xs=>simp at hl
 | k0::ks,[],A,xs,hl,h=>by unfold bY at h;rw[h.2]at hl;simp at hl
 | k0::ks,d0::ds,A,xs,hl,h=>by
  unfold bY at h
  obtain⟨y,yt,A1,A2,rfl,h2,h3,h4,h5⟩:=h
  obtain⟨A',a1,a2⟩:=Cu o k (by simpa using hl) h5
  by_cases c:k0=k
  ·refine⟨A',λx q=>(h3 x).mpr (.inr (a1 x q)),?_⟩
   rw[K1,K1,if_pos c,if_pos c]
   unfold bY
   exact⟨v,_,nil,A',rfl,λ_ z=>z.elim,λx=>⟨.inr,λz=>z.elim False.elim id⟩,o,a2⟩
  ·refine⟨dD A1 A',λx q=>(h3 x).mpr (q.imp id (a1 x)),?_⟩
   rw[K1,K1,if_neg c,if_neg c]
   unfold bY
   exact⟨y,_,A1,A',rfl,λx z1 z2=>h2 x z1 (a1 x z2),λ_=>Iff.rfl,h4,a2⟩
def ZL(K:aA)(t:TA)(fs:FA)(i:Nat):Prop:=∀(σ:St)(H:Hp)(e:DE)(ds:List D)(v:V)(Q:List V→Hp→Prop),nJ K H e σ→fs e=some ds→σ[i]?=some (some v)→(∀vs H',aG H H'→wL K H H' ds vs→Q (vs++[v]) H')→t σ H Q
structure sr(K:aA)(X:Cx)(es:List Expr)(t:TA)(fs:FA)(i:Nat):Prop where
 hk:X.K=K
 pa:PA X es t
 ev:ZL K t fs i
end
end L2


namespace L2
open PySem PySem.Spec PySem.Calls PyProof.Rows PyProof.V
section
variable{K:aA}{X:Cx}{st:Stmt}{e a b c o:Expr}{es rest:List Expr}{te ta tb tc t0 tv:TE}{f fa fb g:FE}{gk:FK}{gd:FE}{tA:TA}{fs:FA}{pos apos:Pos}{i j:Nat}{π:FP}{gj:TS}{gm:GM}
end
end L2
namespace L2
open PySem PySem.Spec PySem.Calls PyProof.Rows PyProof.V
end L2


namespace L2
open PySem PySem.Spec PySem.Calls PyProof.Rows PyProof.V
section
variable{K:aA}{X:Cx}{e stx:Expr}{te ts:TE}{f g:FE}{pos p2:Pos}
end
end L2


namespace L2
open PySem PySem.Spec PySem.Calls PyProof.Rows PyProof.V
abbrev FE2:=DE→DE→Option D
def lu(K:aA)(t:TE)(f:FE2):Prop:=∀{N:Fp}(σ:St)(H Z:Hp)(eF eZ:DE)(d:D)(Q:VK),Zn K N Z H→nJ K H eF σ→nJ K Z eZ σ→f eF eZ=some d →
 (∀v H' Z',aG H H'→aG Z Z'→Zn K N Z' H'→Rv K Z' d v→Q v H')→t σ H Q
def ZM(K:aA)(t:TA)(f:FA2):Prop:=∀{N:Fp}(σ:St)(H Z:Hp)(eF eZ:DE)(ds:List D)(Q:List V→Hp→Prop),Zn K N Z H→nJ K H eF σ→nJ K Z eZ σ→f eF eZ=some ds →
 (∀vs H' Z',aG H H'→aG Z Z'→Zn K N Z' H'→bH K Z' ds vs→Q vs H')→t σ H Q
structure XZ(K:aA)(X:Cx)(e:Expr)(t:TE)(f:FE2):Prop where
 hk:X.K=K
 pe:PE X e t
 ev:lu K t f
structure su(K:aA)(X:Cx)(es:List Expr)(t:TA)(f:FA2):Prop where
 hk:X.K=K
 pa:PA X es t
 ev:ZM K t f
section
variable{K:aA}{X:Cx}{e a b:Expr}{es:List Expr}{te ta tb:TE}{f:FE}{g h:FE2}{tA:TA}{fs:FA2}{pos:Pos}{i:Nat}
end
end L2


namespace L2
open PySem PySem.Spec PySem.Calls PyProof.Rows PyProof.V
inductive Ar where
  | ch (i:Nat) | rd (f:FE) | nw (f:FE)
def VR:List Ar→List Nat
 | []=>[]
 | .ch i::as=>i::VR as
 | .rd _::as=>VR as
 | .nw _::as=>VR as
def WD:List Ar→DE→DE→Option (List D)
 | [],_,_=>some []
 | .ch _::as,eF,eZ=>WD as eF eZ
 | .rd f::as,eF,eZ=>(f eZ).bind λd=>(WD as eF eZ).map λr=>d::r
 | .nw f::as,eF,eZ=>(f eF).bind λd=>(WD as eF eZ).map λr=>d::r
def Ji(K:aA)(Z:Hp)(σ:St):List Ar→List D→List V→Prop
 | [],ds,vs=>ds=[]∧vs=[]
 | .ch i::as,ds,vs=>∃v r,vs=v::r∧σ[i]?=some (some v)∧Ji K Z σ as ds r
 | .rd _::as,ds,vs=>∃d dr v r,ds=d::dr∧vs=v::r∧Rv K Z d v∧Ji K Z σ as dr r
 | .nw _::as,ds,vs=>∃d dr v r,ds=d::dr∧vs=v::r∧Rv K Z d v∧Ji K Z σ as dr r
def gn(σ:St):List Nat→List V→Prop
 | [],vs=>vs=[]
 | j::js,vs=>∃v r,vs=v::r∧σ[j]?=some (some v)∧gn σ js r
section
variable{K:aA}{X:Cx}{e:Expr}{es:List Expr}{te:TE}{f:FE}{tA:TA}{as:List Ar}{pos:Pos}{i:Nat}
def ZP(K:aA)(t:TA)(as:List Ar):Prop:=∀(A1:Fp)(σ:St)(H:Hp)(eF eZ:DE)(ds:List D)(cv:List V)(Q:List V→Hp→Prop),(∀x,A1 x→lE H x)→nJ K H eF σ→nJ K (out H A1) eZ σ→gn σ (VR as) cv→WD as eF eZ=some ds →
 (∀vs H',aG H H'→Ji K (out H' A1) σ as ds vs→Q vs H')→t σ H Q
structure sy(K:aA)(X:Cx)(es:List Expr)(t:TA)(as:List Ar):Prop where
 hk:X.K=K
 pa:PA X es t
 ev:ZP K t as
end
section
variable{K:aA}{H H' Z Z' B:Hp}{σ:St}
end
section
variable{K:aA}{X:Cx}{e:Expr}{es:List Expr}{tA:TA}{as:List Ar}{pos pf:Pos}
end
section
variable{P:Program}{w:World}{K:aA}{mg:Str→Option Value}{base:Heap}
end
section
variable{K:aA}{X:Cx}{a b:Expr}{rest:List Expr}{ta tb:TE}{g h:GM}{f:FE}{pos:Pos}
end
end L2


namespace L2
open PySem PySem.Spec PySem.Calls PyProof.Rows PyProof.V
section
variable{prog:Program}{w:World}{A:Around}{R:Result→Shared→Prop}{I:Addr}{fp wr:List Addr}{n:Nat}{P:Nat→Value→Prop}{St:Nat→Heap→Prop}{kw:List (Str×Value)}
end
section
variable{prog:Program}{w:World}{A:Around}{E:Value→Shared→Prop}{s:Shared}
end
section
variable{K:aA}{X:Cx}{e e2:Expr}{te t2:TE}{f g:FE}{x:Str}{p pos kp:Pos}
end
end L2


namespace L2
open PySem PySem.Spec PySem.Calls PyProof.Rows PyProof.V
section
variable{X:Cx}
end
section
variable{K:aA}{X:Cx}{a b e:Expr}{ta tb te:TE}{f g:FE}{i:Nat}{π:FP}{pos apos cpos:Pos}{m:Str}
end
end L2


namespace L2
open PySem PySem.Spec PySem.Calls PyProof.Rows PyProof.V
def JN(ks:List Key)(vs:List V):List (V×V):=(ks.zip vs).map λkv=>(kV kv.1,kv.2)
def ZQ(K:aA)(t:List (TE×TE))(ks:List Key)(is:List Nat)(fs:FA):Prop:=∀(σ:St)(H:Hp)(e:DE)(ds:List D)(xs:List V)(Q:List (V×V)→Hp→Prop),nJ K H e σ→fs e=some ds→xs.length=is.length →
 (∀(k i:Nat),is[k]?=some i→∃x,xs[k]?=some x∧σ[i]?=some (some x))→(∀vs H',aG H H'→wL K H H' ds vs→Q (JN ks (xs++vs)) H')→Ek t σ H Q
structure tu(K:aA)(X:Cx)(p:Pos)(keys:List (Option Expr))(vals:List Expr)(t:List (TE×TE))(ks:List Key)(is:List Nat)(fs:FA):Prop where
 hk:X.K=K
 uc:iu X p keys vals t
 ev:ZQ K t ks is fs
section
variable{K:aA}{X:Cx}{st:Stmt}{e:Expr}{vals:List Expr}{keys:List (Option Expr)}{te:TE}{f:FE}{fs:FA}{pos p p1:Pos}{i j:Nat}{t:List (TE×TE)}{ks:List Key}{is:List Nat}{x:Str}
end
section
variable{X:Cx}{K:aA}{x y:Str}{p p2 pos pos2:Pos}{a b:Expr}{t:TA}{fs:FA}
end
end L2


namespace L2
open PySem PySem.Spec PySem.Calls PyProof.Rows PyProof.V
section
variable{K:aA}{X:Cx}{a e:Expr}{ta te:TE}{f:FE}{π:FP}{i:Nat}{m:Str}{apos cpos pos:Pos}
end
end L2


namespace L2
open PySem PySem.Spec PySem.Calls PyProof.Rows PyProof.V
section
variable{K:aA}{X:Cx}{a b e:Expr}{es:List Expr}{ta tb te t:TE}{f g:FE}{tA:TA}{fs:FA}{pos apos cpos p2:Pos}{m:Str}
structure gq(mg:Str→Option Value)(x:Str)(i:Str):Prop where
 ex:∃t,mg x=some (.str i t)
def Yz(i j:Int):Prop:=0<j∧j.natAbs.log2<9000
instance:∀i j,Decidable (Yz i j):=λi j=>by unfold Yz;exact inferInstance
end
section
variable{P:Program}{w:World}{K:aA}{tg:Expr}
end
section
variable{K:aA}{X:Cx}{tg e l:Expr}{t tl:TE}{f:FE}
end
end L2


namespace L2
open PySem PySem.Spec PySem.Calls PyProof.Rows PyProof.V
section
variable{K:aA}{X:Cx}{a b c e:Expr}{ta tb tc te t:TE}{f g fa fb fc:FE}{pos apos cpos:Pos}{m:Str}
end
end L2


namespace L2
open PySem PySem.Spec PySem.Calls PyProof.Rows PyProof.V
section
variable{K:aA}{B H H':Hp}{env:EN}{σ:St}{i j:Nat}{v:V}{d:D}
end
end L2


namespace L2
open PySem PySem.Spec PySem.Calls PyProof.Rows PyProof.V
abbrev RQ(h:Heap)(l:List Env):Heap:=V5 h (frs l)
structure Fl(l:List Env)(s1:Shared)(e:Addr)(cls:Value)(s':Shared):Prop where
 ud:∃a0,Heap.FlyingW (RQ s1.heap l) l e cls a0 s'.heap
 up:s1.heap.UpToSlots s'.heap
 os:s'.os=s1.os
 bare:AllBare s'.gens
def WK(P:Program)(w:World):Ks:=λouter H s E ev s'=>∃e cls H' s1,ev=.ref e∧s1.os=s.os∧AllBare s1.gens∧Un (frs outer) [] H H' s.heap s1.heap∧nG P w H' s1.heap∧Fl outer s1 e cls s'∧E cls none H'
section
variable{P:Program}{w:World}{l:List Env}{s1 s':Shared}{e:Addr}{cls:Value}{H:Hp}{base:Heap}
end
section
variable{X:Cx}{pins:List (Addr×Obj)}{σ:St}{H:Hp}{s s1 s':Shared}{e:Addr}{cls ev:Value}{E:XK}
end
section
variable{P:Program}{w:World}{env:Env}{outer:List Env}{L e:Addr}{cls a0:Value}{s0 s1:Shared}{H0 H:Hp}{E:XK}{base h':Heap}{s2:Shared}
end
section
variable{P:Program}{w:World}{K:aA}{mg:Str→Option Value}{base:Heap}{N:List Str}{qual:Str}{scope:Scope}{f:Addr}{cd:Value}{A:Around}{outer:List Env}{s0:Shared}{H0:Hp}{E:XK}
end
end L2


namespace L2
open PySem PySem.Spec PySem.Calls PyProof.Rows PyProof.V
abbrev GZ:=EN→Option Nat
def DZ(K:aA)(κ:Nat→Addr)(E:XK)(t:TS)(z:GZ):Prop:=∀(B:Hp)(D:Ends)(σ:St)(H:Hp)(env:EN)(i:Nat),Rel K B env σ H→z env=some i→(∀H',aG B H'→E (.ref (κ i)) none H')→t D σ H
structure YZ(K:aA)(κ:Nat→Addr)(X:Cx)(E:XK)(st:Stmt)(t:TS)(z:GZ):Prop where
 ps:PS X st t
 ev:DZ K κ E t z
structure ue(K:aA)(κ:Nat→Addr)(X:Cx)(E:XK)(st:List Stmt)(t:TS)(z:GZ):Prop where
 ps:Dw X st t
 ev:DZ K κ E t z
structure lz(P:Program)(w:World)(K:aA)(mg:Str→Option Value)(base:Heap)(x:Str)(k:Nat)(n:Nat)(sp:Sp):Prop where
 ex:∃f fd ps,ps.length=n∧qP P w K mg base (WK P w) k f fd ps sp∧Binds K fd ps []∧G9 K (.ref f)=true∧mg x=some (.ref f)
structure gr(P:Program)(w:World)(K:aA)(mg:Str→Option Value)(base:Heap)(C:Addr)(m:Str)(k n:Nat)(df:Bool)(sp:Sp):Prop where
 ex:∃f fd ps,ps.length=n∧qP P w K mg base (WK P w) k f fd ps sp∧Binds K fd ps []∧(df=true→Binds K fd ps [Value.none])∧Meth K C m f
theorem Rel.sub{K:aA}{B H:Hp}{env:EN}{σ:St}(r:Rel K B env σ H):aG B H:=let ⟨_,_,b⟩:=r;b.trans (gO _ _)
section
variable{K:aA}{κ:Nat→Addr}{X:Cx}{E:XK}{st:Stmt}{sts rest:List Stmt}{t u:TS}{z z1 z2:GZ}{g:GS}{c e o:Expr}{es:List Expr}{te ta:TE}{tA:TA}{tc:TT}{fc:FT}{f:FE}{fs:FA}{pos apos:Pos}{m:Str}
def mj(X:Cx)(pins:List (Addr×Obj))(σ:St)(e:Expr)(t:TE):Prop:=∀(s:Shared)(H:Hp)(Q:VK),Inv X pins σ H s→t σ H Q→wpAny (model X.prog X.w) X.A (eval e X.env) (EP X pins σ Q) X.xe s
def mq(X:Cx)(pins:List (Addr×Obj))(σ:St)(st:Stmt)(t:TS):Prop:=∀(s:Shared)(H:Hp)(D:Ends),Inv X pins σ H s→t D σ H→wpAny (model X.prog X.w) X.A (exec st X.env) (SP X pins D) X.xe s
def Za(CX:Ks)(X:Cx)(pins:List (Addr×Obj))(σ:St)(E:XK):Prop:=∀(H:Hp)(s:Shared)(e:Value)(s':Shared),Inv X pins σ H s→CX X.stack H s E e s'→X.xe e s'
structure uf(K:aA)(κ:Nat→Addr)(X:Cx)(E:XK)(e:Expr)(t:TE)(z:DE→Option Nat):Prop where
 pe:∀(pins:List (Addr×Obj))(σ:St),Za (WK X.prog X.w) X pins σ E→mj X pins σ e t
 ev:∀(σ:St)(H:Hp)(de:DE)(i:Nat)(Q:VK),nJ K H de σ→z de=some i→(∀H',aG H H'→E (.ref (κ i)) none H')→t σ H Q
end
section
variable{P:Program}{w:World}{K:aA}{mg:Str→Option Value}{base:Heap}{κ:Nat→Addr}
end
section
variable{K:aA}{κ:Nat→Addr}{X:Cx}{E:XK}{z:GZ}{g:GS}{pos:Pos}
end
end L2


namespace L2
open PySem PySem.Spec PySem.Calls PyProof.Rows PyProof.V
abbrev RT:List Value:=[.type "ValueError", .type "Exception", .type "BaseException", .type "object"]
structure ug(K:aA)(mg:Str→Option Value)(x:Str)(C:Addr):Prop where
 mg:mg x=some (.ref C)
 ok:PySem.W.excIn K C RT "ValueError.__new__" = true
section
variable{P:Program}{w:World}{K:aA}{mg:Str→Option Value}{base:Heap}{N:List Str}{qual:Str}{scope:Scope}{f:Addr}{cd:Value}{A:Around}{outer:List Env}{s0:Shared}{H0:Hp}{E:XK}{κ:Nat→Addr}
 {x:Str} {C:Addr} {np cpos pos:Pos} {e:Expr} {es:List Expr} {tA:TA}
end
abbrev Cx.tr(X:Cx)(pn:List (Addr×Obj))(Ex:Value→Shared→Prop):Cx:={X with pn:=pn,xe:=Ex}
abbrev Cx.hand(X:Cx)(pn:List (Addr×Obj))(e:Addr):Cx:={X with pn:=pn,A:=X.A.mark (some (.ref e)),calm:=false,xe:=λ_ _=>False}
section
variable{X:Cx}{pins Nu pn:List (Addr×Obj)}{σ:St}{H:Hp}{s s':Shared}{Ex:Value→Shared→Prop}{e:Addr}{D:Ends}{fl:Flow}
end
abbrev RV:=Nat→Nat→Bool
section
variable{K:aA}{κ:Nat→Addr}{X:Cx}{sub:RV}{n nj:Nat}{z:GZ}{g:GS}{st:Stmt}{pos:Pos}
def my(k:Nat)(g:GS):GS:=λenv=>if k<env.length then(match g (env.set k .no)with
 | .next env'=>if k<env'.length then .next (env'.set k .no)else .bad
 | _=>.bad)else .bad
structure YE(K:aA)(X:Cx)(k:Nat)(e:Addr)(sts:List Stmt)(t:TS)(g:GS):Prop where
 ps:Dw X sts t
 ev:∀(B:Hp)(D:Ends)(σ:St)(H:Hp)(env:EN),Rel K B env σ H→σ[k]?=some (some (.ref e))→sU K B D (g env)→t D σ H
inductive HK(K:aA)(κ:Nat→Addr)(X:Cx)(n i:Nat):List ExceptHandler→List (Nat×GS)→Prop
 | nil:HK K κ X n i [] []
 | cons {x:Str} {np hp:Pos} {b₀:Stmt} {suite:List Stmt} {rest:List ExceptHandler} {j:Nat} {gh:GS} {r:List (Nat×GS)} (hm:X.mg x=some (.ref (κ j))) (hg:Gl X x) (hd:(x==("__debug__" : Str))=false)
   (hs:∀(pn:List (Addr×Obj))(e:Addr),∃t,YB K (X.hand pn e) (b₀::suite) t gh) (hr:HK K κ X n i rest r):HK K κ X n i (.ExceptHandler (some (.Name x np)) none (b₀::suite) hp::rest) ((j,gh)::r)
 | as {x nm:Str} {np hp:Pos} {b₀:Stmt} {suite:List Stmt} {rest:List ExceptHandler} {j k:Nat} {gh:GS} {r:List (Nat×GS)} (hm:X.mg x=some (.ref (κ j))) (hg:Gl X x) (hd:(x==("__debug__" : Str))=false) (hN:X.N.Nodup) (hk:X.N[k]?=some nm) (hl:X.env.scope.names.lookup nm=some .local)
   (hs:∀(pn:List (Addr×Obj))(e:Addr)(oe:Obj),i<n→oe.cls=.ref (κ i)→(e,oe)∈pn→∃t,YE K (X.hand pn e) k e (b₀::suite) t gh) (hr:HK K κ X n i rest r):HK K κ X n i (.ExceptHandler (some (.Name x np)) (some nm) (b₀::suite) hp::rest) ((j,my k gh)::r)
structure ZS(K:aA)(κ:Nat→Addr)(X:Cx)(E:XK)(st:Stmt)(t:TS)(z:GZ):Prop where
 ps:∀(pins:List (Addr×Obj))(σ:St),Za (WK X.prog X.w) X pins σ E→mq X pins σ st t
 ev:∀(B:Hp)(D:Ends)(σ:St)(H:Hp)(env:EN)(i:Nat),Rel K B env σ H→z env=some i→(∀H',aG H H'→E (.ref (κ i)) none H')→t D σ H
end
end L2


namespace L2
open PySem PySem.Spec PySem.Calls PyProof.Rows PyProof.V
section
variable{K:aA}{X:Cx}{κ:Nat→Addr}{pos p:Pos}
structure XE(K:aA)(X:Cx)(k:Nat)(ea:Addr)(e:Expr)(t:TE)(d:D):Prop where
 pe:PE X e t
 ev:∀(σ:St)(H:Hp)(Q:VK),σ[k]?=some (some (.ref ea))→(∀v H',aG H H'→xH K H H' d v→Q v H')→t σ H Q
end
section
variable{K:aA}{X:Cx}{g:GS}{pos:Pos}
end
end L2


namespace L2
open PySem PySem.Spec PySem.Calls PyProof.Rows PyProof.V
section
variable{K:aA}{X:Cx}{pos p0:Pos}
end
end L2


namespace L2
open PySem PySem.Spec PySem.Calls PyProof.Rows PyProof.V Builtin Builtin.ObjectAttr Builtin.Getset_descriptor
section
variable{P:Program}{w:World}{A:Around}{E:Value→Shared→Prop}{s:Shared}{K:aA}{x D:Addr}{ox:Obj}{od:Option Obj}
structure mz(K:aA)(D:Addr):Prop where
 ga:J0 K (.ref D) "__getattribute__" = some (some (.builtin "BaseException.__getattribute__"))
 gt:J0 K (.ref D) "__getattr__" = some none
 cl:J0 K (.ref D) "__class__" = some (some (.builtin "object.__class__"))
 sp:O9 K (.builtin "object.__class__") "__get__" = some (some (.builtin "getset_descriptor.__get__"))
 tk:V7 K (.builtin "object.__class__")=some true
 mr:W7 K D (.type "object")=some true
 bx:PySem.W.subIn K (.ref D) (.type "BaseException")=some true
 ct:(PySem.W.clsIn K D).isSome=true
end
section
variable{K:aA}{X:Cx}{κ:Nat→Addr}{pos p:Pos}
structure uh(K:aA)(X:Cx)(k:Nat)(ea:Addr)(e:Expr)(t:TE)(f:FE):Prop where
 hk:X.K=K
 pe:PE X e t
 ev:∀(σ:St)(H:Hp)(de:DE)(d:D)(Q:VK),nJ K H de σ→σ[k]?=some (some (.ref ea))→f de=some d→(∀v H',aG H H'→xH K H H' d v→Q v H')→t σ H Q
structure um(K:aA)(X:Cx)(k:Nat)(ea:Addr)(es:List Expr)(t:TA)(fs:FA):Prop where
 hk:X.K=K
 pa:PA X es t
 ev:∀(σ:St)(H:Hp)(de:DE)(ds:List D)(Q:List V→Hp→Prop),nJ K H de σ→σ[k]?=some (some (.ref ea))→fs de=some ds→(∀vs H',aG H H'→wL K H H' ds vs→Q vs H')→t σ H Q
end
end L2


namespace L2
open PySem PySem.Spec PySem.Calls PyProof.Rows PyProof.V
section
variable{P:Program}{w:World}{K:aA}{mg:Str→Option Value}{base:Heap}{κ:Nat→Addr}
end
section
variable{K:aA}{κ:Nat→Addr}{X:Cx}{E:XK}{pos:Pos}
end
end L2


namespace L2
open PySem PySem.Spec PySem.Calls PyProof.Rows PyProof.V
section
variable{K:aA}{X:Cx}{e:Expr}{t:TE}{f:FE}{pos:Pos}
end
end L2


set_option maxHeartbeats 1000000
namespace L2
open PySem PySem.Spec PySem.Calls PyProof.Rows PyProof.V
section
variable{K:aA}{X:Cx}{e:Expr}{t:TE}{f:FE}{pos p2:Pos}
def RW(z:Str)(lo hi:Option Int):Prop:=(∀i∈lo.toList,0≤i)∧(∀j∈hi.toList,0≤j)∧HT.cN z.length 0 lo≤HT.cN z.length z.length hi∧z.length≤100000
instance:∀z lo hi,Decidable (RW z lo hi):=λz lo hi=>by unfold RW;exact inferInstance
end
end L2


namespace L2
open PySem PySem.Spec PySem.Calls PyProof.Rows PyProof.V
section
variable{K:aA}{X:Cx}{pos:Pos}
variable{κ:Nat→Addr}{sub:RV}{n nj:Nat}
end
end L2


namespace L2
open PySem PySem.Spec PySem.Calls PyProof.Rows PyProof.V
section
variable{K:aA}{X:Cx}
end
end L2


namespace L2
open PySem PySem.Spec PySem.Calls PyProof.Rows PyProof.V
section
variable{K:aA}{X:Cx}{a e0 eM:Expr}{es:List Expr}{t0 tM:TE}{f0:FE}{gM:GM}{tA:TA}{fs:FA}{pos:Pos}{i:Nat}
end
end L2


namespace L2
open PySem PySem.Spec PySem.Calls PyProof.Rows PyProof.V
section
variable{K:aA}{X:Cx}{e1 e2:Expr}{t1 t2 te:TE}{f g fe:FE}{tc:TT}{fc:FT}{pos p p2:Pos}{x:Str}
end
end L2


namespace L2
open PySem PySem.Spec PySem.Calls PyProof.Rows PyProof.V
inductive Ap where
  | ch (i:Nat) (π:FP) | rd (f:FE) | nw (f:FE)
def WL:List Ap→DE→Option (List (Nat×List Step))
 | [],_=>some []
 | .ch i π::as,e=>(π e).bind λp=>(WL as e).map λr=>(i,p)::r
 | .rd _::as,e=>WL as e
 | .nw _::as,e=>WL as e
def WM:List Ap→DE→DE→Option (List D)
 | [],_,_=>some []
 | .ch _ _::as,eF,eZ=>WM as eF eZ
 | .rd f::as,eF,eZ=>(f eZ).bind λd=>(WM as eF eZ).map λr=>d::r
 | .nw f::as,eF,eZ=>(f eF).bind λd=>(WM as eF eZ).map λr=>d::r
def Jj(K:aA)(Z:Hp):List Ap→List V→List D→List V→Prop
 | [],cv,ds,vs=>cv=[]∧ds=[]∧vs=[]
 | .ch _ _::as,cv,ds,vs=>∃v cr r,cv=v::cr∧vs=v::r∧Jj K Z as cr ds r
 | .rd _::as,cv,ds,vs=>∃d dr v r,ds=d::dr∧vs=v::r∧Rv K Z d v∧Jj K Z as cv dr r
 | .nw _::as,cv,ds,vs=>∃d dr v r,ds=d::dr∧vs=v::r∧Rv K Z d v∧Jj K Z as cv dr r
def gw(σ:St)(H:Hp):List (Nat×List Step)→List V→Prop
 | [],vs=>vs=[]
 | (j,p)::js,vs=>∃v0 v r,vs=v::r∧σ[j]?=some (some v0)∧Av H p v0=some v∧gw σ H js r
section
variable{K:aA}{X:Cx}{e:Expr}{es:List Expr}{te:TE}{f:FE}{tA:TA}{as:List Ap}{pos:Pos}{i:Nat}{π:FP}
def ZR(K:aA)(t:TA)(as:List Ap):Prop:=∀(A1:Fp)(σ:St)(H:Hp)(eF eZ:DE)(ds:List D)(ps:List (Nat×List Step))(cv:List V)(Q:List V→Hp→Prop),(∀x,A1 x→lE H x)→nJ K H eF σ→nJ K (out H A1) eZ σ→WL as eF=some ps→gw σ H ps cv→WM as eF eZ=some ds →
 (∀vs H',aG H H'→Jj K (out H' A1) as cv ds vs→Q vs H')→t σ H Q
structure uo(K:aA)(X:Cx)(es:List Expr)(t:TA)(as:List Ap):Prop where
 hk:X.K=K
 pa:PA X es t
 ev:ZR K t as
end
section
variable{K:aA}{H H' Z Z' B:Hp}{σ:St}
end
section
variable{K:aA}{X:Cx}{e:Expr}{es:List Expr}{tA:TA}{as:List Ap}{pos pf:Pos}
end
section
variable{K:aA}{X:Cx}{a b e:Expr}{ta tb te:TE}{g:FE}{gm:GM}{i:Nat}{π:FP}{pos pos':Pos}
end
end L2


namespace L2
open PySem PySem.Spec PySem.Calls PyProof.Rows PyProof.V
section
variable{K:aA}{te:TE}{f:FE}{i:Nat}{c:Int}
end
end L2


namespace L2
open PySem PySem.Spec PySem.Calls PyProof.Rows PyProof.V HT
section
variable{X:Cx}{K:aA}{e:Expr}{t:TE}{f:FE}{x y:Str}{p p2 pos pos2:Pos}
end
end L2


namespace L2
open PySem PySem.Spec PySem.Calls PyProof.Rows PyProof.V
def RX(base:Heap)(l:List Env)(e:Addr)(cls a0:Value)(h:Heap):Prop:=base.StaysIn h∧base.get? e=none∧h.FunFrames base l∧∃fl,h.TracedAtW base e cls a0 fl
section
variable{M:Model}{A:Around}{E:Value→Shared→Prop}{s:Shared}{base:Heap}{env:Env}{outer l:List Env}{L e:Addr}{cls a0:Value}
end
structure Hl(l:List Env)(s1:Shared)(e:Addr)(cls:Value)(s':Shared):Prop where
 held:∃a0,RX (RQ s1.heap l) l e cls a0 s'.heap
 up:s1.heap.UpToSlots s'.heap
 os:s'.os=s1.os
 bare:AllBare s'.gens
section
variable{P:Program}{w:World}{K:aA}{mg:Str→Option Value}{base:Heap}{N:List Str}{qual:Str}{scope:Scope}{f:Addr}{cd:Value}{A:Around}{outer:List Env}{s0:Shared}{H0:Hp}{E:XK}
end
section
variable{X:Cx}{EE:XK}
end
section
variable{K:aA}{κ:Nat→Addr}{X:Cx}{E:XK}
end
section
variable{K:aA}{κ:Nat→Addr}{X:Cx}{E:XK}{a e:Expr}{ta tz:TE}{f:FE}{z:DE→Option Nat}{pos:Pos}
end
end L2


namespace L2
open PySem PySem.Spec PySem.Calls PyProof.Rows PyProof.V
section
variable{K:aA}{te:TE}{f:FE}{tc:TT}{c:FT}{i j:Nat}
end
end L2


namespace L2
open PySem PySem.Spec PySem.Calls PyProof.Rows PyProof.V
section
variable{M:Model}{A:Around}{E:Value→Shared→Prop}{s:Shared}
theorem Rn{scope:Scope}{globals:Addr}{cl:List (Str×Addr)}{qual:Str}{env:Env}{Q:Env→Shared→Prop}
  (hQ:Q {scope:=scope,locals:=s.heap.objs.size,globals:=globals,cells:=cellsFrom (s.heap.objs.size+1) scope.names cl,qual:=qual,func:=none,code:=env.code,frame:=env.frame,builtins:=env.builtins} {s with heap:=pushCells (s.heap.push {cls:=.type "dict", data:=.dict #[]}) scope.names}) :
  wpAny M A (newFunctionEnv scope globals cl [] qual none .none (some env)) Q E s:=by
 simp only[newFunctionEnv,O6,if_true]
 refine wpAny_bind (wpAny_alloc ?_)
 refine wpAny_bind (wpAny_layCells _ (λname kind cells=>by cases hkc:kind==NameKind.cell<;>simp[hkc]) _ _ _ _ ?_)
 rw[show ({s with heap:=s.heap.push {cls:=.type "dict", data:=.dict #[]}}:Shared).heap.objs.size=s.heap.objs.size+1 from Heap.size_push ..]
 rw[List.forIn_nil]
 exact wpAny_bind (wpAny_pure (wpAny_pure hQ))
end
theorem dF:∀(names:List (Str×NameKind))(n:Nat)(acc:List (Str×Addr)),cellsFrom n names acc=cellsFrom n names []++acc
 | [],n,acc=>rfl
 | (x,k)::r,n,acc=>by
  unfold cellsFrom
  split
  ·rw[dF r (n+1) ((x,n)::acc),dF r (n+1) [(x,n)],U3]
   rfl
  ·exact dF r n acc
theorem jG:∀(names:List (Str×NameKind))(n:Nat) {x:Str} {c:Addr},(x,c)∈cellsFrom n names []→(x,NameKind.cell)∈names∧n≤c
 | [],n,x,c,h=>by cases h
 | (y,k)::r,n,x,c,h=>by
  unfold cellsFrom at h
  split at h
  ·rename_i hk
   rw[dF]at h
   rcases E7.mp h with z | z
   ·obtain⟨a,b⟩:=jG r (n+1) z
    exact⟨B7 _ a,C7 (D7 _) b⟩
   ·cases C8.mp z
    rw[eq_of_beq hk]
    exact⟨C4,B6 _⟩
  ·obtain⟨a,b⟩:=jG r n h
   exact⟨B7 _ a,b⟩
theorem pU{α:Type}{x:Str}:∀(a b:List (Str×α)),(a++b).lookup x=match a.lookup x with | some c=>some c | none=>b.lookup x
 | [],b=>rfl
 | (y,c)::a,b=>by
  rw[G2,J9,J9]
  cases x==y with
  | true=>rfl
  | false=>exact pU a b
theorem Cv{α:Type}{x:Str}{c:α}:∀{a:List (Str×α)},(x,c)∈a→∃c',a.lookup x=some c'
 | [],h=>by cases h
 | (y,d)::a,h=>by
  rw[J9]
  cases q:x==y with
  | true=>exact⟨_,rfl⟩
  | false=>
   rcases B8.mp h with z | z
   ·cases z
    simp at q
   ·exact Cv z
theorem rD:∀(names:List (Str×NameKind))(n:Nat) {x:Str},(x,NameKind.cell)∈names→∃c,(x,c)∈cellsFrom n names []
 | [],n,x,h=>by cases h
 | (y,k)::r,n,x,h=>by
  unfold cellsFrom
  split
  ·rw[dF]
   rcases B8.mp h with z | z
   ·cases z
    exact⟨n,C9 _ (C8.mpr rfl)⟩
   ·obtain⟨c,hc⟩:=rD r (n+1) z
    exact⟨c,K4 _ hc⟩
  ·rename_i hk
   rcases B8.mp h with z | z
   ·cases z
    exact absurd rfl hk
   ·exact rD r n z
theorem gW{names:List (Str×NameKind)}{n:Nat}{cl:List (Str×Addr)}{x:Str}{c:Addr}(h:(cellsFrom n names cl).lookup x=some c):((x,c)∈cellsFrom n names []∧n≤c)∨cl.lookup x=some c:=by
 rw[dF,pU]at h
 cases q:(cellsFrom n names []).lookup x with
 | some c'=>
  rw[q]at h
  cases h
  have m:=E3 q
  exact .inl ⟨m,(jG _ _ m).2⟩
 | none=>
  rw[q]at h
  exact .inr h
theorem xW{names:List (Str×NameKind)}{n:Nat}{cl:List (Str×Addr)}{x:Str}{c:Addr}(h:cl.lookup x=some c)(hn:(x,NameKind.cell)∉names):(cellsFrom n names cl).lookup x=some c:=by
 rw[dF,pU]
 cases q:(cellsFrom n names []).lookup x with
 | some c'=>exact absurd (jG _ _ (E3 q)).1 hn
 | none=>exact h
theorem xX{names:List (Str×NameKind)}{n:Nat}{cl:List (Str×Addr)}{x:Str}(hn:(x,NameKind.cell)∈names):∃c,(cellsFrom n names cl).lookup x=some c∧n≤c:=by
 obtain⟨c,hc⟩:=rD names n hn
 obtain⟨c',q⟩:=Cv hc
 refine⟨c',?_,(jG _ _ (E3 q)).2⟩
 rw[dF,pU,q]
theorem Ft{scope:Scope}{env:Env}{x:Str}(h:(relabel scope env).names.lookup x=some .cell∨(relabel scope env).names.lookup x=some .free):(x,NameKind.free)∈scope.names∨(x,NameKind.cell)∈scope.names:=by
 have m:(x,NameKind.cell)∈(relabel scope env).names∨(x,NameKind.free)∈(relabel scope env).names:=by
  rcases h with h | h
  ·exact .inl (E3 h)
  ·exact .inr (E3 h)
 unfold relabel at m
 rcases m with m | m
 ·obtain⟨⟨n,k⟩,hm,e⟩:=G6.mp m
  dsimp only at e
  split at e
  ·rename_i hc
   simp only[D5,beq_iff_eq]at hc
   cases e
   rw[hc.1.1]at hm
   exact .inl hm
  ·cases e
   exact .inr hm
 ·obtain⟨⟨n,k⟩,hm,e⟩:=G6.mp m
  dsimp only at e
  split at e
  ·cases e
  ·cases e
   exact .inl hm
def cZ(X:Cx)(scope:Scope)(N:List Str)(cl:List (Str×Addr))(fp:List Addr)(s:Shared)(H:Hp)(C:Addr):Cx:={cC X scope N cl fp s H C with fn:=λx=>decide ((x,NameKind.cell)∈scope.names)}
structure eX(oG scope:Scope)(oN N:List Str)(k:Nat)(fr:List Nat):Prop where
 kind:scope.kind=.function
 loc:∀y∈scope.names,y.2=.local→scope.names.lookup y.1=some .local
 free:∀y∈scope.names,y.2=.free→oG.names.lookup y.1=some .cell∨oG.names.lookup y.1=some .free
 len:N.length=k+fr.length
 slots:∀j∈D3 fr.length,oN[fr.getD j 0]?=N[k+j]?
 from_:∀x∈N.drop k,(x,NameKind.free)∈scope.names∧((cP scope oG).names.lookup x=some .cell∨(cP scope oG).names.lookup x=some .free)
 apart:∀y∈scope.names,y.2=.free→(y.1,NameKind.cell)∉scope.names
def Ro(oG scope:Scope)(oN N:List Str)(k:Nat)(fr:List Nat):Bool:=
 decide (scope.kind=.function)&&decide (∀y∈scope.names,y.2=.local→scope.names.lookup y.1=some .local) &&
 decide (∀y∈scope.names,y.2=.free→oG.names.lookup y.1=some .cell∨oG.names.lookup y.1=some .free)&&decide (N.length=k+fr.length) &&
 decide (∀j∈D3 fr.length,oN[fr.getD j 0]?=N[k+j]?) &&
 decide (∀x∈N.drop k,(x,NameKind.free)∈scope.names∧((cP scope oG).names.lookup x=some .cell∨(cP scope oG).names.lookup x=some .free)) &&
 decide (∀y∈scope.names,y.2=.free→(y.1,NameKind.cell)∉scope.names)
theorem eX.at{scope:Scope}{N:List Str}{k:Nat}{fr:List Nat}(oG:Scope)(oN:List Str)(h:Ro oG scope oN N k fr=true):eX oG scope oN N k fr:=by
 unfold Ro at h
 simp only[D5,decide_eq_true_eq]at h
 obtain⟨⟨⟨⟨⟨⟨h1,h2⟩,h3⟩,h4⟩,h5⟩,h6⟩,h7⟩:=h
 exact⟨h1,h2,h3,h4,h5,h6,h7⟩
section
variable{X:Cx}
theorem Cw{pins:List (Addr×Obj)}{σ:St}{H:Hp}{s:Shared}{scope:Scope}{N:List Str}{k:Nat}{fr:List Nat}{cl:List (Str×Addr)}{fp:List Addr}
    (I:Inv X pins σ H s) (B:eX X.env.scope scope X.N N k fr) (hf:∀b∈fp,sH X pins H b) (hfo:∀b∈fp,b<s.heap.objs.size)
    (hcl:∀x c,cl.lookup x=some c→(x,NameKind.free)∈scope.names∧X.env.cells.lookup x=some c) (zB:∀x,(x,NameKind.free)∈scope.names→∃c,cl.lookup x=some c) :
    Inv (cZ X scope N (cellsFrom (s.heap.objs.size+1+1) scope.names cl) fp s H (s.heap.objs.size+1)) [] (blk k σ fr) (upd H s.heap.objs.size (.lst [])) {s with heap:=pushCells ((s.heap.push {cls:=.type "list", data:=.seq ([]:List Value).toArray}).push {cls:=.type "dict", data:=.dict #[]}) scope.names}:=by
  have I3:=I.DK (ys:=[]) (its:=[]) (t':=s.toks) .nil (J4 _)
  have hD:H s.heap.objs.size=none:=I.fresh
  have hC:H (s.heap.objs.size+1)=none:=I.hok.fresh (D7 _)
  generalize hg2:(s.heap.push {cls:=.type "list", data:=.seq ([]:List Value).toArray}).push {cls:=.type "dict", data:=.dict #[]}=g2
  have ni:g2.objs.size=s.heap.objs.size+1+1:=by rw[←hg2,Heap.size_push,Heap.size_push]
  have ok:=cellsFrom_ok scope.names g2 g2.objs.size [] ⟨λ_ _ hm=>(nomatch hm),U5⟩ (B6 _)
  rw[ni]at ok
  have Zb:∀b o,g2.get? b=some o→(pushCells g2 scope.names).get? b=some o:=λb o e=>pushCells_keeps _ _ b o e
  have Bl:∀b o,(s.heap.push {cls:=.type "list", data:=.seq ([]:List Value).toArray}).get? b=some o→(pushCells g2 scope.names).get? b=some o:=λb o e=>Zb b o (by rw[←hg2];exact Heap.get?_push_of_some _ e)
  have kept:∀b o,s.heap.get? b=some o→(pushCells g2 scope.names).get? b=some o:=λb o e=>Bl b o (Heap.get?_push_of_some _ e)
  have hns:(pushCells g2 scope.names).Ns (s.heap.objs.size+1) (λ_=>none):=by
    have h0:=Heap.Ns.new (s.heap.push {cls:=.type "list", data:=.seq ([]:List Value).toArray}) (.type "dict")
    rw[Heap.size_push,hg2]at h0
    exact h0.keeps Zb
  have low:∀{x:Str} {c:Addr},cl.lookup x=some c→c<s.heap.objs.size:=λ{x c} h=>by
    obtain⟨v,oc,hoc,hd⟩:=I.cell x c (hcl x c h).2
    exact Heap.lt_size hoc
  generalize hh1:pushCells g2 scope.names=h₁ at *
  refine⟨⟨I.ok.mod,B.kind,I.ok.glob,I.ok.blt,D7 _,λx y c h1 h2=>?_,λx hx=>?_,λx c hfn h=>?_,
      I.ok.hd,I.ok.frames,.inl rfl,λb hb=>⟨?_,λx c e=>?_⟩,λb o e=>I.bs b o e,C7 I.ok.Uo I.sz,λb o e hb=>?_,λb hb hb2=>?_,I.stack,I.yP⟩,
    rfl,I.bare,Un.laid kept (B6 _) hD,⟨λ_=>none,hns,λi x v h1 h2 h3=>?_⟩,λx c e=>?_,?_,λx c e=>?_,λp hp=>absurd (show p∈([]:List (Addr×Obj))from hp) (by simp),?_,?_⟩
  · rcases gW h1 with ⟨m1,q1⟩ | q1
    · rcases gW h2 with ⟨m2,q2⟩ | q2
      · exact PySem.name_of_addr ok.apart m1 m2
      · exact absurd (B0 (low q2) (C7 (D7 _) (C7 (D7 _) q1))) (E2 _)
    · rcases gW h2 with ⟨m2,q2⟩ | q2
      · exact absurd (B0 (low q1) (C7 (D7 _) (C7 (D7 _) q2))) (E2 _)
      · exact I.ok.inj x y c (hcl x c q1).2 (hcl y c q2).2
  · rcases Ft hx with q | q
    · obtain⟨c,hc⟩:=zB x q
      exact⟨c,xW hc (B.apart _ q rfl)⟩
    · obtain⟨c,hc,_⟩:=xX (n:=s.heap.objs.size+1+1) (cl:=cl) q
      exact⟨c,hc⟩
  · obtain⟨c',hc',q⟩:=xX (n:=s.heap.objs.size+1+1) (cl:=cl) (of_decide_eq_true hfn)
    have h:(cellsFrom (s.heap.objs.size+1+1) scope.names cl).lookup x=some c:=h
    rw[hc']at h
    cases h
    exact C7 (D7 _) (C7 (D7 _) q)
  · exact C6 (F3 (hfo b hb))
  · rcases gW e with ⟨_,q⟩ | q
    · exact λz=>absurd (B0 (hfo b hb) (C7 (D7 _) (C7 (D7 _) (z▸q)))) (E2 _)
    · exact(hf b hb).2.2.2.2.1 x c (hcl x c q).2
  · rcases(hf b hb).2.2.2.1 with z | z
    · exact I.ok.Kf b o e z
    · exact absurd (B0 (Heap.lt_size e) (C7 I.ok.Uo z)) (E2 _)
  · rcases B8.mp (I.qM b hb2)with z | z
    · exact(hf b hb).2.1 z
    · exact(hf b hb).2.2.1 z
  · obtain⟨j,o,rfl,h4,h5⟩:=Ie h2
    have h1:N[k+j]?=some x:=h1
    have hj:j<fr.length:=(B9.mp h4).1
    have hx:X.N[o]?=some x:=by
      have q:=B.slots j (L9.mpr hj)
      rw[D6,h4]at q
      exact q.trans h1
    obtain⟨hfr,YC⟩:=B.from_ x (E5 (i:=j) (by rw[M9];exact h1))
    have hk:=B.free _ hfr rfl
    obtain⟨m0,hn0,hl0⟩:=I.loc
    have hv:MT X.env.scope x:=by
      rcases hk with q | q
      · exact .inr (.inl q)
      · exact .inr (.inr q)
    obtain⟨u,r,l⟩:=hl0 o x v hx h5 hv
    refine⟨u,r,.inr ?_⟩
    rcases l with ⟨q,_⟩ | ⟨_,c,e,z⟩
    · rcases hk with q' | q'
      · exact absurd (q.symm.trans q') (by intro z;cases z)
      · exact absurd (q.symm.trans q') (by intro z;cases z)
    · obtain⟨c',e'⟩:=zB x hfr
      have e2:=(hcl x c' e').2
      rw[e]at e2
      cases e2
      refine⟨YC,c,xW e' (B.apart _ hfr rfl),?_⟩
      obtain⟨oc,hoc,hd⟩:=z
      exact⟨oc,kept c oc hoc,hd⟩
  · rcases gW e with ⟨q,_⟩ | q
    · exact⟨none,(ok.empty x c q).1⟩
    · obtain⟨v,oc,hoc,hd⟩:=I.cell x c (hcl x c q).2
      exact⟨v,oc,kept c oc hoc,hd⟩
  · show upd H s.heap.objs.size (.lst []) (s.heap.objs.size+1)=none
    rw[aP (F6 (K0 _))]
    exact hC
  · show upd H s.heap.objs.size (.lst []) c=none
    rcases gW e with ⟨_,q⟩ | q
    · have q':s.heap.objs.size<c:=B0 (F3 (K0 _)) q
      rw[aP (F6 q')]
      exact I.hok.fresh (K9 q')
    · rw[aP (C6 (low q))]
      exact I.iD x c (hcl x c q).2
  · exact nG.kept I3.hok Bl
  · show (blk k σ fr).length=N.length
    rw[B.len]
    unfold blk Bk
    simp
theorem Mf{tg elt iter:Expr}{ifs:List Expr}{scope:Scope}{pos:Pos}{N:List Str}{k:Nat}{fr:List Nat}{g:TG}{tc:TT}{te:TE}{cl:List (Str×Addr)}{pins:List (Addr×Obj)}{σ:St}{H:Hp}{s:Shared}{it:Addr}{fp:List Addr}{tn:Nat→Heap→Prop}{J:It}{Q:VK}
    {RR:Value→Addr→Result→Shared→Prop} {E:Value→Shared→Prop} (hcalm:X.calm=true) (I:Inv X pins σ H s) (T:Turn X.prog X.w X.K tg J fp it tn) (st:tn 0 s.heap) (hf:∀b∈fp,sH X pins H b) (B:eX X.env.scope scope X.N N k fr)
    (hcl:∀x c,cl.lookup x=some c→(x,NameKind.free)∈scope.names∧X.env.cells.lookup x=some c) (zB:∀x,(x,NameKind.free)∈scope.names→∃c,cl.lookup x=some c)
    (hg:∀cl fp s H C,PG (cZ X scope N cl fp s H C) tg g) (hc:∀cl fp s H C,Ut (cZ X scope N cl fp s H C) ifs tc) (he:∀cl fp s H C,PE (cZ X scope N cl fp s H C) elt te)
    (hw:∀D,H D=none→Pg J k fr g tc te σ H Q D)
    (hRR:∀D C m s' H',s'.heap.Ns C m→s.heap.objs.size≤C→H' C=none→C≠D→Inv X pins σ H' s'→Q (.ref D) H'→RR (.ref D) C (.ok .next) s') :
    wpAny (model X.prog X.w) X.A (newList []) (λacc s₃=>wpAny (model X.prog X.w) X.A (newFunctionEnv scope X.env.globals cl [] X.env.qual none .none (some X.env)) (λcenv s₄=>
      codeAny (model X.prog X.w) X.A (.compStart (.ListComp elt [⟨tg,iter,ifs,0⟩] scope pos) 0 (.ref it) acc {cenv with scope:=relabel scope X.env}) (RR acc cenv.locals) s₄) E s₃) E s:=by
  refine wpAny_newObj_type (Rn ?_)
  dsimp only
  rw[Heap.size_push]
  have hfo:∀b∈fp,b<s.heap.objs.size:=λb hb=>by
    obtain⟨o,e,_⟩:=T.obj 0 _ st b hb
    exact Heap.lt_size e
  have I4:=Cw I B hf hfo hcl zB
  generalize hh:pushCells ((s.heap.push {cls:=.type "list", data:=.seq ([]:List Value).toArray}).push {cls:=.type "dict", data:=.dict #[]}) scope.names=h₁ at *
  have RZ:∀b o,s.heap.get? b=some o→h₁.get? b=some o:=λb o e=>by rw[←hh];exact pushCells_keeps _ _ b o (Heap.get?_push_of_some _ (Heap.get?_push_of_some _ e))
  clear hh
  generalize hcl':cellsFrom (s.heap.objs.size+1+1) scope.names cl=cl' at *
  generalize hD:s.heap.objs.size=D at *
  have YD:H D=none:=by rw[←hD];exact I.fresh
  obtain⟨W,⟨m0,w0⟩,turn⟩:=hw D YD
  have st1:tn 0 h₁:=T.keep 0 _ _ st λb hb o e=>RZ b o e
  have YF:∀b∈fp,(upd H D (.lst [])) b=none:=λb hb=>by
    rw[aP (C6 (hfo b hb))]
    exact(hf b hb).1
  generalize hX':cZ X scope N cl' fp s H (D+1)=X' at I4
  have stat:∀{H':Hp},(∀b∈fp,H' b=none)→∀b∈fp,sH X' [] H' b:=λ{H'} hn b hb=>by
    subst hX'
    refine⟨hn b hb,?_,λz=>?_,.inl hb,λx c e=>?_,λp hp=>absurd (show p∈([]:List (Addr×Obj))from hp) (by simp)⟩
    · exact C6 (F3 (hfo b hb))
    · rcases B8.mp (I.qM b z)with z | z
      · exact(hf b hb).2.1 z
      · exact(hf b hb).2.2.1 z
    · have e:cl'.lookup x=some c:=e
      rw[←hcl']at e
      rcases gW e with ⟨_,q⟩ | q
      · exact λz=>by
          have h1:=hfo b hb
          rw[z]at q
          exact absurd (B0 h1 (C7 (D7 _) (C7 (D7 _) q))) (E2 _)
      · exact(hf b hb).2.2.2.2.1 x c (hcl x c q).2
  have loop:∀s₃:Shared,s₃={s with heap:=h₁} →
      codeAny (model X.prog X.w) X.A (.compLoop (.ListComp elt [⟨tg,iter,ifs,0⟩] scope pos) 0 (.ref it) (.ref D) (compEnvC scope cl' (D+1) X.env)) (RR (.ref D) (D+1)) s₃:=by
    rintro s₃ rfl
    refine fX (λn s'=>∃i ys H',Inv X' [] (blk k σ fr) H' s'∧tn i s'.heap∧(∀b∈fp,H' b=none)∧W i n ys H') ?_ m0 ⟨0,[],_,I4,st1,YF,w0⟩
    rintro n s5 ⟨i,ys,H5,I5,st5,fr5,w5⟩
    obtain⟨hys,way⟩:=turn i n ys H5 w5
    have e1:X'.prog=X.prog:=by rw[←hX'];rfl
    have e2:X'.w=X.w:=by rw[←hX'];rfl
    have e3:X'.K=X.K:=by rw[←hX'];rfl
    have e4:X'.A=X.A:=by rw[←hX'];rfl
    have e5:X'.calm=true:=by rw[←hX'];exact hcalm
    have e6:X'.env=compEnvC scope cl' (D+1) X.env:=by rw[←hX'];rfl
    have e7:X'.xe=λ_ _=>False:=by rw[←hX'];rfl
    rcases way with ⟨stop,q⟩ | ⟨go,step⟩
    · have d:=T.done X' e1 e2 e3 e5 i [] s5 _ H5 (λ_ _=>False) I5 (stat fr5) st5 stop
      rw[e4]at d
      refine cJ d λr s6 ⟨hr,I6⟩=>?_
      subst hr
      subst hX'
      obtain⟨m6,YG,_⟩:=I6.loc
      refine hRR D (D+1) m6 s6 H5 YG (D7 _) I6.free (F6 (K0 _)) ?_ q
      exact I.call' I6.os I6.base I6.hok I6.bare λb hb=>⟨(hf b hb).2.2.2.1,(hf b hb).2.1,(hf b hb).2.2.2.2.1,(hf b hb).2.2.2.2.2⟩
    · have d:=T.item X' e1 e2 e3 e5 i [] s5 _ H5 (λ_ _=>False) I5 (stat fr5) st5 go
      rw[e4]at d
      refine cJ d λr s6 ⟨u,hr,h6⟩=>?_
      subst hr
      refine cJ h6 λ_ s7 ⟨x,H7,I7,r7,y7,st7,fr7⟩=>?_
      have YH:=I7.pinned (stat fr7) (T.obj _ _ st7)
      have hg':PG X' tg g:=by rw[←hX'];exact hg _ _ _ _ _
      have hc':Ut X' ifs tc:=by rw[←hX'];exact hc _ _ _ _ _
      have he':PE X' elt te:=by rw[←hX'];exact he _ _ _ _ _
      have a1:=hg' _ s7 _ H7 x u _ YH r7 (step x H7 y7)
      rw[e1,e2,e4,e6,e7]at a1
      refine cJ a1 λ_ s8 ⟨σ8,H8,I8,⟨kl,kk⟩,q8⟩=>?_
      have a2:=hc' _ s8 σ8 H8 _ I8 q8
      rw[e1,e2,e4,e6,e7]at a2
      refine cJ a2 λok s9 ⟨H9,I9,q9⟩=>?_
      have again:∀{Ha:Hp} {ya:List V} {sa:Shared},Inv X' ([]++qN fp s7.heap) σ8 Ha sa→(∃m',m'<n∧W (i+1) m' ya Ha) →
          ∃m,m<n∧∃i ys H',Inv X' [] (blk k σ fr) H' sa∧tn i sa.heap∧(∀b∈fp,H' b=none)∧W i m ys H':=λ{Ha ya sa} Ia ⟨m',hm,w'⟩=>by
        refine⟨m',hm,i+1,ya,Ha,(Ia.weak kl.symm kk).lB,T.keep _ _ _ st7 λb hb o e=>(Ia.pin (b,o) (C9 _ (C9 _ (eG hb e)))).1,λb hb=>?_,w'⟩
        obtain⟨o,e,d⟩:=T.obj _ _ st7 b hb
        exact(Ia.pin (b,o) (C9 _ (C9 _ (eG hb e)))).2.1
      cases ok with
      | false=>exact again I9 q9
      | true=>
        have a3:=he' _ s9 σ8 H9 _ I9 q9
        rw[e1,e2,e4,e6,e7]at a3
        show wpAny _ _ _ _ _ s9
        refine cJ a3 λv YJ ⟨y,H10,I10,r10,hD10,hz,q10⟩=>?_
        have a4:=jC (X:=X') _ YJ σ8 H10 (.ref D) [y] (.ref D) [v] (λ_ QQ=>QQ=upd H10 D (.lst (ys++[y]))) I10 rfl (.cons r10 .nil) ⟨D,ys,y,rfl,rfl,hD10,hz,rfl⟩
        rw[e1,e2,e4,e7]at a4
        refine cJ a4 λ_ iy ⟨_,QQ,I11,_,e11⟩=>?_
        subst e11
        exact again I11 q10
  exact codeAny_compStart_list (loop _ rfl) (T.self _ 0 _ _ _ st1 (loop _ rfl))
theorem Rp{tg elt iter:Expr}{ifs:List Expr}{scope:Scope}{pos:Pos}{wi:TI}{g:TG}{tc:TT}{te:TE}(N:List Str)(k:Nat)(fr:List Nat)(hcalm:X.calm=true)(B:eX X.env.scope scope X.N N k fr)(hi:PI X tg iter wi)
  (hg:∀cl fp s H C,PG (cZ X scope N cl fp s H C) tg g) (hc:∀cl fp s H C,Ut (cZ X scope N cl fp s H C) ifs tc) (he:∀cl fp s H C,PE (cZ X scope N cl fp s H C) elt te)
  (hs:∀x,foldedSetIterable iter X.env x=pure x:=by intro _;rfl):PE X (.ListComp elt [⟨tg,iter,ifs,0⟩] scope pos) (uC wi k fr g tc te):=by
 intro pins s σ H Q I h
 obtain⟨cl,e,h1,h2⟩:=iR scope X.env λy hy hk=>I.ok.has y.1 (B.free y hy hk)
 rw[eval_ListComp]
 refine wpAny_comprehension_free (use:=none) rfl hs e B.kind B.loc (wpAny_mono (hi pins s σ H _ I h) (λxv s₁ q₁=>wpAny_mono q₁ (λitv s₂ q₂=>?_) λ_ _ x=>x) λ_ _ x=>x)
 obtain⟨it,fp,tn,J,H2,rfl,I2,T,st2,f2,hw⟩:=q₂
 refine Mf (Q:=Q) (RR:=λacc C=>compPost (model X.prog X.w) X.A X.xe none (EP X pins σ Q) acc C) hcalm I2 T st2 f2 B h1 h2 hg hc he hw ?_
 intro D C m s' H' hn hC hf hne I' q
 refine⟨m,hn,λh' hs'=>⟨.ref D,H',?_,rfl,q⟩⟩
 exact I'.turned (t':=s'.toks) (λb o hb eb=>(hs'.2 b hb).trans eb) hf (F6 (B0 I2.lt hC)) (.inr (C7 I2.sz hC)) (λx c ec z=>by
  obtain⟨v,q⟩:=I2.cell x c ec
  exact absurd (B0 q.lt (by rw[z];exact hC)) (E2 _)) λp hp z=>absurd (B0 (Heap.lt_size (I2.pin p hp).1) (by rw[z];exact hC)) (E2 _)
theorem Rq{scope:Scope}{N:List Str}{x:Str}{pos:Pos}(hN:N.Nodup)(hi:N[0]?=some x)(hx:(cP scope X.env.scope).names.lookup x=some .cell)(hc:(x,NameKind.cell)∈scope.names) :
  ∀cl fp s H C,PG (cZ X scope N cl fp s H C) (.Name x pos) (bU 0):=λ_ _ _ _ _=>dJ hN hi (D9 hx) (E1 (decide_eq_true hc))
end
section
variable{K:aA}{X:Cx}{tc:TT}{fc:FT}{pos:Pos}
theorem Rr{tg elt iter:Expr}{ifs:List Expr}{scope:Scope}{wi:TI}{fi:FA}{te:TE}{fe:FE}(N:List Str)(fr:List Nat)(hcalm:X.calm=true)(B:eX X.env.scope scope X.N N 1 fr)(hi:XI K X tg iter wi fi)
  (hg:∀cl fp s H C,PG (cZ X scope N cl fp s H C) tg (bU 0)) (hc:∀cl fp s H C,QZ K (cZ X scope N cl fp s H C) ifs tc fc) (he:∀cl fp s H C,XN K (cZ X scope N cl fp s H C) elt te fe)
  (hs:∀x,foldedSetIterable iter X.env x=pure x:=by intro _;rfl):XN K X (.ListComp elt [⟨tg,iter,ifs,0⟩] scope pos) (uC wi 1 fr (bU 0) tc te) (cX fi fr fc fe):=
 ⟨hi.hk,Rp N 1 fr hcalm B hi.pi hg (λcl fp s H C=>(hc cl fp s H C).YX) (λcl fp s H C=>(he cl fp s H C).pe) hs,
  zW hi.ev (hc [] [] X.s₀ X.H₀ 0).ev (he [] [] X.s₀ X.H₀ 0).ev⟩
end
end L2


namespace L2
open PySem PySem.Spec PySem.Calls PyProof.Rows PyProof.V
section
variable{prog:Program}{w:World}{A:Around}{E:Value→Shared→Prop}{s:Shared}{it d:Addr}{i ep:Nat}{es:Array DictEntry}{od:Obj}
theorem Mg{Q:Value→Shared→Prop}(hd:(d==sysModules)=false)(ho:s.heap.get? d=some od)(hc:od.ExactDict)(hdd:od.data=.dict es ep)
  (hQ:Q (.ref s.heap.objs.size) {s with heap:=s.heap.push {cls:=.type "dict_keyiterator", data:=.fields #[.ref d,.int 0 0,.int es.size 0,.int ep 0]}}):wpAny (model prog w) A (pyIter (.ref d)) Q E s:=by
 have hT:s.TypeIs (.ref d) "dict" := ⟨od,ho,hc.1⟩
 refine wpAny_pyIter_slot hT F.slot_dict_iter (wpAny_call_entry F.slot_dict_iter hT F.entry_dict_iter ?_ (F.args_dict_iter_1 _))
 unfold Builtin.«dict.__iter__» Builtin.Dict.dictSlotNone
 refine wpAny_bind (wpAny_bind (wpAny_notOrdered_dict hT ?_))
 refine wpAny_pure (a:=Value.ref d) ?_
 show wpAny _ _ (Builtin.Dict.showsAll d >>= _) _ _ s
 unfold Builtin.Dict.showsAll
 rw[hd,if_neg D1]
 refine wpAny_bind (wpAny_pure (wpAny_bind (wpAny_dictEntries ho hdd (wpAny_bind (wpAny_dictEpoch ho hdd ?_)))))
 refine wpAny_bind (wpAny_newObj_type (wpAny_pure ⟨_,rfl, "dict_keyiterator", _,⟨_,Heap.get?_push_size _ rfl,rfl⟩,F.slot_dict_keyiterator_next.lookup,?_⟩))
 simpa[rawInt]using hQ
theorem Mh{e:DictEntry}{Q:Option Value→Shared→Prop}(hit:s.heap.IsKeyIter it d i es.size ep)(hod:s.heap.get? d=some od)(hdd:od.data=.dict es ep)(hx:es[i]?=some e)
    (hQ:∀h',h'.IsKeyIter it d (i+1) es.size ep→Heap.SameBut it s.heap h'→Q (some e.key) {s with heap:=h'}):wpAny (model prog w) A (pyNext (.ref it)) Q E s:=by
  obtain⟨o,ho,hc,hd⟩:=id hit
  have JP:Builtin.Dict_items.ownsTuple "dict_keyiterator" = false:=by decide
  unfold pyNext
  refine wpAny_bind (wpAny_attempt (wpAny_callSpecial?_slot (name:=Str.ofString "__next__") hit.typeIs F.slot_dict_keyiterator_next (wpAny_call_entry F.slot_dict_keyiterator_next hit.typeIs F.entry_dict_keyiterator_next ?_ (F.args_dict_keyiterator_next_1 _))))
  refine wpAny_bind (wpAny_pure (wpAny_bind (wpAny_bind ?_)))
  first | refine wpAny_bind (wpAny_typeNameOfWhole_keyiter hit.typeIs (wpAny_pure (wpAny_bind (wpAny_fieldsOf ho hd ?_)))) | refine wpAny_bind (wpAny_typeNameOf_keyiter hit.typeIs (wpAny_pure (wpAny_bind (wpAny_fieldsOf ho hd ?_))))
  simp only[JP,L6,if_false]
  show wpAny _ _ (if(Value.ref d==Value.none)=true then _ else _) _ _ s
  rw[if_neg (by exact D1)]
  refine wpAny_bind (wpAny_pure (wpAny_bind (wpAny_dictEntries hod hdd ?_)))
  rw[if_neg (by simp)]
  refine wpAny_bind (wpAny_pure (wpAny_bind (wpAny_dictEpoch hod hdd ?_)))
  rw[if_neg (by simp)]
  refine wpAny_pure ?_
  simp only[show ¬((i:Int)<0)from by omega,if_false,D2,hx]
  refine wpAny_bind ?_
  first | refine wpAny_bind (wpAny_typeNameOfWhole_keyiter hit.typeIs (wpAny_pure (wpAny_bind (wpAny_isOneOf_keyiter hit.typeIs ?_)))) | refine wpAny_bind (wpAny_typeNameOf_keyiter hit.typeIs (wpAny_pure (wpAny_bind (wpAny_isOneOf_keyiter hit.typeIs ?_))))
  show wpAny _ _ (setField (.ref it) 1 (rawInt ((i:Int)+1)) >>= _) _ _ s
  refine wpAny_bind (wpAny_setField ho hd (by simp) ?_)
  have hit':(s.heap.update it (Obj.mapFields (·.setIfInBounds 1 (rawInt ((i:Int)+1))))).IsKeyIter it d (i+1) es.size ep:=⟨_,Heap.get?_update_self _ ho (Obj.isFreed_of_fields (Obj.data_mapFields hd _)),(Obj.cls_mapFields ..).trans hc,by rw[Obj.data_mapFields hd];simp[rawInt]⟩
  refine wpAny_bind (wpAny_holding (wpAny_bind (wpAny_isOneOf_keyiter (s:={s with heap:=s.heap.update it (Obj.mapFields (·.setIfInBounds 1 (rawInt ((i:Int)+1))))}) hit'.typeIs ?_)))
  show wpAny _ _ (pure e.key) _ _ _
  exact wpAny_pure (wpAny_pure ⟨_,rfl,wpAny_pure (hQ _ hit' (Heap.SameBut.update ..))⟩)
theorem Rt{Q:Option Value→Shared→Prop}(hh:A.handled=none)(hit:s.heap.IsKeyIter it d i es.size ep)(hod:s.heap.get? d=some od)(hdd:od.data=.dict es ep)(hx:es.size≤i)
    (hQ:∀h',Heap.ExtBut it s.heap h'→Q none {s with heap:=h'}):wpAny (model prog w) A (pyNext (.ref it)) Q E s:=by
  obtain⟨o,ho,hc,hd⟩:=id hit
  have JP:Builtin.Dict_items.ownsTuple "dict_keyiterator" = false:=by decide
  unfold pyNext
  refine wpAny_bind (wpAny_attempt (wpAny_callSpecial?_slot (name:=Str.ofString "__next__") hit.typeIs F.slot_dict_keyiterator_next (wpAny_call_entry F.slot_dict_keyiterator_next hit.typeIs F.entry_dict_keyiterator_next ?_ (F.args_dict_keyiterator_next_1 _))))
  refine wpAny_bind (wpAny_pure (wpAny_bind (wpAny_bind ?_)))
  first | refine wpAny_bind (wpAny_typeNameOfWhole_keyiter hit.typeIs (wpAny_pure (wpAny_bind (wpAny_fieldsOf ho hd ?_)))) | refine wpAny_bind (wpAny_typeNameOf_keyiter hit.typeIs (wpAny_pure (wpAny_bind (wpAny_fieldsOf ho hd ?_))))
  simp only[JP,L6,if_false]
  show wpAny _ _ (if(Value.ref d==Value.none)=true then _ else _) _ _ s
  rw[if_neg (by exact D1)]
  refine wpAny_bind (wpAny_pure (wpAny_bind (wpAny_dictEntries hod hdd ?_)))
  rw[if_neg (by simp)]
  refine wpAny_bind (wpAny_pure (wpAny_bind (wpAny_dictEpoch hod hdd ?_)))
  rw[if_neg (by simp)]
  refine wpAny_pure ?_
  simp only[show ¬((i:Int)<0)from by omega,if_false,D2,R4 hx]
  refine wpAny_bind ?_
  first | refine wpAny_bind (wpAny_typeNameOfWhole_keyiter hit.typeIs (wpAny_pure ?_)) | refine wpAny_bind (wpAny_typeNameOf_keyiter hit.typeIs (wpAny_pure ?_))
  show wpAny _ _ (setField (.ref it) 0 .none >>= _) _ _ s
  refine wpAny_bind (wpAny_setField ho hd (by simp) ?_)
  show wpAny _ _ (newExc (.type "StopIteration") [] >>= _) _ _ _
  refine uY hh λv h' ty kp=>wpAny_bind (wpAny_isInstance ty isSubtype_stop ?_)
  exact wpAny_pure (hQ h' λb o hb e=>kp b o (by rw[Heap.get?_update_other _ _ (Ne.symm hb)];exact e))
end
def JQ(a:Addr)(o:Obj)(kvs:List (List Key×V))(bs:List Addr):It:=
 ⟨λi H=>H a=some (.iC o (.dT kvs))∧i<kvs.length,λi H x H'=>H'=H∧(bs[i]?).map V.ref=some x,λi H=>H a=some (.iC o (.dT kvs))∧kvs.length≤i⟩
theorem Mi{a:Addr}{o:Obj}{kvs:List (List Key×V)}{bs:List Addr}(hl:bs.length=kvs.length):DX (JQ a o kvs bs) (λH=>H a=some (.iC o (.dT kvs))) (bs.map V.ref):=λi H hq=>
 ⟨λh=>⟨hq,by rw[A9]at h;omega⟩,λx H' ⟨e,y⟩=>⟨e,λ_=>by rw[C3];exact y⟩,λh=>⟨hq,by rw[A9]at h;omega⟩⟩
theorem Fv{P:Program}{w:World}{K:aA}{tg:Expr}(a it:Addr)(o:Obj)(kvs:List (List Key×V))(bs:List Addr)(es:Array DictEntry)(ep:Nat)(hdat:o.data=.dict es ep)(hsz:es.size=kvs.length)(ZV:bs.length=kvs.length)(hbs:∀(i:Nat) b,bs[i]?=some b→∃e,es[i]?=some e∧e.key=.ref b)(hne:a≠it) :
  Turn P w K tg (JQ a o kvs bs) [it] it (λi h=>h.IsKeyIter it a i kvs.length ep) where
 mem:=by simp
 obj:=λi h st b hb=>by
  have e:b=it:=by simpa using hb
  subst e
  obtain⟨ob,ho,hc,hd⟩:=st
  exact⟨ob,ho,λv z=>by rw[hd]at z;cases z⟩
 keep:=λi h h' st k=>by
  obtain⟨ob,ho,r⟩:=st
  exact⟨ob,k it (by simp) _ ho,r⟩
 item:=by
  intro X hP hw hK hc i pins s σ H E I hf st hg
  subst hP hw hK
  obtain⟨f0,f1,f2,f3,f4,f5⟩:=hf it (by simp)
  obtain⟨hq,hlt⟩:=hg
  obtain⟨ho,_⟩:=I.hok a _ hq
  obtain⟨b,hb⟩:∃b,bs[i]?=some b:=⟨bs[i]'(by omega),by simp⟩
  obtain⟨e,he,hk⟩:=hbs i b hb
  refine Mh (by rw[hsz];exact st) ho hdat he λh' hit' hs'=>?_
  have I1:Inv X pins σ H {s with heap:=h',toks:=s.toks}:=I.turned (λb o hb e=>(hs'.2 b hb).trans e) f0 f1 f3 f4 f5
  have hit2:=hit'
  obtain⟨ob,hob,hcl,hdt⟩:=hit2
  exact⟨_,rfl,Hi (s:={s with heap:=h',toks:=s.toks}) (n := "dict_keyiterator") hob hcl hdt (by decide) ⟨.ref b,H,I1,hk,⟨rfl,by rw[hb];rfl⟩,by rw[←hsz];exact hit',λb hb=>(hf b hb).1⟩⟩
 done:=by
  intro X hP hw hK hc i pins s σ H E I hf st hg
  subst hP hw hK
  obtain⟨f0,f1,f2,f3,f4,f5⟩:=hf it (by simp)
  obtain⟨hq,hle⟩:=hg
  obtain⟨ho,_⟩:=I.hok a _ hq
  exact Rt (I.ok.hd hc) (by rw[hsz];exact st) ho hdat (by omega) λh' he'=>⟨rfl,I.turned (t':=s.toks) (λb o hb e=>he' b o hb e) f0 f1 f3 f4 f5⟩
 self:=λ_ _ _ _ _ st h=>wpAny_pyIter_keyiter st h
def Fw(tl:TE):TI:=λσ H R=>tl σ H λx H1=>∃a kvs,x=.ref a∧H1 a=some (.dT kvs)∧∀(o:Obj)(bs:List Addr),bs.length=kvs.length→(∀(i:Nat) b k v,bs[i]?=some b→kvs[i]?=some (k,v)→H1 b=some (.tup (k.map kV)))→(kvs.map (·.1)).Nodup→R (JQ a o kvs bs) (upd H1 a (.iC o (.dT kvs)))
theorem kt_at{H:Hp}{kvs:List (List Key×V)}{xs:List (List Key×Addr×Value)}(r:KT H kvs xs):∀(i:Nat) b k v,(xs.map (·.2.1))[i]?=some b→kvs[i]?=some (k,v)→H b=some (.tup (k.map kV)):=by
 induction r with
 | nil=>intro i b k v h;simp at h
 | @cons p q ps qs h t ih=>
  intro i b k v h1 h2
  cases i with
  | zero=>
   simp only[C5,Q6,U6]at h1 h2
   subst h1
   rw[h2]at h
   exact h.2.1
  | succ i=>exact ih i b k v (by simpa using h1) (by simpa using h2)
theorem Xf{H:Hp}{kvs:List (List Key×V)}{xs:List (List Key×Addr×Value)}(r:KT H kvs xs):kvs.map (·.1)=xs.map (·.1):=by
 induction r with
 | nil=>rfl
 | @cons p q ps qs h t ih=>rw[C5,C5,ih,h.1]
theorem JR{kvs:List (List Key×V)}{i:Nat}{k:List Key}{v:V}(hn:(kvs.map (·.1)).Nodup)(h:kvs[i]?=some (k,v)):iQ kvs k=some v:=by
 induction kvs generalizing i with
 | nil=>simp at h
 | cons p ps ih=>
  rw[C5,J5]at hn
  cases i with
  | zero=>
   simp only[Q6,U6]at h
   subst h
   simp[iQ]
  | succ i=>
   have h:ps[i]?=some (k,v):=by simpa using h
   have ne:p.1≠k:=λz=>hn.1 (z▸G6.mpr ⟨(k,v),E5 h,rfl⟩)
   have:=ih hn.2 h
   simp only[iQ,J6]at this ⊢
   simp[ne,this]
section
variable{X:Cx}
theorem Ru{tg l:Expr}{tl:TE}(hl:PE X l tl):PI X tg l (Fw tl):=by
 intro pins s σ H R I h
 refine cJ (hl pins s σ H _ I h) λv s1 ⟨x,H1,I1,r1,q1⟩=>?_
 obtain⟨a,kvs,rfl,hq,q⟩:=q1
 cases r1
 obtain⟨hz,hsm,xs,rel,dd⟩:=Yp I1.hok hq
 obtain⟨o,es,ep,ho,hc,hdd,hes,_,hnd⟩:=dd
 have hlen:=Paired.length rel
 have hsz:es.size=kvs.length:=by rw[hlen];exact size_of_entries hes
 have I2:=I1.freeze hq (by rw[hq];exact trivial) ho
 refine Mg hsm ho hc hdd ?_
 have hne:a≠s1.heap.objs.size:=C6 (Heap.lt_size ho)
 refine⟨s1.heap.objs.size,[s1.heap.objs.size],_,_,_,rfl,I2.kept (t':=s1.toks) λb o e=>Heap.get?_push_of_some _ e,Fv a _ o kvs (xs.map (·.2.1)) es ep hdd hsz (by rw[A9,hlen]) (λi b hb=>?_) hne,⟨_,Heap.get?_push_size _ rfl,rfl,by rw[hsz];rfl⟩,λb hb=>?_,q o (xs.map (·.2.1)) (by rw[A9,hlen]) (kt_at rel) (by rw[Xf rel];exact hnd)⟩
 ·rw[C3]at hb
  obtain⟨y,hy,rfl⟩:=fH hb
  exact⟨_,by rw[entry_at hes,hy];rfl,rfl⟩
 ·have e:b=s1.heap.objs.size:=by simpa using hb
  subst e
  exact I2.Vf (B6 _) (I2.hok.fresh (B6 _))
end
end L2


namespace L2
open PySem PySem.Spec PySem.Calls PyProof.Rows PyProof.V
section
variable{K:aA}{B H:Hp}{env:EN}{σ:St}
theorem Rw{i:Nat}(r:Rel K B env σ H)(hi:i<env.length):Rel K B (env.set i .no) σ H:=by
 obtain⟨A,a,bb⟩:=r
 obtain⟨y,A1,C,h1,h2,h3,h4,k⟩:=a.focus (B5 hi)
 have g:aG (out H A) (out H (dD nil C)):=λx u ex=>by
  obtain⟨e1,e2⟩:=aU.mp ex
  exact aU.mpr ⟨λz=>e1 ((h3 x).mpr (.inr (z.elim False.elim id))),e2⟩
 have key:=k (dR K H (out H (dD nil C))) (λsd D z hb qq=>by
  cases sd with
  | no=>exact qq
  | fro d=>obtain⟨q1,v,q2,q3⟩:=qq;exact⟨q1,v,q2,g.rv _ _ q3⟩
  | inn v d=>exact qq
  | own d=>exact qq) .no y nil (λ_ z=>z.elim) (λ_ z=>z)
 rw[set_same h1]at key
 exact⟨dD nil C,key,bb.trans g⟩
theorem Xg{i:Nat}{ks:List (List Key)}{ds:List D}(r:Rel K B env σ H)(e:env[i]?=some (.own (.dt ks ds))):∃a xs Bs,σ[i]?=some (some (.ref a))∧H a=some (.dT (ks.zip xs))∧ks.length=xs.length∧bY K H ds Bs xs ∧
  ∀o,∃A,cV (dR K (upd H a (.iC o (.dT (ks.zip xs)))) (out (upd H a (.iC o (.dT (ks.zip xs)))) A)) (env.set i .no) A σ∧aG B (out (upd H a (.iC o (.dT (ks.zip xs)))) A)∧¬A a:=by
 obtain⟨A,a0,bb⟩:=r
 have cl:=cH a0
 obtain⟨y,A1,C,h1,h2,h3,h4,k⟩:=a0.focus e
 have h4':=h4
 obtain⟨v,rfl,ow⟩:=h4
 unfold Ow at ow
 obtain⟨a,xs,Bs,rfl,o2,o2',o3,o4,o5⟩:=ow
 refine⟨a,xs,Bs,h1,o2,o2',o5,λo=>?_⟩
 have ha1:A1 a:=(o4 a).mpr (.inl rfl)
 have haC:¬C a:=λz=>h2 a ha1 z
 have tk:qQ K H (upd H a (.iC o (.dT (ks.zip xs)))):=qX (vD o2)
 have g:aG (out H A) (out (upd H a (.iC o (.dT (ks.zip xs)))) (dD nil C)):=λx u ex=>by
  obtain⟨e1,e2⟩:=aU.mp ex
  have na:x≠a:=λz=>e1 ((h3 x).mpr (.inl (z▸ha1)))
  exact aU.mpr ⟨λz=>e1 ((h3 x).mpr (.inr (z.elim False.elim id))),by rw[aP na];exact e2⟩
 have key:=k (dR K (upd H a (.iC o (.dT (ks.zip xs)))) (out (upd H a (.iC o (.dT (ks.zip xs)))) (dD nil C))) (λsd D z hb qq=>by
  have fm:∀x,D x→upd H a (.iC o (.dT (ks.zip xs))) x=H x:=λx zx=>aP λw=>haC (w▸hb x zx)
  cases sd with
  | no=>exact qq
  | fro d=>obtain⟨q1,v,q2,q3⟩:=qq;exact⟨q1,v,q2,g.rv _ _ q3⟩
  | inn v d=>exact⟨qq.1,Ow.frame tk _ _ _ qq.2 fm⟩
  | own d=>obtain⟨v,q1,q2⟩:=qq;exact⟨v,q1,Ow.frame tk _ _ _ q2 fm⟩) .no (some (.ref a)) nil (λ_ z=>z.elim) (λ_ z=>z)
 rw[set_same h1]at key
 exact⟨dD nil C,key,bb.trans g,λz=>z.elim id haC⟩
end
def Rx(k:List Key):D:=.tup (k.map λ| .inl i=>.int i | .inr x=>.str x)
def Cy(h:Nat)(body:Int→GS):List (List Key)→List D→EN→SR
 | [],[],env=>.next (env.set h .no)
 | k::ks,.int top::ds,env=>if h<env.length then(match body top (env.set h (.fro (Rx k)))with
   | .next env'=>Cy h body ks ds env'
   | _=>.bad)else .bad
 | _,_,_=>.bad
def Cz(t h:Nat)(body:Int→GS):GS:=λenv=>match env[t]? with
 | some (.own (.dt ks ds))=>if h<env.length∧t≠h then Cy h body ks ds (env.set t .no)else .bad
 | _=>.bad
section
variable{K:aA}{t h:Nat}{tb:TS}{tb':Int→TS}{body:Int→GS}
theorem Xh{H:Hp}{k:List Key}{b:Addr}(e:H b=some (.tup (k.map kV))):Rv K H (Rx k) (.ref b):=by
 unfold Rx Rv
 refine⟨b,k.map kV,rfl,jP.of e,?_⟩
 clear e
 induction k with
 | nil=>unfold bH;rfl
 | cons x k ih=>
  rw[C5,C5]
  unfold bH
  refine⟨_,_,rfl,?_,ih⟩
  cases x with
  | inl i=>unfold Rv;rfl
  | inr x=>unfold Rv;rfl
theorem Xi(hb:∀top,MN K (tb' top) (body top))
  (conv:∀(E:Ends)(σ:St)(H:Hp)(a b:Addr)(o:Obj)(kvs:List (List Key×V))(k:List Key)(top:Int),σ[t]?=some (some (.ref a))→H a=some (.iC o (.dT kvs))→σ[h]?=some (some (.ref b))→H b=some (.tup (k.map kV))→iQ kvs k=some (.int top)→tb' top E σ H→tb E σ H):DS K (Ed (Fw (cB t)) (bU h) tb) (Cz t h body):=λB E σ H env r p=>by
 unfold Cz at p
 split at p
 case h_2=>exact p.elim
 rename_i ks ds q
 split at p
 case isFalse=>exact p.elim
 rename_i hc
 obtain⟨a,xs,Bs,k1,k2,k3,k4,k5⟩:=Xg r q
 have hlen:=r.len
 have ZW:ds.length=xs.length:=(bY.rv _ _ _ k4).length.symm
 refine⟨_,k1,a,ks.zip xs,rfl,k2,λo bs ZV htr hnd=>?_⟩
 obtain⟨A,a5,b5,na⟩:=k5 o
 have hlz:(ks.zip xs).length=ks.length:=by rw[W3,k3,P6]
 have cl:=cH a5
 generalize hH':upd H a (.iC o (.dT (ks.zip xs)))=H' at *
 have nq:H' a=some (.iC o (.dT (ks.zip xs))):=by rw[←hH'];exact bB
 have htr':∀(i:Nat) b k v,bs[i]?=some b→(ks.zip xs)[i]?=some (k,v)→H' b=some (.tup (k.map kV)):=λi b k v h1 h2=>by
  have:=htr i b k v h1 h2
  rw[←hH',aP (λz=>by rw[z,k2]at this;cases this)]
  exact this
 have nu:∀(i:Nat) b k v,bs[i]?=some b→(ks.zip xs)[i]?=some (k,v)→out H' A b=some (.tup (k.map kV)):=λi b k v h1 h2=>aU.mpr ⟨λz=>(cl b z).2.1 _ (htr' i b k v h1 h2),htr' i b k v h1 h2⟩
 have za:out H' A a=some (.iC o (.dT (ks.zip xs))):=aU.mpr ⟨na,nq⟩
 have p':=p.mono b5
 have HR:Rel K (out H' A) (env.set t .no) σ H':=⟨A,a5,aG.refl _⟩
 have hx:∀(i:Nat)(top:Int),ds[i]?=some (D.int top)→xs[i]?=some (V.int top):=λi top hi=>by
  obtain⟨v,e1,e2⟩:=(bY.rv _ _ _ k4).get hi
  unfold Rv at e2
  rw[e1,e2]
 refine zF (Mi (by rw[ZV])) (λi σ2 H2=>∃fM,Rel K (out H' A) fM σ2 H2∧fM.length=env.length∧(σ2=σ∨∃w,σ2=σ.set h (some w))∧sU K (out H' A) E (Cy h body (ks.drop i) (ds.drop i) fM)) ⟨_,HR,by rw[M7],.inl rfl,by simpa using p'⟩ (λi σ2 H2 _ ⟨fM,r2,_⟩=>r2.sub a _ za) ?_ ?_
 ·rintro i x σ2 H2 hxi ⟨fM,r2,l2,hσ,p2⟩
  have hi:i<bs.length:=by
   have:=(B9.mp hxi).1
   rw[A9]at this
   exact this
  rw[C3]at hxi
  obtain⟨b,hb1,rfl⟩:=fH hxi
  have ie:i<ks.length:=by omega
  have hid:i<ds.length:=by omega
  rw[J3 ie,J3 hid]at p2
  have hx:=hx i
  have hdi:ds[i]?=some ds[i]:=B5 hid
  generalize ds[i]=di at *
  obtain⟨top,rfl⟩:∃top,di=D.int top:=by
   cases di with
   | int top=>exact⟨top,rfl⟩
   | _=>exact p2.elim
  have p2:sU K (out H' A) E (if h<fM.length then(match body top (fM.set h (.fro (Rx ks[i])))with
   | .next env'=>Cy h body (ks.drop (i+1)) (ds.drop (i+1)) env'
   | _=>.bad)else .bad):=p2
  rw[if_pos (by omega)]at p2
  have hxi:=hx top hdi
  have hz:(ks.zip xs)[i]?=some (ks[i],.int top):=by
   rw[List.getElem?_zip_eq_some]
   exact⟨B5 ie,hxi⟩
  have hkb:=nu i b _ _ hb1 hz
  obtain⟨A2,a2,b2⟩:=r2
  have SJ:out H2 A2 b=some (.tup ((ks[i]).map kV)):=b2 b _ hkb
  have r3:Rel K (out H' A) (fM.set h (.fro (Rx ks[i]))) (σ2.set h (some (.ref b))) H2:=tE a2 b2 (by omega) (aG.refl _) (aG.refl _) (uV a2) (Xh SJ)
  have e3:σ2.set h (some (.ref b))=σ.set h (some (.ref b)):=by
   rcases hσ with rfl | ⟨w,rfl⟩
   ·rfl
   ·rw[List.set_set]
  have Ez:H2 a=some (.iC o (.dT (ks.zip xs))):=(aU.mp (b2 a _ za)).2
  show tb _ (σ2.set h (some (.ref b))) H2
  rw[e3]at r3 ⊢
  refine conv _ _ _ a b o (ks.zip xs) ks[i] top (by rw[K5 (Ne.symm hc.2)];exact k1) Ez (L7 (by omega)) (aU.mp SJ).2 (JR hnd hz) ?_
  refine hb top _ _ _ H2 _ r3 ?_
  split at p2
  ·rename_i env' q2
   rw[q2]
   intro H3 r4
   refine⟨env',r4,?_,.inr ⟨_,rfl⟩,p2⟩
   have h1:=r4.len
   rw[M7]at h1
   omega
  ·exact p2.elim
 ·rintro σ2 H2 ⟨fM,r2,l2,hσ,p2⟩
  rw[A9,ZV,hlz,P8,R3 (by omega)]at p2
  unfold Cy at p2
  exact p2 σ2 H2 (Rw r2 (by omega))
end
def Mj(t h:Nat)(fs:FA)(fx:FE):GS:=λenv=>match env[t]?,fs (rE env),fx (rE env)with
 | some (.own (.dt ks ds)),some dk,some (.int x)=>(match pR dk with
  | some k=>if dk.length≤100∧h<env.length∧t≠h∧ks.length<100000 then(match (posK ks k).bind λj=>ds[j]? with
    | some (.int old)=>.next ((env.set h (.fro (.tup dk))).set t (.own (.dt (gP ks k) (putD ks ds k (.int (if old > x then old else x))))))
    | none=>.next ((env.set h (.fro (.tup dk))).set t (.own (.dt (gP ks k) (putD ks ds k (.int (if 0 > x then 0 else x))))))
    | _=>.bad)else .bad
  | none=>.bad)
 | _,_,_=>.bad
section
variable{K:aA}{t h j:Nat}{tA:TA}{fs:FA}
theorem xY{H:Hp}:∀{ds:List D} {k:List Key},pR ds=some k→bH K H ds (k.map kV)
 | [],k,h=>by
  unfold pR at h
  cases h
  unfold bH
  rfl
 | d::ds,k,h=>by
  unfold pR at h
  obtain⟨k0,h1,h2⟩:=aW h
  obtain⟨k',h3,rfl⟩:=fH h2
  rw[C5]
  unfold bH
  refine⟨_,_,rfl,?_,xY h3⟩
  cases d<;>unfold Qe at h1<;>first | cases h1 | skip
  all_goals (unfold Rv;first | rfl | skip)
abbrev Jk:List V→Hp→VK→Prop:=λxs H Q=>∃i j,xs=[.int i,.int j]∧Q (.int (if j > i then j else i)) H
theorem JS(ha:GC K tA fs)(ZX:j≠h):DS K (Nx (nH (Eg tA) (bU h)) (Bj (cB t) (cB h) (Uq Jk (dY (cB j) (dY (uB (cB t) (cB h) (tC (.int 0))) qO))))) (Mj t h fs (aC j)):=λB E σ H env r p=>by
 unfold Mj at p
 split at p
 case h_2=>exact p.elim
 rename_i ks ds dk x q1 q2 q3
 split at p
 case h_2=>exact p.elim
 rename_i k q4
 split at p
 case isFalse=>exact p.elim
 rename_i hc
 have hlen:=r.len
 have hj:∃v,σ[j]?=some (some v)∧Rv K H (.int x) v:=by
  unfold aC at q3
  cases z:(rE env)[j]? with
  | none=>rw[z]at q3;cases q3
  | some d=>
   rw[z]at q3
   have:d=some (.int x):=q3
   subst this
   exact r.r j _ z
 obtain⟨vj,hvj,ig⟩:=hj
 unfold Rv at ig
 subst ig
 have oh:∀v,(σ.set h (some v))[j]?=some (some (.int x)):=λv=>by rw[K5 (Ne.symm ZX)];exact hvj
 refine ha σ H H (rE env) dk _ (Zn.self K H) r.r q2 λvs H1 Z1 s1 t1 z1 rvs=>⟨Br (by rw[rvs.length];omega),λpa hp=>?_⟩
 have ek:vs=k.map kV:=Cr q4 rvs
 subst ek
 have s12:aG H (upd H1 pa (.tup (k.map kV))):=s1.trans (bG hp _)
 have hpa:upd H1 pa (.tup (k.map kV)) pa=some (.tup (k.map kV)):=bB
 generalize upd H1 pa (.tup (k.map kV))=H2 at *
 obtain⟨A2,a2,b2⟩:=r.same s12
 have ou:out H2 A2 pa=some (.tup (k.map kV)):=aU.mpr ⟨λz=>(cH a2 pa z).2.1 _ hpa,hpa⟩
 have ph:Rv K (out H2 A2) (.tup dk) (.ref pa):=by unfold Rv;exact⟨pa,_,rfl,jP.of ou,xY q4⟩
 have r3:Rel K B (env.set h (.fro (.tup dk))) (σ.set h (some (.ref pa))) H2:=tE a2 b2 hc.2.1 (aG.refl _) (aG.refl _) (uV a2) ph
 have e3:(env.set h (.fro (.tup dk)))[t]?=some (.own (.dt ks ds)):=by rw[K5 (Ne.symm hc.2.2.1)];exact q1
 obtain⟨v0,a,xs,Bs,k1,k2,k3,SM,k4,k5,k6⟩:=r3.ZK (p:=[]) e3 rfl
 have k2:some v0=some (.ref a):=k2
 cases k2
 have il:(σ.set h (some (V.ref pa)))[h]?=some (some (.ref pa)):=L7 (by omega)
 have ZW:ds.length=xs.length:=(bY.rv _ _ _ k5).length.symm
 have fin:∀m:Int,sU K B E (.next ((env.set h (.fro (.tup dk))).set t (.own (.dt (gP ks k) (putD ks ds k (.int m))))))→E.nx (σ.set h (some (.ref pa))) (upd H2 a (.dT (putK (ks.zip xs) k (.int m)))):=λm pm=>by
  refine pm _ _ ?_
  have o:Ow K H2 (.int m) nil (.int m):=by unfold Ow;exact⟨λ_ z=>z,rfl⟩
  rw[Qd SM]
  by_cases c:(posK ks k).isSome=true
  ·obtain⟨A',a1,a2⟩:=Cu o k SM k5
   refine k6 H2 (gP ks k) (putD ks ds k (.int m)) (putD ks xs k (.int m)) A' (aG.refl _) (uR SM) ?_ λb z=>.inl (a1 b z)
   unfold putD
   rw[if_pos c,if_pos c]
   exact a2
  ·refine k6 H2 (gP ks k) (putD ks ds k (.int m)) (putD ks xs k (.int m)) (dD Bs nil) (aG.refl _) (uR SM) ?_ λb z=>z.elim .inl False.elim
   unfold putD
   rw[if_neg c,if_neg c]
   exact cL.mpr ((cL.mp k5).snoc o λ_ _ z=>z)
 have main:∀old:Int,(iQ (ks.zip xs) k).getD (.int 0)=.int old→sU K B E (.next ((env.set h (.fro (.tup dk))).set t (.own (.dt (gP ks k) (putD ks ds k (.int (if old > x then old else x)))))))→Bj (cB t) (cB h) (Uq Jk (dY (cB j) (dY (uB (cB t) (cB h) (tC (.int 0))) qO))) E (σ.set h (some (.ref pa))) H2:=λold ho pm=>
  ⟨.int x,oh _,.ref a,k1,a,rfl,.inr ⟨_,.inl k3⟩,.ref pa,il,iQ (ks.zip xs) k,Bg.t k3 hpa,x,old,by rw[ho],.ref a,k1,.ref pa,il,a,_,rfl,Ou.t k3 hpa (Pz (by rw[W3];omega)),fin _ pm⟩
 have pv:=pJ (k:=k) SM
 split at p
 ·rename_i old qo
  obtain⟨jj,qj,qd⟩:=aW qo
  obtain⟨v,e1,e2⟩:=(bY.rv _ _ _ k5).get qd
  unfold Rv at e2
  subst e2
  exact main old (by rw[pv,qj,B4,e1];rfl) p
 ·rename_i qo
  refine main 0 ?_ p
  rw[pv]
  cases qj:posK ks k with
  | none=>rfl
  | some jj=>
   rw[qj,B4]at qo
   rw[B4,D8 (by have:=P2.mp qo;omega)]
   rfl
 ·exact p.elim
end
section
variable{K:aA}{X:Cx}{t h j c i:Nat}{π:FP}{ta SN:TE}{g:FE}{tA:TA}{fs:FA}{tg o o2 hn cn two a b val:Expr}{es:List Expr}{st1 st2:Stmt}{pos pos' p1 p2 p3 p4:Pos}{x1:Nat}
theorem Xj(hp:PassesOwn (model X.prog X.w) X.A X.env X.xe)(Qp:X.calm=true)(hu:X.A.units+1<cLine)(ho:PE X o (cB t))(hg:PG X tg (bU h))(ho2:PE X o2 (cB t))(pq:PE X hn (cB h))(hcn:XR K X cn (cB c) (aC c))(h2:XN K X two (tC (.int 2)) (fC (.int 2)))(ha:XP K X a ta i π)(hb:XR K X b SN g)
  (hs2:∀e te,e=.Subscript (.Subscript cn (.Subscript o2 hn p1) p2) two p3→PE X a ta→PE X b SN→PE X e te→PS X (.Assign [.Subscript a b pos'] e pos) (nH te (Ea ta SN tX)))
  (s1:DP hn) (s2:pF (.Subscript o2 hn p1)) (s3:pF two) (hs:∀x,foldedSetIterable o X.env x=pure x:=by intro _;rfl) :
  YS K X (.For tg o [.Assign [.Subscript a b pos'] (.Subscript (.Subscript cn (.Subscript o2 hn p1) p2) two p3) pos] [] p4) (Ed (Fw (cB t)) (bU h) (nH (wB (Yn K) (wB (Yn K) (cB c) (Yq (cB t) (cB h))) (tC (.int 2))) (Ea ta SN tX))) (Cz t h λtop=>nW i π g (iT (f2 dM (f2 dM (aC c) (fC (.int top))) (fC (.int 2))))):=
 ⟨Ef hp Qp (Ru ho) hg (yQ (hs2 _ _ rfl ha.pe hb.pe (Hw (Il ha.hk) (Hw (Il ha.hk) hcn.pe (Vx hu ho2 pq s1) s2) h2.pe s3))) hs,
  Xi (tb':=λtop=>nH (wB (Yn K) (wB (Yn K) (cB c) (tC (.int top))) (tC (.int 2))) (Ea ta SN tX)) (λtop=>Iu ha.ev hb.ev (XR.n (bR (bR hcn (XN.r (aH (i:=top) (j:=0) (pos:=p1) hcn.hk)) (λ_ _=>rfl) (pos:=p1)) (XN.r h2) s3 (pos:=p1))).ev) λE σ H a b o kvs k top h1 h2' h3 h4 h5 q=>by
   obtain⟨v,hv,q⟩:=q
   exact⟨v,hv,.ref a,h1,.ref b,h3,a,.int top,rfl,.inr ⟨kvs,k,b,.inr ⟨o,h2'⟩,rfl,h4,h5.symm⟩,q⟩⟩
theorem JT(h1:PE X (.Tuple es x1 p1) (Eg tA)→PS X st1 (nH (Eg tA) (bU h)))(ha:XA K X es tA fs)(h2:PS X st2 (Bj (cB t) (cB h) (Uq Jk (dY (cB j) (dY (uB (cB t) (cB h) (tC (.int 0))) qO))))) (ZX:j≠h) :
  YB K X [st1,st2] (Nx (nH (Eg tA) (bU h)) (Bj (cB t) (cB h) (Uq Jk (dY (cB j) (dY (uB (cB t) (cB h) (tC (.int 0))) qO))))) (Mj t h fs (aC j)):=
 ⟨Bb (h1 (Oi ha.pa)) (yQ h2),JS ha.ev ZX⟩
end
end L2


namespace L2
open PySem PySem.Spec PyProof.Rows
abbrev aN(ns:List Int):D:=.lst (ns.map D.int)
theorem mU{i:Nat}{g:GS}(I:Nat→EN→Prop):∀(xs:List D)(env:EN)(n:Nat),I n env→(∀k x env,xs[k]?=some x→I (n+k) env→i<env.length∧∃env',g (env.set i (.fro x))=.next env'∧I (n+k+1) env')→∃env',qY i g xs env=.next env'∧I (n+xs.length) env'
 | [],env,n,h,_=>⟨env,by unfold qY;rfl,h⟩
 | x::xs,env,n,h,st=>by
  obtain⟨h1,env',h2,h3⟩:=st 0 x env rfl h
  obtain⟨fM,a1,a2⟩:=mU I xs env' (n+1) h3 λk y e hk hi=>by
   have:=st (k+1) y e (by simpa using hk) (by rw[show n+(k+1)=n+1+k by omega];exact hi)
   rw[show n+(k+1)+1=n+1+k+1 by omega]at this
   exact this
  refine⟨fM,?_,?_⟩
  ·unfold qY
   rw[if_pos h1,h2]
   exact a1
  ·rw[G5,show n+(xs.length+1)=n+1+xs.length by omega]
   exact a2
theorem mV{g1 g2:GS}{env env':EN}(h:g1 env=.next env'):aY g1 g2 env=g2 env':=by unfold aY;rw[h]
theorem Ry{g1 g2:GS}{env:EN}{d:D}(h:g1 env=.ret d):aY g1 g2 env=.ret d:=by unfold aY;rw[h]
theorem lO{f:FT}{g1 g2:GS}{env:EN}(h:f (rE env)=some true):qK f g1 g2 env=g1 env:=by unfold qK;rw[h]
theorem jH{f:FT}{g1 g2:GS}{env:EN}(h:f (rE env)=some false):qK f g1 g2 env=g2 env:=by unfold qK;rw[h]
theorem Ab{i:Nat}{f:FE}{env:EN}{d:D}(h:f (rE env)=some d)(hi:i<env.length):cI i f env=.next (env.set i (.own d)):=by unfold cI;rw[h];dsimp only;rw[if_pos hi]
theorem mW{f:FE}{env:EN}{d:D}(h:f (rE env)=some d):fU f env=.ret d:=by unfold fU;rw[h]
theorem Rz{i:Nat}{fi:FA}{g:GS}{env:EN}{xs:List D}(h:fi (rE env)=some xs):nZ i fi g env=qY i g xs env:=by unfold nZ;rw[h]
theorem Jl{js:List Nat}{i:Nat}{fi:FA}{g:GS}{env lN:EN}{xs:List D}(h0:iC js env=lN)(h:fi (zE lN)=some xs):sV js i fi g env=qY i g xs lN:=by unfold sV;rw[h0,h]
theorem lQ{n m:Nat}{g:GS}{ds:List D}{d:D}(hl:ds.length=m)(h:g (ds.map SD.fro++F5 (n-m) SD.no)=.ret d):iU n m g ds=some d:=by unfold iU;rw[if_pos hl,h]
theorem aX{φ:D→D→Option D}{f g:FE}{e:DE}{a b d:D}(h1:f e=some a)(h2:g e=some b)(h:φ a b=some d):f2 φ f g e=some d:=by unfold f2;rw[h1,h2];exact h
theorem jJ{φ:List D→Option D}{fs:FA}{e:DE}{ds:List D}{d:D}(h1:fs e=some ds)(h:φ ds=some d):fL φ fs e=some d:=by unfold fL;rw[h1];exact h
theorem aB{f:FE}{fs:FA}{e:DE}{a:D}{r:List D}(h1:f e=some a)(h2:fs e=some r):aD f fs e=some (a::r):=by unfold aD;rw[h1,h2];rfl
theorem bQ{n:Nat}{F:List D→Option D}{fs:FA}{e:DE}{ds:List D}{d:D}(h1:fs e=some ds)(hl:ds.length=n)(h:F ds=some d):cQ n F fs e=some d:=by unfold cQ;rw[h1];dsimp only[B4];rw[if_pos hl];exact h
theorem eE{f:FE}{e:DE}{b:Bool}(h:f e=some (.bl b)):fB f e=some b:=by unfold fB;rw[h];rfl
theorem gB{f:FT}{e:DE}{b:Bool}(h:f e=some b):nM f e=some (!b):=by unfold nM;rw[h];rfl
theorem xZ{f g:FT}{e:DE}(h:f e=some false):Qg f g e=g e:=by unfold Qg;rw[h];rfl
theorem kE{f:FE}{e:DE}{d:D}(h:f e=some d)(i:d.dZ=true):iT f e=some d:=xJ.mpr ⟨h,i⟩
theorem gD(i j:Int):fK (.int i) (.int j)=some (.int (i+j)):=rfl
theorem Dc(i j:Int):Lg (.int i) (.int j)=some (.int (i-j)):=by unfold Lg uJ;exact if_pos True.intro
theorem jK{i j:Int}(h:wF i j):sS (.int i) (.int j)=some (.int (i*j)):=by unfold sS uJ;exact if_pos h
theorem lR{i j:Int}(h:0<j)(h2:j<1073741824):kY (.int i) (.int j)=some (.int (i/j)):=by unfold kY uJ;exact if_pos (show Kl i j from⟨h,h2⟩)
theorem lU{i j:Int}(h:0<j):cW (.int i) (.int j)=some (.int (i%j)):=by unfold cW uJ;exact if_pos h
theorem pW{i j:Int}(h:Km i j):Bu (.int i) (.int j)=some (.int (i ^ j.toNat)):=by unfold Bu uJ;exact if_pos h
theorem Ac(i j:Int):VM (.int i) (.int j)=some (.bl (decide (i<j))):=by unfold VM uJ;exact if_pos True.intro
theorem Jm(i j:Int):GR (.int i) (.int j)=some (.bl (decide (j<i))):=by unfold GR uJ;exact if_pos True.intro
theorem Jo(i j:Int):decide (V.int i=V.int j)=decide (i=j):=by
 by_cases c:i=j
 ·subst c;simp
 ·rw[decide_eq_false c,decide_eq_false (λz=>c (by cases z;rfl))]
theorem Jp(i j:Int):Ik (.int i) (.int j)=some (.bl (decide (i=j))):=by
 unfold Ik toV
 dsimp only
 rw[if_pos (by rfl),Jo]
theorem tH(i j:Int):xK (.int i) (.int j)=some (.bl (!decide (i=j))):=by
 unfold xK toV
 dsimp only
 rw[if_pos (by rfl),Jo]
theorem Fx{α:Type}{xs:List α}{i:Int}{x:α}(h0:0≤i)(h:xs[i.toNat]?=some x):Hu xs i=some x:=by
 have h1:i.toNat<xs.length:=by
  obtain⟨h1,_⟩:=B9.mp h
  exact h1
 unfold Hu Kw
 rw[if_pos h0,if_pos (by omega)]
 exact h
theorem gC{ds:List D}{i:Int}{d:D}(h0:0≤i)(h:ds[i.toNat]?=some d):dM (.lst ds) (.int i)=some d:=Fx h0 h
theorem mX{ds:List D}{i:Int}{d:D}(h0:0≤i)(h:ds[i.toNat]?=some d):dM (.tup ds) (.int i)=some d:=Fx h0 h
theorem lV{ns:List Int}{i:Int}(h0:0≤i)(h:i<ns.length):dM (aN ns) (.int i)=some (.int (ns.getD i.toNat 0)):=Fx h0 (by
 rw[C3,D6,B5 (show i.toNat<ns.length by omega)];rfl)
theorem pX(ds:List D):nO [.lst ds]=some (.int ds.length):=rfl
theorem mY(ns:List Int):nO [aN ns]=some (.int ns.length):=by show some (D.int ((ns.map D.int).length:Nat))=_;rw[A9]
theorem yC{c:D→Option Bool}{el:D→Option D}{φ:D→D}:∀{xs:List D},(∀x∈xs,c x=some true)→(∀x∈xs,el x=some (φ x))→iI c el xs=some (xs.map φ)
 | [],_,_=>by unfold iI;rfl
 | x::xs,hc,he=>by
  unfold iI
  rw[hc x C4,he x C4,yC (xs:=xs) (λy hy=>hc y (B7 _ hy)) λy hy=>he y (B7 _ hy)]
  rfl
theorem vG{fi:FA}{fr:List Nat}{fc:FT}{fe:FE}{e:DE}{xs ys:List D}(h1:fi e=some xs)(hl:xs.length≤100000)(h:iI (λx=>fc (some x::fY e fr)) (λx=>fe (some x::fY e fr)) xs=some ys):cX fi fr fc fe e=some (.lst ys):=by
 unfold cX
 rw[h1,B4,if_pos hl,h]
 rfl
theorem vH(lo:Int)(n:Nat):(dB lo n).length=n:=by unfold dB;rw[A9,G3]
theorem vI{lo:Int}{n k:Nat}{x:D}(h:(dB lo n)[k]?=some x):k<n∧x=.int (lo+k):=by
 unfold dB at h
 rw[C3]at h
 cases q:(D3 n)[k]? with
 | none=>rw[q]at h;cases h
 | some j=>
  rw[q]at h
  obtain⟨h1,h2⟩:=B9.mp q
  rw[G3]at h1
  rw[List.getElem_range]at h2
  subst h2
  exact⟨h1,(E4 h).symm⟩
theorem Fy{lo:Int}{n:Nat}{x:D}(h:x∈dB lo n):∃k:Nat,k<n∧x=.int (lo+k):=by
 obtain⟨k,hk,e⟩:=M5 h
 obtain⟨a1,a2⟩:=vI (k:=k) (x:=x) (by rw[B5 hk,e])
 exact⟨k,a1,a2⟩
theorem Sd{fs:FA}{e:DE}{n:Int}(h:fs e=some [.int n])(h1:-100000≤n)(h2:n≤100000):kW fs e=some (dB 0 n.toNat):=by
 unfold kW
 rw[h]
 dsimp only[B4]
 rw[if_pos (show lim n=true from decide_eq_true ⟨h1,h2⟩)]
theorem Xk{i j:Int}(h1:-18446744073709551616<i)(h2:i<18446744073709551616):wF i j:=.inl ⟨h1,h2⟩
theorem ZZ{i j:Int}(h1:-18446744073709551616<j)(h2:j<18446744073709551616):wF i j:=.inr ⟨h1,h2⟩
theorem JV{i:Nat}{f:FE}{env:EN}{ds:List D}{d:D}(h1:env[i]?=some (.own (.lst ds)))(h2:f (rE env)=some d)(hl:ds.length<100000):zX i qZ f env=.next (env.set i (.own (.lst (ds++[d])))):=by
 unfold zX qZ
 rw[h1,h2]
 dsimp only[nP]
 rw[if_pos hl]
 rfl
end L2


namespace L2
open PySem PySem.Spec PyProof.Rows
section
variable{i j:Nat}{f:FE}{c:FT}{g1 g2 g:GS}{env env':EN}{d:D}{r:SR}{ds:List D}
theorem Zc{b:Bool}(h:c (rE env)=some b)(k1:b=true→aY g1 g env=r)(k2:b=false→aY g2 g env=r):aY (qK c g1 g2) g env=r:=by
 cases b with
 | true=>have k:=k1 rfl;unfold aY at k ⊢;rw[lO h];exact k
 | false=>have k:=k2 rfl;unfold aY at k ⊢;rw[jH h];exact k
theorem JW{b:Bool}(h:c (rE env)=some b)(hb:b=false)(k:aY g2 g env=r):aY (qK c g1 g2) g env=r:=Zc h (λz=>by rw[hb]at z;cases z) λ_=>k
theorem JX{b:Bool}(h:c (rE env)=some b)(hb:b=true)(k:aY g1 g env=r):aY (qK c g1 g2) g env=r:=Zc h (λ_=>k) (λz=>by rw[hb]at z;cases z)
theorem SQ(k:g env=r):aY dU g env=r:=k
theorem SX(h:f (rE env)=some d)(k:SR.ret d=r):aY (fU f) g env=r:=(Ry (mW h)).trans k
theorem Ml(h:env[i]?=some (.own d)):pN i env=.ret d:=by unfold pN;rw[h]
theorem Jq{fs:FA}{e:DE}(h:fs e=some ds)(hl:ds.length≤100000):Ep fs e=some (.tup ds):=by unfold Ep cap;rw[h];dsimp only[B4];rw[if_pos hl]
theorem pY{fs:FA}{e:DE}(h:fs e=some ds)(hl:ds.length≤100000):lF fs e=some (.lst ds):=by unfold lF cap;rw[h];dsimp only[B4];rw[if_pos hl]
theorem kI{e:DE}{T:String}{d':D}(h:f e=some d)(k:Cg T d=some d'):uX T f e=some d':=by unfold uX;rw[h];exact k
theorem Sg{e:DE}{b:Bool}(h:f e=some (.bl b)):Bw f e=some (.bl (!b)):=by unfold Bw;rw[eE h];rfl
theorem Ad{e:DE}{f':FE}(h:f e=some (.bl true))(k:f' e=some d):uT f f' e=some d:=by unfold uT;rw[eE h];exact k
theorem Xl{e:DE}{c':FT}{a b:Bool}(h:c e=some a)(k:c' e=some b):Lh c c' e=some (a&&b):=by
 unfold Lh;rw[h]
 cases a with
 | true=>exact k
 | false=>rfl
theorem fO{e:DE}(h:f e=some (.lst ds)):lK f e=some ds:=by unfold lK;rw[h];rfl
theorem Dd{e:DE}(h:f e=some (.tup ds)):lK f e=some ds:=by unfold lK;rw[h];rfl
theorem Mm{a b:List D}(h:D.aZ (a++b)=true)(hl:a.length+b.length≤100000):fK (.lst a) (.lst b)=some (.lst (a++b)):=by
 show (if D.aZ (a++b)=true∧a.length+b.length≤100000 then some (D.lst (a++b))else none)=_
 rw[if_pos ⟨h,hl⟩]
theorem gF(d:D)(ds:List D):D.aZ (d::ds)=(d.dZ&&D.aZ ds):=by rw[D.aZ]
theorem Sh{a b:List D}:D.aZ (a++b)=(D.aZ a&&D.aZ b):=by
 induction a with
 | nil=>rw[M8,D.aZ];rfl
 | cons x a ih=>rw[G2,gF,gF,ih,Bool.and_assoc]
theorem De{ds:List D}(h:∀d∈ds,d.dZ=true):D.aZ ds=true:=by
 induction ds with
 | nil=>unfold D.aZ;rfl
 | cons d ds ih=>unfold D.aZ;rw[h d C4,ih λe he=>h e (B7 _ he)];rfl
theorem gY(ns:List Int):(dTup ns).dZ=true:=by unfold dTup D.dZ;exact bO ns
theorem rF(h:D.aZ ds=true):dList [.lst ds]=some (.lst ds):=by
 show (if D.aZ ds=true then some (D.lst ds)else none)=_
 rw[if_pos h]
theorem oV(ns:List Int):bM (ns.map D.int)=some (ns.map DV.int):=by
 induction ns with
 | nil=>unfold bM;rfl
 | cons n ns ih=>rw[C5];unfold bM bJ;rw[B4,ih];rfl
end
end L2
namespace L2
theorem Xm{i:Nat}{e:DE}{d:D}(h:e[i]?=some (some d)):aC i e=some d:=by unfold aC;rw[h];rfl
theorem TF{e:DE}{d:D}:fC d e=some d:=rfl
theorem Sq{e:DE}:aQ e=some []:=rfl
end L2
namespace L2
theorem Ss{i:Nat}{fi:FA}{gb:GS}{env:EN}{n:Nat}(I:Nat→EN→Prop)(h:fi (rE env)=some (dB 0 n))(h0:I 0 env)
  (st:∀(k:Nat) env,k<n→I k env→i<env.length∧∃env',gb (env.set i (.fro (.int k)))=.next env'∧I (k+1) env'):∃env',nZ i fi gb env=.next env'∧I n env':=by
 obtain⟨env',h1,h2⟩:=mU (i:=i) (g:=gb) I (dB 0 n) env 0 h0 λk x e hx hi=>by
  rw[N2]at hi ⊢
  obtain⟨hk,rfl⟩:=vI hx
  rw[T7]
  exact st k e hk hi
 rw[N2,vH]at h2
 exact⟨env',(Rz h).trans h1,h2⟩
theorem Fz(ns:List Int)(n:Int):D.lst (ns.map D.int++[.int n])=aN (ns++[n]):=by unfold aN;rw[O1];rfl
end L2


namespace L2
open PySem PySem.Spec PyProof.Rows
def Qs(Pr:SR→Prop)(r:SR):Prop:=Pr r
section
variable{i j:Nat}{f:FE}{c:FT}{g1 g2 g gb:GS}{env env':EN}{d:D}{ds:List D}{Pr:SR→Prop}
theorem gZ(h:f (rE env)=some d)(hi:i<env.length)(k:Qs Pr (g (env.set i (.own d)))):Qs Pr (aY (cI i f) g env):=by rw[mV (Ab h hi)];exact k
theorem Xn(h:g1 env=.next env')(k:Qs Pr (g env')):Qs Pr (aY g1 g env):=by rw[mV h];exact k
theorem Mp(k:Qs Pr (g env)):Qs Pr (aY dU g env):=k
theorem Jr(k:Pr (.next env)):Qs Pr (dU env):=k
theorem aa{b:Bool}(h:c (rE env)=some b)(k1:b=true→Qs Pr (aY g1 g env))(k2:b=false→Qs Pr (aY g2 g env)):Qs Pr (aY (qK c g1 g2) g env):=by
 cases b with
 | true=>have k:=k1 rfl;unfold aY at k ⊢;rw[lO h];exact k
 | false=>have k:=k2 rfl;unfold aY at k ⊢;rw[jH h];exact k
theorem Su{b:Bool}(h:c (rE env)=some b)(k1:b=true→Qs Pr (g1 env))(k2:b=false→Qs Pr (g2 env)):Qs Pr (qK c g1 g2 env):=by
 cases b with
 | true=>rw[lO h];exact k1 rfl
 | false=>rw[jH h];exact k2 rfl
theorem yD{b:Bool}(h:c (rE env)=some b)(hb:b=false)(k:Qs Pr (aY g2 g env)):Qs Pr (aY (qK c g1 g2) g env):=aa h (λz=>by rw[hb]at z;cases z) λ_=>k
theorem Sv{b:Bool}(h:c (rE env)=some b)(hb:b=false)(k:Qs Pr (g2 env)):Qs Pr (qK c g1 g2 env):=Su h (λz=>by rw[hb]at z;cases z) λ_=>k
theorem rG(h:f (rE env)=some d)(k:Pr (.ret d)):Qs Pr (fU f env):=by rw[mW h];exact k
theorem Ae(h:env[i]?=some (.own d))(k:Pr (.ret d)):Qs Pr (pN i env):=by rw[Ml h];exact k
theorem Ga(h1:env[i]?=some (.own (.lst ds)))(h2:f (rE env)=some d)(hl:ds.length<100000)(k:Pr (.next (env.set i (.own (.lst (ds++[d])))))):Qs Pr (zX i qZ f env):=by rw[JV h1 h2 hl];exact k
theorem Af{fi:FA}{n:Nat}(I:Nat→EN→Prop)(h:fi (rE env)=some (dB 0 n))(h0:I 0 env)
  (st:∀(k:Nat) env,k<n→I k env→i<env.length∧Qs (λr=>∃env',r=.next env'∧I (k+1) env') (gb (env.set i (.fro (.int k))))) (k:∀env',I n env'→Qs Pr (g env')):Qs Pr (aY (nZ i fi gb) g env):=by
 obtain⟨env',h1,h2⟩:=Ss (gb:=gb) I h h0 λk env hk hi=>⟨(st k env hk hi).1,let ⟨e,a,b⟩:=(st k env hk hi).2;⟨e,a,b⟩⟩
 rw[mV h1]
 exact k env' h2
theorem Js{js:List Nat}{fi:FA}{lN:EN}{xs:List D}(I:Nat→EN→Prop)(hf:iC js env=lN)(h:fi (zE lN)=some xs)(h0:I 0 lN)
  (st:∀(k:Nat) x env,xs[k]?=some x→I k env→i<env.length∧Qs (λr=>∃env',r=.next env'∧I (k+1) env') (gb (env.set i (.fro x)))) (k:∀env',I xs.length env'→Qs Pr (g env')):Qs Pr (aY (sV js i fi gb) g env):=by
 obtain⟨env',h1,h2⟩:=mU (i:=i) (g:=gb) I xs lN 0 h0 λk x e hx hi=>by
  rw[N2]at hi ⊢
  exact⟨(st k x e hx hi).1,let ⟨e,a,b⟩:=(st k x e hx hi).2;⟨e,a,b⟩⟩
 rw[N2]at h2
 rw[mV ((Jl hf h).trans h1)]
 exact k env' h2
theorem iY{n m:Nat}{Pd:D→Prop}(hl:ds.length=m)(h:Qs (λr=>∃d,r=.ret d∧Pd d) (g (ds.map SD.fro++F5 (n-m) SD.no))):∃d,iU n m g ds=some d∧Pd d:=by
 obtain⟨d,h1,h2⟩:=h
 exact⟨d,lQ hl h1,h2⟩
theorem pZ{fs:FA}{e:DE}{n:Nat}(h:fs e=some [.int (n:Int)])(hn:n≤100000):kW fs e=some (dB 0 n):=by
 rw[Sd h (by omega) (by omega),D2]
end
end L2
namespace L2
theorem vJ{fi:FA}{fr:List Nat}{fe:FE}{e:DE}{n:Nat}{φ:Nat→D}(h1:fi e=some (dB 0 n))(hn:n≤1000)(he:∀k:Nat,k<n→fe (some (.int k)::fY e fr)=some (φ k)):cX fi fr lM fe e=some (.lst ((D3 n).map φ)):=by
 refine vG h1 (by rw[vH];omega) ?_
 refine(yC (c:=λx=>lM (some x::fY e fr)) (φ:=λx=>match x with | .int i=>φ i.toNat | d=>d) (λ_ _=>rfl) ?_).trans ?_
 rotate_left
 ·congr 1
  unfold dB
  rw[Q1]
  apply O3
  intro k _
  show φ ((0:Int)+(k:Int)).toNat=φ k
  rw[T7,D2]
 ·intro x hx
  obtain⟨k,hk,rfl⟩:=Fy hx
  rw[T7]
  show _=some (φ ((k:Int)).toNat)
  rw[D2]
  exact he k hk
theorem yE{fi:FA}{fr:List Nat}{fe:FE}{e:DE}{α:Type}{xs:List α}{ψ φ:α→D}(h1:fi e=some (xs.map ψ))(hn:xs.length≤1000)(he:∀x∈xs,fe (some (ψ x)::fY e fr)=some (φ x)):cX fi fr lM fe e=some (.lst (xs.map φ)):=by
 refine vG h1 (by rw[A9];omega) ?_
 clear h1 hn
 induction xs with
 | nil=>rw[E9,E9];unfold iI;rfl
 | cons x xs ih=>
  rw[C5]
  unfold iI
  show (some true).bind _=_
  rw[B4,if_pos rfl,he x C4,B4,ih λy hy=>he y (B7 _ hy)]
  rfl
theorem Df{α:Type}{l:List α}{k:Nat}{d:α}(h:k<l.length):l[k]?=some (l.getD k d):=by rw[D6,B5 h];rfl
theorem Gb{b:Bool}{f:FE}{l h:FO}{e:DE}{ds:List D}{lo hi:Option Int}(h1:f e=some (.lst ds))(h2:l e=some lo)(h3:h e=some hi)(h4:b=false∨D.aZ (eU ds lo hi)=true):Lk b f l h e=some (.lst (eU ds lo hi)):=by
 unfold Lk
 rw[h1,h2,h3]
 dsimp only[B4]
 rw[if_pos h4]
theorem vK(ns ms:List Int)(h:ns.length+ms.length≤100000):fK (aN ns) (aN ms)=some (aN (ns++ms)):=by
 have:=Mm (a:=ns.map D.int) (b:=ms.map D.int) (by rw[Sh,bO,bO];rfl) (by rw[A9,A9];exact h)
 rw[←O1]at this
 exact this
end L2


namespace L2
open PySem PySem.Spec PyProof.Rows
section
variable{i j:Nat}{f:FE}{c:FT}{g1 g2 g gb:GS}{env env':EN}{d:D}{ds:List D}{Pr:SR→Prop}
theorem JZ{js:List Nat}{fi:FA}{lN:EN}{xs:List D}(I:Nat→EN→Prop)(hf:iC js env=lN)(h:fi (zE lN)=some xs)(h0:I 0 lN)
  (st:∀(k:Nat) x env,xs[k]?=some x→I k env→i<env.length∧Qs (λr=>∃env',r=.next env'∧I (k+1) env') (gb (env.set i (.fro x)))) (k:∀env',I xs.length env'→Pr (.next env')):Qs Pr (sV js i fi gb env):=by
 obtain⟨env',h1,h2⟩:=mU (i:=i) (g:=gb) I xs lN 0 h0 λk x e hx hi=>by
  rw[N2]at hi ⊢
  exact⟨(st k x e hx hi).1,let ⟨e,a,b⟩:=(st k x e hx hi).2;⟨e,a,b⟩⟩
 rw[N2]at h2
 rw[(Jl hf h).trans h1]
 exact k env' h2
end
end L2
namespace L2
end L2
namespace L2
theorem Ag{ns:List Int}(h:ns.length<64):tD [aN ns]=some (aN (sortI ns)):=by
 show (intsOf (ns.map D.int)).bind _=_
 rw[oJ,B4,if_pos h]
end L2


namespace L2
open PySem PySem.Spec PyProof.Rows
def uq(ks:List Int):D:=.dk (ks.map L4) (ks.map λ_=>.bl true)
theorem Mq{fi:FA}{fr:List Nat}{fc:FT}{fe:FE}{e:DE}{ms:List Int}(p:Int→Bool)(φ:Int→D)(h1:fi e=some (ms.map D.int))(hn:ms.length≤1000)(hc:∀m∈ms,fc (some (.int m)::fY e fr)=some (p m))(he:∀m∈ms,p m=true→fe (some (.int m)::fY e fr)=some (φ m)) :
  cX fi fr fc fe e=some (.lst ((ms.filter p).map φ)):=by
 refine vG h1 (by rw[A9];omega) ?_
 clear h1 hn
 induction ms with
 | nil=>rw[E9];unfold iI;rfl
 | cons m ms ih=>
  have ih:=ih (λy hy=>hc y (B7 _ hy)) λy hy=>he y (B7 _ hy)
  rw[C5]
  unfold iI
  rw[hc m C4,B4,List.filter_cons]
  cases q:p m with
  | true=>rw[if_pos rfl,if_pos rfl,he m C4 q,B4,ih];rfl
  | false=>rw[if_neg (by decide),if_neg (by decide)];exact ih
theorem Gd{fi:FA}{fr:List Nat}{fc:FT}{fe:FE}{e:DE}{ms:List Int}(p:Int→Bool)(φ:Int→Int)(h1:fi e=some (ms.map D.int))(hn:ms.length≤1000)(hc:∀m∈ms,fc (some (.int m)::fY e fr)=some (p m))(he:∀m∈ms,p m=true→fe (some (.int m)::fY e fr)=some (.int (φ m))) :
  cX fi fr fc fe e=some (aN ((ms.filter p).map φ)):=by
 rw[Mq p (λm=>.int (φ m)) h1 hn hc he]
 unfold aN
 rw[Q1]
 rfl
theorem Sw{φ:D→Option D}{f:FE}{e:DE}{a d:D}(h1:f e=some a)(h:φ a=some d):JL φ f e=some d:=by unfold JL;rw[h1];exact h
theorem Ge{ns:List Int}(h:ns.length<64):Jg (aN ns)=some (aN (Lw ns)):=by
 show (intsOf (ns.map D.int)).bind _=_
 rw[oJ,B4,if_pos h]
theorem Gf(ns:List Int):Cp (aN ns)=some (aN ns.reverse):=by
 show (if D.aZ (ns.map D.int)=true then some (D.lst (ns.map D.int).reverse)else none)=_
 rw[if_pos (bO _),←List.map_reverse]
theorem Dg(ns:List Int):uU [aN ns]=some (dTup ns):=by
 unfold uU
 dsimp only
 rw[show lG (aN ns)=some (ns.map D.int)from by unfold aN lG;rfl,B4,if_pos (bO _)]
 rfl
theorem vL{α β:Type}(φ:α→β)(l:List α)(lo hi:Option Int):eU (l.map φ) lo hi=(eU l lo hi).map φ:=by
 unfold eU
 rw[A9,←S9,←List.map_take]
theorem Mr{f:FE}{l h:FO}{e:DE}{ts:List Int}{lo hi:Option Int}(h1:f e=some (dTup ts))(h2:l e=some lo)(h3:h e=some hi):Rj f l h e=some (dTup (eU ts lo hi)):=by
 unfold Rj
 rw[h1,h2,h3]
 dsimp only[B4,dTup]
 rw[if_pos (bO _),vL]
theorem qC{b:Bool}{f:FE}{l h:FO}{e:DE}{ns:List Int}{lo hi:Option Int}(h1:f e=some (aN ns))(h2:l e=some lo)(h3:h e=some hi):Lk b f l h e=some (aN (eU ns lo hi)):=by
 rw[Gb h1 h2 h3 (.inr (by rw[vL];exact bO _)),vL]
theorem Gg{α:Type}{l:List α}{c:Nat}(h:c≤l.length):eU l (some (c:Int)) none=l.drop c:=by
 unfold eU
 show (l.drop (HT.cN l.length 0 (some (c:Int)))).take (l.length-HT.cN l.length 0 (some (c:Int)))=_
 rw[pG,show min c l.length=c by omega,N6 (by rw[J8];omega)]
theorem Sx{α:Type}(l:List α)(c:Nat):eU l none (some (c:Int))=l.take c:=by
 unfold eU
 show (l.drop 0).take (HT.cN l.length l.length (some (c:Int))-0)=_
 rw[pG,List.drop_zero,Nat.sub_zero]
 rcases G7 c l.length with z | z
 ·rw[show min c l.length=c by omega]
 ·rw[show min c l.length=l.length by omega,N6 (B6 _),N6 z]
theorem Sy{α:Type}(l:List α)(a b:Nat):eU l (some (a:Int)) (some (b:Int))=(l.drop a).take (b-a):=by
 unfold eU
 rw[pG,pG]
 refine K3 λk=>?_
 rw[T8,M9,T8,M9]
 rcases G7 a l.length with z | z
 ·rw[show min a l.length=a by omega]
  by_cases c:k<min b l.length-a
  ·rw[if_pos c,if_pos (by omega)]
  ·rw[if_neg c]
   by_cases c2:k<b-a
   ·rw[if_pos c2,D8 (by omega)]
   ·rw[if_neg c2]
 ·rw[show min a l.length=l.length by omega,D8 (show l.length≤l.length+k by omega),D8 (show l.length≤a+k by omega)]
  split<;>split<;>rfl
structure iJ where
 nQ:Int
 place:Int
 thing:List Int
 needs:List Int
 deriving Inhabited
def wC(c:iJ):D:=.tup [.int c.nQ,.int c.place,dTup c.thing,dTup c.needs]
def cM(cs:List iJ):D:=.lst (cs.map wC)
theorem Tc(c:iJ):(wC c).dZ=true:=by
 unfold wC D.dZ
 rw[gF,gF,gF,gF,gY,gY]
 rfl
theorem Td(cs:List iJ):D.aZ (cs.map wC)=true:=De λd h=>by
 obtain⟨c,_,rfl⟩:=G6.mp h
 exact Tc c
abbrev at_(cs:List iJ)(k:Nat):iJ:=cs.getD k default
theorem Gh{cs:List iJ}{k:Nat}(h:k<cs.length):dM (cM cs) (.int k)=some (wC (at_ cs k)):=gC (by omega) (by
 rw[D2,C3,Df (d:=default) h]
 rfl)
theorem Ah(c:iJ):dM (wC c) (.int 0)=some (.int c.nQ):=mX (by decide) rfl
theorem vM(c:iJ):dM (wC c) (.int 1)=some (.int c.place):=mX (by decide) rfl
theorem vN(c:iJ):dM (wC c) (.int 2)=some (dTup c.thing):=mX (by decide) rfl
theorem vO(c:iJ):dM (wC c) (.int 3)=some (dTup c.needs):=mX (by decide) rfl
theorem Ai(cs:List iJ):nO [cM cs]=some (.int cs.length):=by show some (D.int ((cs.map wC).length:Nat))=_;rw[A9]
def Good(cs:List iJ):Prop:=cs.length≤124∧∀k,k<cs.length→(∀m∈(at_ cs k).needs,0≤m∧m<k)∧(at_ cs k).needs.Pairwise (·<·)∧(at_ cs k).needs.length≤9
def Zd(c:iJ):DV:=.tup [.int c.nQ,.int c.place,.tup (c.thing.map DV.int),.tup (c.needs.map DV.int)]
theorem qD(ns:List Int):bJ (dTup ns)=some (.tup (ns.map DV.int)):=by
 unfold dTup bJ
 rw[oV]
 rfl
theorem Xo(c:iJ):bJ (wC c)=some (Zd c):=by
 have i1:∀i:Int,bJ (.int i)=some (.int i):=λi=>by unfold bJ;rfl
 unfold wC bJ bM
 rw[i1,B4]
 unfold bM
 rw[i1,B4]
 unfold bM
 rw[qD,B4]
 unfold bM
 rw[qD,B4]
 unfold bM
 rfl
theorem rH:∀cs:List iJ,bM (cs.map wC)=some (cs.map Zd)
 | []=>by rw[E9];unfold bM;rfl
 | c::cs=>by rw[C5];unfold bM;rw[Xo,B4,rH cs];rfl
theorem Te(cs:List iJ):bJ (cM cs)=some (.lst (cs.map Zd)):=by
 unfold cM bJ
 rw[rH]
 rfl
theorem Tf(c:iJ):(Zd c).depth≤2:=by
 unfold Zd DV.depth aV
 have e:∀i:Int,(DV.int i).depth=0:=λi=>by unfold DV.depth;rfl
 have t:∀ns:List Int,(DV.tup (ns.map DV.int)).depth=1:=λns=>by unfold DV.depth;rw[eN]
 rw[e]
 unfold aV
 rw[e]
 unfold aV
 rw[t]
 unfold aV
 rw[t]
 unfold aV
 decide
theorem oW:∀cs:List iJ,aV (cs.map Zd)≤2
 | []=>by rw[E9];unfold aV;decide
 | c::cs=>by
  rw[C5]
  unfold aV
  have:=Tf c
  have:=oW cs
  omega
theorem yF{ds:List D}{xs:List DV}(h:bM ds=some xs)(hd:aV xs≤32):xK (.lst ds) (.lst ds)=some (.bl false):=by
 have e:bJ (.lst ds)=some (.lst xs):=by unfold bJ;rw[h];rfl
 unfold xK toV
 dsimp only
 rw[e]
 dsimp only
 rw[if_pos hd,fJ]
 rfl
theorem Tg(ns ms:List Int):xK (aN ns) (aN ms)=some (.bl (!decide (ns=ms))):=by
 have e:∀l:List Int,bJ (aN l)=some (.lst (l.map DV.int)):=λl=>by unfold aN bJ;rw[oV];rfl
 unfold xK
 rw[e,e]
 unfold toV
 dsimp only
 rw[if_pos (by rw[eN];decide)]
 congr 3
 rw[L5,lD,decide_eq_true_iff]
 constructor
 ·intro z;injection z with z;exact Pn.mp z
 ·intro z;rw[z]
theorem Ms{i j:Int}(h1:Builtin.Int.intBits i≤4000000)(h2:Builtin.Int.intBits j≤4000000):Jh (.int i) (.int j)=some (.int (i*j)):=by unfold Jh uJ;exact if_pos (show rZ i j from⟨h1,h2⟩)
theorem Mt(i j:Int):By [.int i,.int j]=some (.int (if j<i then j else i)):=rfl
end L2
namespace L2
theorem dG{f:FE}{e:DE}{i:Int}(h:f e=some (.int i)):fQ f e=some (some i):=by unfold fQ;rw[h];rfl
theorem vP{cs:List iJ}{c:iJ}{k:Nat}(h:k<cs.length):at_ (cs++[c]) k=at_ cs k:=by
 unfold at_
 rw[D6,D6,M6 h]
theorem Jt(cs:List iJ)(c:iJ):at_ (cs++[c]) cs.length=c:=by
 unfold at_
 rw[D6,M3 (B6 _)]
 simp
theorem Mu(cs:List iJ)(c:iJ):D.lst (cs.map wC++[wC c])=cM (cs++[c]):=by unfold cM;rw[O1];rfl
end L2
namespace L2
end L2


namespace L2
open PySem PySem.Spec PyProof.Rows
end L2


namespace L2
open PySem PySem.Spec PyProof.Rows
section
variable{i j:Nat}{f f':FE}{c:FT}{g1 g2 g gb:GS}{env env':EN}{d d0 d' r:D}{ds:List D}{Pr:SR→Prop}{v:V}{π:FP}{p:List Step}
theorem Th(h1:env[i]?=some (.own d0))(h2:π (rE env)=some p)(h3:nP p d0=some (.lst ds)):rA i π env=.next (env.set i (.own (jF p d0 (.lst [])))):=by
 unfold rA
 rw[h1,h2]
 dsimp only
 rw[h3]
theorem Xp{k:Int}(h1:env[i]?=some (.own d0))(h2:π (rE env)=some p)(h3:nP p d0=some (.lst ds))(h4:f (rE env)=some (.int k))(h5:f' (rE env)=some d)(k0:0≤k)(k1:k<ds.length):nW i π f f' env=.next (env.set i (.own (jF p d0 (.lst (ds.set k.toNat d))))):=by
 unfold nW
 rw[h1,h2,h4,h5]
 dsimp only
 rw[h3]
 dsimp only
 have:Kw ds.length k=some k.toNat:=by unfold Kw;rw[if_pos k0,if_pos k1]
 rw[this]
end
end L2


local macro_rules | `(tactic| walk_at "fs")=>`(tactic| exact⟨rfl,rfl,rfl,by decide +kernel,rfl,by decide +kernel,by decide +kernel⟩)
namespace Rs
open PySem L2
def top(i:Nat):Stmt:=PySem.Challenge.pw_ripestone_k05_laid_and_needs.main.body.getD i (.Pass ⟨0,0,0,0⟩)
abbrev rJ:Stmt:=top 11
noncomputable def yG:GS:=aY (cI 1 (Ep (aD (f2 cW (f2 cW (f2 sS (aC 0) (fC (.int 16807))) (fC (.int 2147483647))) (fC (.int 1009))) (aD (f2 Lg (f2 cW (aC 0) (f2 Bu (fC (.int 10)) (fC (.int 58)))) (f2 Bu (fC (.int 10)) (fC (.int 57)))) (aD (f2 cW (f2 Jh (aC 0) (aC 0)) (f2 Bu (fC (.int 10)) (fC (.int 58)))) aQ)))))
 (fU (Rj (aC 1) (oK) (fQ (f2 cW (f2 cW (f2 sS (aC 0) (fC (.int 69621))) (fC (.int 2147483647))) (fC (.int 4))))))
noncomputable def dH:List D→Option D:=iU 2 1 (yG)
abbrev jL:Stmt:=top 15
noncomputable def Mv:GS:=fU (cX (kW (aD (aC 1) aQ)) [2,0] lM (cX (kW (aD (aC 1) aQ)) [2,0] lM (cQ 1 dH (aD (f2 sS (f2 sS (f2 fK (aC 1) (fC (.int 1))) (f2 fK (f2 sS (fC (.int 7)) (aC 2)) (fC (.int 3)))) (f2 fK (aC 0) (fC (.int 5)))) aQ))))
noncomputable def mZ:List D→Option D:=iU 3 3 (Mv)
abbrev rK:Stmt:=top 10
noncomputable def yH:GS:=aY (cI 2 (lF aQ))
 (aY (cI 3 (f2 cW (f2 sS (f2 fK (aC 0) (fC (.int 11))) (fC (.int 1103515245))) (fC (.int 2147483647))))
 (aY (sV [] 4 (lK (lF (aD (fC (.int 48271)) (aD (fC (.int 69621)) (aD (fC (.int 16807)) (aD (fC (.int 40014)) aQ)))))) (aY (cI 5 (f2 cW (f2 sS (aC 3) (aC 4)) (fC (.int 2147483647))))
 (qK (Lh (fB (f2 GR (aC 1) (fC (.int 0)))) (fB (f2 Ik (f2 cW (aC 5) (fC (.int 2))) (fC (.int 0))))) (aY (cI 6 (iT (aC 1)))
 (aY (qK (fB (f2 GR (f2 cW (f2 kY (aC 5) (fC (.int 2))) (fC (.int 3))) (fC (.int 0)))) (cI 6 (fL By (aD (aC 1) (aD (fC (.int 4)) aQ)))) dU)
 (zX 2 qZ (f2 Lg (f2 Lg (aC 1) (fC (.int 1))) (f2 cW (f2 kY (aC 5) (fC (.int 6))) (aC 6)))))) dU)))
 (fU (fL uU (aD (JL Jg (aC 2)) aQ)))))
noncomputable def jM:List D→Option D:=iU 7 2 (yH)
abbrev lW:Stmt:=top 12
noncomputable def sE:GS:=aY (cI 3 (lF aQ))
 (aY (nZ 4 (kW (aD (fL nO (aD (aC 0) aQ)) aQ)) (aY (cI 5 (f2 cW (f2 sS (f2 fK (f2 dM (aC 0) (aC 4)) (fC (.int 7))) (fC (.int 39373))) (fC (.int 2147483647))))
 (aY (cI 6 (cQ 1 dH (aD (f2 dM (aC 0) (aC 4)) aQ)))
 (zX 3 qZ (Ep (aD (f2 cW (aC 5) (aC 1)) (aD (f2 cW (f2 kY (aC 5) (fC (.int 8))) (aC 2)) (aD (iT (aC 6)) (aD (cQ 2 jM (aD (f2 dM (aC 0) (aC 4)) (aD (aC 4) aQ))) aQ)))))))))
 (pN 3))
noncomputable def fP:List D→Option D:=iU 7 3 (sE)
abbrev oX:Stmt:=top 13
noncomputable def vQ:GS:=aY (cI 2 (f2 cW (aC 1) (f2 fK (fL nO (aD (aC 0) aQ)) (fC (.int 1)))))
 (aY (cI 3 (f2 fK (Lk false (aC 0) (fQ (aC 2)) (oK)) (Lk false (aC 0) (oK) (fQ (aC 2)))))
 (aY (qK (fB (f2 Ik (f2 cW (f2 kY (aC 1) (fC (.int 64))) (fC (.int 2))) (fC (.int 1)))) (cI 3 (JL Cp (aC 3))) dU)
 (fU (f2 fK (aC 3) (Lk false (aC 3) (oK) (fQ (f2 cW (f2 kY (aC 1) (fC (.int 128))) (fC (.int 3)))))))))
noncomputable def iB:List D→Option D:=iU 4 2 (vQ)
abbrev tK:Stmt:=top 16
noncomputable def Ju:GS:=aY (cI 3 (fC (.dt [] [])))
 (aY (sV [] 4 (lK (aC 2)) (Mj 3 5 (aD (f2 dM (f2 dM (aC 1) (aC 4)) (fC (.int 0))) (aD (f2 dM (f2 dM (aC 1) (aC 4)) (fC (.int 1))) aQ)) (aC 4)))
 (aY (cI 6 (cX (lK (aC 0)) [] lM (fL dList (aD (aC 0) aQ))))
 (aY (Cz 3 5 (λtop=>nW 6 (Ux qZ (f2 dM (aC 5) (fC (.int 0)))) (f2 dM (aC 5) (fC (.int 1))) (iT (f2 dM (f2 dM (aC 1) (fC (.int top))) (fC (.int 2))))))
 (pN 6))))
noncomputable def qF:List D→Option D:=iU 7 3 (Ju)
abbrev Jv:Stmt:=top 6
noncomputable def Ze:GS:=aY (cI 3 (cX (lK (aC 0)) [] lM (fL dList (aD (aC 0) aQ))))
 (aY (sV [] 4 (lK (fL tD (aD (aC 2) aQ))) (aY (cI 5 (iT (f2 dM (aC 1) (aC 4))))
 (nW 3 (Ux qZ (f2 dM (aC 5) (fC (.int (0))))) (f2 dM (aC 5) (fC (.int (1)))) (iT (f2 dM (aC 5) (fC (.int (2))))))))
 (pN 3))
noncomputable def yI:List D→Option D:=iU 6 3 (Ze)
abbrev oY:Stmt:=top 8
noncomputable def vR:GS:=aY (qK (fB (f2 VM (aC 1) (fL nO (aD (aC 0) aQ)))) (fU (iT (f2 dM (aC 0) (aC 1)))) dU)
 (fU (fC (.int 0)))
noncomputable def kJ:List D→Option D:=iU 2 2 (vR)
abbrev vU:Stmt:=top 14
noncomputable def Dh:GS:=aY (cI 2 (lF aQ))
 (aY (nZ 3 (kW (aD (fL nO (aD (aC 0) aQ)) aQ)) (aY (cI 4 (f2 cW (f2 sS (f2 fK (f2 dM (aC 0) (aC 3)) (fC (.int 3))) (fC (.int 742938285))) (fC (.int 2147483647))))
 (qK (fB (f2 VM (f2 cW (f2 kY (aC 4) (fC (.int 5))) (fC (.int 4))) (aC 1))) (zX 2 qZ (iT (aC 3))) dU)))
 (pN 2))
noncomputable def lX:List D→Option D:=iU 5 2 (Dh)
abbrev rM:Stmt:=top 9
noncomputable def Mw:GS:=fU (uT (uX "int" (aC 0)) (Bw (uX "bool" (aC 0))))
noncomputable def dI:List D→Option D:=iU 1 1 (Mw)
abbrev nA:Stmt:=top 17
noncomputable def yJ:GS:=aY (qK (Qg (nM (fB (uX "list" (aC 0)))) (fB (f2 xK (fL nO (aD (aC 0) aQ)) (fL nO (aD (aC 1) aQ))))) (fU (fC (.bl false))) dU)
 (aY (sV [] 2 (lK (aC 0)) (aY (qK (nM (fB (uX "list" (aC 2)))) (fU (fC (.bl false))) dU)
 (sV [2] 3 (lK (aC 2)) (qK (Qg (nM (fB (uX "tuple" (aC 3)))) (fB (f2 xK (cX (lK (aC 3)) [] (nM (fB (cQ 1 dI (aD (aC 0) aQ)))) (iT (aC 0))) (lF aQ)))) (fU (fC (.bl false))) dU))))
 (fU (f2 Ik (aC 0) (aC 1))))
noncomputable def gG:List D→Option D:=iU 4 2 (yJ)
abbrev qG:Stmt:=top 18
noncomputable def Di:GS:=aY (qK (Qg (nM (fB (uX "list" (aC 0)))) (fB (f2 xK (fL nO (aD (aC 0) aQ)) (fL nO (aD (aC 1) aQ))))) (fU (fC (.bl false))) dU)
 (aY (nZ 2 (kW (aD (fL nO (aD (aC 1) aQ)) aQ)) (aY (qK (Qg (nM (fB (uX "tuple" (f2 dM (aC 0) (aC 2))))) (fB (f2 xK (f2 dM (aC 0) (aC 2)) (f2 dM (f2 dM (aC 1) (aC 2)) (fC (.int 3)))))) (fU (fC (.bl false))) dU)
 (qK (fB (f2 xK (cX (lK (f2 dM (aC 0) (aC 2))) [] (nM (fB (cQ 1 dI (aD (aC 0) aQ)))) (iT (aC 0))) (lF aQ))) (fU (fC (.bl false))) dU)))
 (fU (fC (.bl true))))
noncomputable def lY:List D→Option D:=iU 3 2 (Di)
abbrev qH:Stmt:=top 5
noncomputable def Ti:GS:=fU (cX (lK (aC 0)) [] lM (iT (f2 dM (aC 0) (fC (.int (3))))))
noncomputable def qI:List D→Option D:=iU 1 1 (Ti)
abbrev Xq:Stmt:=top 19
noncomputable def TJ:GS:=aY (cI 1 (f2 cW (cQ 2 kJ (aD (aC 0) (aD (fC (.int 0)) aQ))) (fC (.int 2147483647))))
 (aY (cI 2 (f2 fK (fC (.int 1)) (f2 cW (aC 1) (fC (.int 8)))))
 (aY (cI 3 (f2 fK (fC (.int 1)) (f2 cW (f2 kY (aC 1) (fC (.int 8))) (fC (.int 9)))))
 (aY (cI 4 (Lk true (aC 0) (fQ (fC (.int 1))) (fQ (fC (.int 61)))))
 (aY (cI 5 (cQ 3 mZ (aD (aC 1) (aD (aC 2) (aD (aC 3) aQ)))))
 (aY (cI 6 (cQ 3 fP (aD (aC 4) (aD (aC 2) (aD (aC 3) aQ)))))
 (aY (cI 7 (cQ 2 iB (aD (cQ 2 lX (aD (aC 4) (aD (f2 cW (f2 kY (aC 1) (fC (.int 72))) (fC (.int 5))) aQ))) (aD (f2 kY (aC 1) (fC (.int 360))) aQ))))
 (aY (cI 8 (cQ 3 qF (aD (aC 5) (aD (aC 6) (aD (aC 7) aQ)))))
 (aY (cI 9 (lF (aD (cX (lK (aC 5)) [] lM (fL dList (aD (aC 0) aQ))) (aD (fL dList (aD (aC 6) aQ)) (aD (fL dList (aD (aC 7) aQ)) aQ)))))
 (aY (cI 10 (cQ 3 yI (aD (f2 dM (aC 9) (fC (.int 0))) (aD (f2 dM (aC 9) (fC (.int 1))) (aD (f2 dM (aC 9) (fC (.int 2))) aQ)))))
 (aY (qK (Qg (nM (fB (cQ 2 gG (aD (aC 10) (aD (aC 8) aQ))))) (fB (f2 xK (aC 9) (lF (aD (aC 5) (aD (aC 6) (aD (aC 7) aQ))))))) (fU (fC (.bl false))) dU)
 (aY (qK (Qg (nM (fB (cQ 2 lY (aD (cQ 1 qI (aD (f2 dM (aC 9) (fC (.int 1))) aQ)) (aD (aC 6) aQ))))) (fB (f2 xK (f2 dM (aC 9) (fC (.int 1))) (aC 6)))) (fU (fC (.bl false))) dU)
 (aY (rA 10 (Ux qZ (fC (.int 0))))
 (fU (uT (f2 Ik (Lk false (aC 10) (fQ (fC (.int 1))) (oK)) (Lk false (aC 8) (fQ (fC (.int 1))) (oK))) (uT (f2 Ik (f2 dM (aC 9) (fC (.int 0))) (aC 5)) (cQ 2 gG (aD (cQ 3 yI (aD (f2 dM (aC 9) (fC (.int 0))) (aD (aC 6) (aD (aC 7) aQ)))) (aD (aC 8) aQ))))))))))))))))))
noncomputable def KC:List D→Option D:=iU 11 1 (TJ)
section
variable{P:Program}{w:World}{K:aA}{mg:Str→Option Value}{base:Heap}
theorem vV:bL ["number", "some"] ["number"] (aK rJ):=by walk_at "fs"
theorem Dj(R:Raw K mg "_law_thing" rJ):nR P w K mg base "_law_thing" 1 1 (oM K 1 dH):=by
 refine R.rB vV (λ_ _ _ _ _ _ us hl=>match us,hl with | [_],_=>rfl) (λ_ _ _ _ _ _ _ hr=>?_)
 have fV:=hr.units
 have hu:=iG hr
 exact⟨_,aM (bK (i:=1) (Qf (fG (bN (XN.r (bN (XN.r (jT (aJ (pv 0)) (XN.r (aH)))) (XN.r (aH)))) (XN.r (aH))) (fG (Er (XN.r (bN (aJ (pv 0)) (XN.r (Es (XN.r (aH)) (XN.r (aH)))))) (XN.r (Es (XN.r (aH)) (XN.r (aH))))) (fG (bN (XN.r (Xd (aJ (pv 0)) (aJ (pv 0)))) (XN.r (Es (XN.r (aH)) (XN.r (aH))))) qU)))) (λh=>bI vV.nd rfl (by first | exact E1 rfl | exact D9 rfl) h))
  (bA (cF (Ma (aJ (pv 1)) (mL) (iH (XN.r (bN (XN.r (bN (XN.r (jT (aJ (pv 0)) (XN.r (aH)))) (XN.r (aH)))) (XN.r (aH))))))))⟩
theorem Gi:bL ["number", "panes", "places"] ["number", "panes", "places"] (aK jL):=by walk_at "fs"
theorem Dk(R:Raw K mg "_law_stone" jL) (gH:nR P w K mg base "_law_thing" 1 1 (oM K 1 dH)) (eY:mg "range" = none):nR P w K mg base "_law_stone" 2 3 (oM K 3 mZ):=by
 refine R.rB Gi (λ_ _ _ _ _ _ us hl=>match us,hl with | [_,_,_],_=>rfl) (λ_ _ _ _ _ _ _ hr=>?_)
 have fV:=hr.units
 have hu:=iG hr
 exact⟨_,bA (cF (Rr ["i", "places", "number"] [2,0] rfl (eX.at (aK jL) ["number", "panes", "places"] (by decide +kernel)) (xR rfl eY (aF (aJ (pv 1)) aR)) (Rq (by decide +kernel) rfl rfl (by decide +kernel)) (λ_ _ _ _ _=>mO) (λ_ _ _ _ _=>pM ["j", "number", "i"] [2,0] rfl (cG.of (by show Ib (cP _ (aK jL)) _ ["i", "places", "number"] _ _ _=true;decide +kernel)) (xR rfl eY (aF (aJ (pv 1)) aR)) (jQ (by decide +kernel) rfl rfl) (λ_ _ _ _ _=>mO) (λ_ _ _ _ _=>cR gH (hr.mono (by decide)) rfl (aF (XN.r (jT (XN.r (jT (XN.r (dO (aJ (pv 1)) (XN.r (aH)))) (XN.r (dO (XN.r (jT (XN.r (aH)) (aJ (pv 2)))) (XN.r (aH)))))) (XN.r (dO (aJ (pv 0)) (XN.r (aH)))))) aR)))))⟩
theorem dC:bL ["cell", "k", "wanted", "base", "by", "number", "near"] ["cell", "k"] (aK rK):=by walk_at "fs"
theorem Dl(R:Raw K mg "_law_needs" rK) (KH:mg "min" = none) (nC:mg "sorted" = none) (KJ:mg "set" = none) (kO:mg "tuple" = none):nR P w K mg base "_law_needs" 1 2 (oM K 2 jM):=by
 refine R.rB dC (λ_ _ _ _ _ _ us hl=>match us,hl with | [_,_],_=>rfl) (λ_ _ _ _ _ _ _ hr=>?_)
 have fV:=hr.units
 have hu:=iG hr
 exact⟨_,aM (bK (i:=2) (zR qU) (λh=>bI dC.nd rfl (by first | exact E1 rfl | exact D9 rfl) h))
  (aM (bK (i:=3) (bN (XN.r (jT (XN.r (dO (aJ (pv 0)) (XN.r (aH)))) (XN.r (aH)))) (XN.r (aH))) (λh=>bI dC.nd rfl (by first | exact E1 rfl | exact D9 rfl) h))
  (aM (uW [] PassesOwn.never rfl (gQ (zT (aF (XN.r (aH)) (aF (XN.r (aH)) (aF (XN.r (aH)) (aF (XN.r (aH)) aR)))))) (dJ (i:=4) dC.nd rfl (by first | exact E1 rfl | exact D9 rfl)) (aM (bK (i:=5) (bN (XN.r (jT (aJ (pv 3)) (aJ (pv 4)))) (XN.r (aH))) (λh=>bI dC.nd rfl (by first | exact E1 rfl | exact D9 rfl) h))
  (bA (jE (XW.xt (HF (eO Yk zM (aJ (pv 1)) (XN.r (aH)) (cU _)) (Wk (eO (or_eq fV rfl) Bv (XN.r (bN (aJ (pv 5)) (XN.r (aH)))) (XN.r (aH)) (cU _))))) (aM (bK (i:=6) (XR.n (aJ (pv 1))) (λh=>bI dC.nd rfl (by first | exact E1 rfl | exact D9 rfl) h))
  (aM (jE (eO Yk zM (XN.r (bN (XN.r (jU (aJ (pv 5)) (XN.r (aH)))) (XN.r (aH)))) (XN.r (aH)) (cU _)) (bA (bK (i:=6) (lH Wl (Kq rfl) rfl KH PyProof.Rows.boot_min (aF (aJ (pv 1)) (aF (XN.r (aH)) aR))) (λh=>bI dC.nd rfl (by first | exact E1 rfl | exact D9 rfl) h))) eV)
  (bA (Fb (Ln (pv 2)) (Er (XN.r (Er (aJ (pv 1)) (XN.r (aH)))) (XN.r (bN (XN.r (jU (aJ (pv 5)) (XN.r (aH)))) (aJ (pv 6))))) (λa b=>sX (Oq L3 N3 N4 jC a (fZ b oE))))))) eV))))
  (bA (cF (xO Qi (Qj rfl) rfl kO N5 (aF (XN.r (Xa (aJ (pv 2)) rfl nC Q2 rfl KJ PyProof.Rows.boot_set)) aR))))))⟩
theorem dX:bL ["cells", "panes", "places", "changes", "k", "number", "thing"] ["cells", "panes", "places"] (aK lW):=by walk_at "fs"
theorem wM(R:Raw K mg "_law_changes" lW) (gH:nR P w K mg base "_law_thing" 1 1 (oM K 1 dH)) (rN:nR P w K mg base "_law_needs" 1 2 (oM K 2 jM)) (iZ:mg "len" = none) (eY:mg "range" = none):nR P w K mg base "_law_changes" 2 3 (oM K 3 fP):=by
 refine R.rB dX (λ_ _ _ _ _ _ us hl=>match us,hl with | [_,_,_],_=>rfl) (λ_ _ _ _ _ _ _ hr=>?_)
 have fV:=hr.units
 have hu:=iG hr
 exact⟨_,aM (bK (i:=3) (zR qU) (λh=>bI dX.nd rfl (by first | exact E1 rfl | exact D9 rfl) h))
  (aM (zZ PassesOwn.never rfl (rC rfl eY (aF (XN.r (lH jY (jZ rfl) rfl iZ J2 (aF (aJ (pv 0)) aR))) aR)) (dJ (i:=4) dX.nd rfl (by first | exact E1 rfl | exact D9 rfl)) (aM (bK (i:=5) (bN (XN.r (jT (XN.r (dO (bR (aJ (pv 0)) (aJ (pv 4)) (λ_ _=>rfl)) (XN.r (aH)))) (XN.r (aH)))) (XN.r (aH))) (λh=>bI dX.nd rfl (by first | exact E1 rfl | exact D9 rfl) h))
  (aM (bK (i:=6) (cR gH (hr.mono (by decide)) rfl (aF (bR (aJ (pv 0)) (aJ (pv 4)) (λ_ _=>rfl)) aR)) (λh=>bI dX.nd rfl (by first | exact E1 rfl | exact D9 rfl) h))
  (bA (Fb (Ln (pv 3)) (Qf (fG (bN (aJ (pv 5)) (aJ (pv 1))) (fG (bN (XN.r (jU (aJ (pv 5)) (XN.r (aH)))) (aJ (pv 2))) (fG (XR.n (aJ (pv 6))) (fG (cR rN (hr.mono (by decide)) rfl (aF (bR (aJ (pv 0)) (aJ (pv 4)) (λ_ _=>rfl)) (aF (aJ (pv 4)) aR))) qU))))) (λa b=>sX (Oq L3 N3 N4 jC a (fZ b oE))))))))
  (bA (tG (pv 3))))⟩
theorem iK:bL ["some", "cell", "cut", "turned"] ["some", "cell"] (aK oX):=by walk_at "fs"
theorem Aj(R:Raw K mg "_law_turned" oX) (iZ:mg "len" = none) (cY:mg "list" = none) (rO:mg "reversed" = none):nR P w K mg base "_law_turned" 1 2 (oM K 2 iB):=by
 refine R.rB iK (λ_ _ _ _ _ _ us hl=>match us,hl with | [_,_],_=>rfl) (λ_ _ _ _ _ _ _ hr=>?_)
 have fV:=hr.units
 have hu:=iG hr
 exact⟨_,aM (bK (i:=2) (bN (aJ (pv 1)) (XN.r (dO (XN.r (lH jY (jZ rfl) rfl iZ J2 (aF (aJ (pv 0)) aR))) (XN.r (aH))))) (λh=>bI iK.nd rfl (by first | exact E1 rfl | exact D9 rfl) h))
  (aM (bK (i:=3) (dO (lJ (aJ (pv 0)) (iH (aJ (pv 2))) (mL)) (lJ (aJ (pv 0)) (mL) (iH (aJ (pv 2))))) (λh=>bI iK.nd rfl (by first | exact E1 rfl | exact D9 rfl) h))
  (aM (jE (eO (or_eq fV rfl) Bv (XN.r (bN (XN.r (jU (aJ (pv 1)) (XN.r (aH)))) (XN.r (aH)))) (XN.r (aH)) (cU _)) (bA (bK (i:=3) (Xb (aJ (pv 3)) rfl cY F0 rfl rO PyProof.Rows.boot_reversed) (λh=>bI iK.nd rfl (by first | exact E1 rfl | exact D9 rfl) h))) eV)
  (bA (cF (dO (aJ (pv 3)) (lJ (aJ (pv 3)) (mL) (iH (XN.r (bN (XN.r (jU (aJ (pv 1)) (XN.r (aH)))) (XN.r (aH)))))))))))⟩
theorem jN:bL ["stone", "changes", "some", "tops", "k", "here", "due"] ["stone", "changes", "some"] (aK tK):=by walk_at "fs"
theorem Mx(R:Raw K mg "_law_due" tK) (KN:mg "max" = none) (cY:mg "list" = none):nR P w K mg base "_law_due" 1 3 (oM K 3 qF):=by
 refine R.rB jN (λ_ _ _ _ _ _ us hl=>match us,hl with | [_,_,_],_=>rfl) (λ_ _ _ _ _ _ _ hr=>?_)
 have fV:=hr.units
 have hu:=iG hr
 exact⟨_,aM (bK (i:=3) (Rm) (λh=>bI jN.nd rfl (by first | exact E1 rfl | exact D9 rfl) h))
  (aM (uW [] PassesOwn.never rfl (gQ (aJ (pv 2))) (dJ (i:=4) jN.nd rfl (by first | exact E1 rfl | exact D9 rfl)) (JT (λh=>bI jN.nd rfl (by first | exact E1 rfl | exact D9 rfl) h) (aF (bR (bR (aJ (pv 1)) (aJ (pv 4)) (λ_ _=>rfl)) (XN.r (aH)) (λ_ _=>rfl)) (aF (bR (bR (aJ (pv 1)) (aJ (pv 4)) (λ_ _=>rfl)) (XN.r (aH)) (λ_ _=>rfl)) aR)) (Vy hu (pv 3) (pv 5) (tR (Ko rfl) rfl KN PyProof.Rows.boot_max (fZ (pv 4) (fZ (Pa hu (pv 3) (pv 5) Nv ⟨rfl,rfl,rfl,rfl⟩) oE))) rfl) (by decide)))
  (aM (Iw (i:=6) ["pane"] [] rfl (.at (aK tK) ["stone", "changes", "some", "tops", "k", "here", "due"] (by decide +kernel)) jN.nd rfl (by first | exact E1 rfl | exact D9 rfl) (gQ (aJ (pv 0))) (jQ (by decide +kernel) rfl rfl) (λ_ _ _ _ _=>mO) (λ_ _ _ _ _=>xO pK (pL rfl) rfl cY F0 (aF (aJ (pv 0)) aR)))
  (aM (Xj PassesOwn.never rfl hu (pv 3) (dJ (i:=5) jN.nd rfl (by first | exact E1 rfl | exact D9 rfl)) (pv 3) (pv 5) (aJ (pv 1)) aH (Qt (Ln (pv 6)) (bR (aJ (pv 5)) (XN.r (aH)) (λ_ _=>rfl)) (λ_ _=>rfl)) (bR (aJ (pv 5)) (XN.r (aH)) (λ_ _=>rfl)) (λe te he a b c=>by subst he;exact Oa c (Nz a b set_list)) (λ_ _=>rfl) (λ_ _=>rfl) (λ_ _=>rfl))
  (bA (tG (pv 6))))))⟩
theorem Ak:bL ["stone", "changes", "some", "panes", "number", "change"] ["stone", "changes", "some"] (aK Jv):=by walk_at "fs"
theorem Xr(R:Raw K mg "laid" Jv) (cY:mg "list" = none) (nC:mg "sorted" = none) (Tj:nY mg "PANE" (0)) (Gj:nY mg "PLACE" (1)) (Gk:nY mg "THING" (2)):nR P w K mg base "laid" 1 3 (oM K 3 yI):=by
 refine R.rB Ak (λ_ _ _ _ _ _ us hl=>match us,hl with | [_,_,_],_=>rfl) (λ_ _ _ _ _ _ _ hr=>?_)
 have fV:=hr.units
 have hu:=iG hr
 exact⟨_,aM (Iw (i:=3) ["pane"] [] rfl (.at (aK Jv) ["stone", "changes", "some", "panes", "number", "change"] (by decide +kernel)) Ak.nd rfl (by first | exact E1 rfl | exact D9 rfl) (gQ (aJ (pv 0))) (jQ (by decide +kernel) rfl rfl) (λ_ _ _ _ _=>mO) (λ_ _ _ _ _=>xO pK (pL rfl) rfl cY F0 (aF (aJ (pv 0)) aR)))
  (aM (uW [] PassesOwn.never rfl (gQ (XN.r (lH Li (Lj rfl) rfl nC Q2 (aF (aJ (pv 2)) aR)))) (dJ (i:=4) Ak.nd rfl (by first | exact E1 rfl | exact D9 rfl)) (aM (bK (i:=5) (XR.n (bR (aJ (pv 1)) (aJ (pv 4)) (λ_ _=>rfl))) (λh=>bI Ak.nd rfl (by first | exact E1 rfl | exact D9 rfl) h))
  (bA (Wq (Qt (Ln (pv 3)) (bR (aJ (pv 5)) (XN.r (Iv Tj rfl)) (λ_ _=>rfl)) (λ_ _=>rfl)) (bR (aJ (pv 5)) (XN.r (Iv Gj rfl)) (λ_ _=>rfl)) (XR.n (bR (aJ (pv 5)) (XN.r (Iv Gk rfl)) (λ_ _=>rfl))) (λa b c=>Oa c (Nz a b set_list))))))
  (bA (tG (pv 3))))⟩
theorem Dm:bL ["script", "k"] ["script", "k"] (aK oY):=by walk_at "fs"
theorem Al(R:Raw K mg "_law_cell_at" oY) (iZ:mg "len" = none):nR P w K mg base "_law_cell_at" 1 2 (oM K 2 kJ):=by
 refine R.rB Dm (λ_ _ _ _ _ _ us hl=>match us,hl with | [_,_],_=>rfl) (λ_ _ _ _ _ _ _ hr=>?_)
 have fV:=hr.units
 have hu:=iG hr
 exact⟨_,aM (jE (eO Yj zM (aJ (pv 1)) (XN.r (lH jY (jZ rfl) rfl iZ J2 (aF (aJ (pv 0)) aR))) (cU _)) (bA (cF (XR.n (bR (aJ (pv 0)) (aJ (pv 1)) (λ_ _=>rfl))))) eV)
  (bA (cF aH))⟩
theorem nD:bL ["cells", "mode", "some", "k", "number"] ["cells", "mode"] (aK vU):=by walk_at "fs"
theorem Gm(R:Raw K mg "_law_some" vU) (iZ:mg "len" = none) (eY:mg "range" = none):nR P w K mg base "_law_some" 1 2 (oM K 2 lX):=by
 refine R.rB nD (λ_ _ _ _ _ _ us hl=>match us,hl with | [_,_],_=>rfl) (λ_ _ _ _ _ _ _ hr=>?_)
 have fV:=hr.units
 have hu:=iG hr
 exact⟨_,aM (bK (i:=2) (zR qU) (λh=>bI nD.nd rfl (by first | exact E1 rfl | exact D9 rfl) h))
  (aM (zZ PassesOwn.never rfl (rC rfl eY (aF (XN.r (lH jY (jZ rfl) rfl iZ J2 (aF (aJ (pv 0)) aR))) aR)) (dJ (i:=3) nD.nd rfl (by first | exact E1 rfl | exact D9 rfl)) (aM (bK (i:=4) (bN (XN.r (jT (XN.r (dO (bR (aJ (pv 0)) (aJ (pv 3)) (λ_ _=>rfl)) (XN.r (aH)))) (XN.r (aH)))) (XN.r (aH))) (λh=>bI nD.nd rfl (by first | exact E1 rfl | exact D9 rfl) h))
  (bA (jE (eO Yj zM (XN.r (bN (XN.r (jU (aJ (pv 4)) (XN.r (aH)))) (XN.r (aH)))) (aJ (pv 1)) (cU _)) (bA (Fb (Ln (pv 2)) (XR.n (aJ (pv 3))) (λa b=>sX (Oq L3 N3 N4 jC a (fZ b oE))))) eV))))
  (bA (tG (pv 2))))⟩
theorem Gn:bL ["answer"] ["answer"] (aK rM):=by walk_at "fs"
theorem Dn(R:Raw K mg "_law_whole" rM) (bC:mg "isinstance" = none) (Tn:mg "bool" = none) (KQ:mg "int" = none):nR P w K mg base "_law_whole" 1 1 (oM K 1 dI):=by
 refine R.rB Gn (λ_ _ _ _ _ _ us hl=>match us,hl with | [_],_=>rfl) (λ_ _ _ _ _ _ _ hr=>?_)
 have fV:=hr.units
 have hu:=iG hr
 exact⟨_,bA (cF (Eu (XN.r (oO (aJ (pv 0)) (jO (v:=.ty "int") rfl KQ PyProof.Rows.boot_int rfl) rfl bC)) (Im (HH (XN.r (oO (aJ (pv 0)) (jO (v:=.ty "bool") rfl Tn PyProof.Rows.boot_bool rfl) rfl bC))))))⟩
theorem oZ:bL ["answer", "due", "pane", "thing"] ["answer", "due"] (aK nA):=by walk_at "fs"
theorem Dp(R:Raw K mg "_law_alike" nA) (gJ:nR P w K mg base "_law_whole" 1 1 (oM K 1 dI)) (iZ:mg "len" = none) (bC:mg "isinstance" = none) (cY:mg "list" = none) (kO:mg "tuple" = none):nR P w K mg base "_law_alike" 2 2 (oM K 2 gG):=by
 refine R.rB oZ (λ_ _ _ _ _ _ us hl=>match us,hl with | [_,_],_=>rfl) (λ_ _ _ _ _ _ _ hr=>?_)
 have fV:=hr.units
 have hu:=iG hr
 exact⟨_,aM (jE (XW.xt (xN (jX (jV (XN.r (oO (aJ (pv 0)) (jO (v:=.ty "list") rfl cY F0 rfl) rfl bC)))) (qW (eO (uQ fV rfl) uP (XN.r (lH jY (jZ rfl) rfl iZ J2 (aF (aJ (pv 0)) aR))) (XN.r (lH jY (jZ rfl) rfl iZ J2 (aF (aJ (pv 1)) aR))) (cU _))))) (bA (cF (pI))) eV)
  (aM (uW [] PassesOwn.never rfl (gQ (aJ (pv 0))) (dJ (i:=2) oZ.nd rfl (by first | exact E1 rfl | exact D9 rfl)) (aM (jE (jX (jV (XN.r (oO (aJ (pv 2)) (jO (v:=.ty "list") rfl cY F0 rfl) rfl bC)))) (bA (cF (pI))) eV)
  (bA (uW [2] PassesOwn.never rfl (gQ (aJ (pv 2))) (dJ (i:=3) oZ.nd rfl (by first | exact E1 rfl | exact D9 rfl)) (bA (jE (XW.xt (xN (jX (jV (XN.r (oO (aJ (pv 3)) (jO (v:=.ty "tuple") rfl kO N5 rfl) rfl bC)))) (qW (eO (uQ fV rfl) uP (XN.r (pM ["one"] [] rfl (.at (aK nA) ["answer", "due", "pane", "thing"] (by decide +kernel)) (gQ (aJ (pv 3))) (jQ (by decide +kernel) rfl rfl) (λ_ _ _ _ _=>Ir (jX (jV (XN.r (cR gJ (hr.mono (by decide)) rfl (aF (aJ (pv 0)) aR)))))) (λ_ _ _ _ _=>XR.n (aJ (pv 0))))) (zT aR) (cU _))))) (bA (cF (pI))) eV))))))
  (bA (cF (Et (or_eq fV rfl) Bv (aJ (pv 0)) (aJ (pv 1)) (cU _)))))⟩
theorem yK:bL ["answer", "changes", "k"] ["answer", "changes"] (aK qG):=by walk_at "fs"
theorem Gp(R:Raw K mg "_law_rows" qG) (gJ:nR P w K mg base "_law_whole" 1 1 (oM K 1 dI)) (iZ:mg "len" = none) (bC:mg "isinstance" = none) (cY:mg "list" = none) (eY:mg "range" = none) (kO:mg "tuple" = none):nR P w K mg base "_law_rows" 2 2 (oM K 2 lY):=by
 refine R.rB yK (λ_ _ _ _ _ _ us hl=>match us,hl with | [_,_],_=>rfl) (λ_ _ _ _ _ _ _ hr=>?_)
 have fV:=hr.units
 have hu:=iG hr
 exact⟨_,aM (jE (XW.xt (xN (jX (jV (XN.r (oO (aJ (pv 0)) (jO (v:=.ty "list") rfl cY F0 rfl) rfl bC)))) (qW (eO (uQ fV rfl) uP (XN.r (lH jY (jZ rfl) rfl iZ J2 (aF (aJ (pv 0)) aR))) (XN.r (lH jY (jZ rfl) rfl iZ J2 (aF (aJ (pv 1)) aR))) (cU _))))) (bA (cF (pI))) eV)
  (aM (zZ PassesOwn.never rfl (rC rfl eY (aF (XN.r (lH jY (jZ rfl) rfl iZ J2 (aF (aJ (pv 1)) aR))) aR)) (dJ (i:=2) yK.nd rfl (by first | exact E1 rfl | exact D9 rfl)) (aM (jE (XW.xt (xN (jX (jV (XN.r (oO (bR (aJ (pv 0)) (aJ (pv 2)) (λ_ _=>rfl)) (jO (v:=.ty "tuple") rfl kO N5 rfl) rfl bC)))) (qW (eO (uQ fV rfl) uP (bR (aJ (pv 0)) (aJ (pv 2)) (λ_ _=>rfl)) (bR (bR (aJ (pv 1)) (aJ (pv 2)) (λ_ _=>rfl)) (XN.r (aH)) (λ_ _=>rfl)) (cU _))))) (bA (cF (pI))) eV)
  (bA (jE (eO (uQ fV rfl) uP (XN.r (pM ["one"] [] rfl (.at (aK qG) ["answer", "changes", "k"] (by decide +kernel)) (gQ (bR (aJ (pv 0)) (aJ (pv 2)) (λ_ _=>rfl))) (jQ (by decide +kernel) rfl rfl) (λ_ _ _ _ _=>Ir (jX (jV (XN.r (cR gJ (hr.mono (by decide)) rfl (aF (aJ (pv 0)) aR)))))) (λ_ _ _ _ _=>XR.n (aJ (pv 0))))) (zT aR) (cU _)) (bA (cF (pI))) eV))))
  (bA (cF (pI))))⟩
theorem My:bL ["changes"] ["changes"] (aK qH):=by walk_at "fs"
theorem Gq(R:Raw K mg "needs_of" qH) (Gr:nY mg "NEEDS" (3)):nR P w K mg base "needs_of" 1 1 (oM K 1 qI):=by
 refine R.rB My (λ_ _ _ _ _ _ us hl=>match us,hl with | [_],_=>rfl) (λ_ _ _ _ _ _ _ hr=>?_)
 have fV:=hr.units
 have hu:=iG hr
 exact⟨_,bA (cF (pM ["change"] [] rfl (.at (aK qH) ["changes"] (by decide +kernel)) (gQ (aJ (pv 0))) (jQ (by decide +kernel) rfl rfl) (λ_ _ _ _ _=>mO) (λ_ _ _ _ _=>XR.n (bR (aJ (pv 0)) (XN.r (Iv Gr rfl)) (λ_ _=>rfl)))))⟩
theorem lZ:bL ["script", "first", "panes", "places", "cells", "stone", "changes", "some", "due", "given", "told"] ["script"] (aK Xq):=by walk_at "fs"
theorem KR{f:Addr}{fd:FuncData}(F:Us K "law" "law" Xq f fd) (pA:nR P w K mg base "_law_cell_at" 1 2 (oM K 2 kJ)) (rP:nR P w K mg base "_law_stone" 2 3 (oM K 3 mZ)) (mC:nR P w K mg base "_law_changes" 2 3 (oM K 3 fP)) (vW:nR P w K mg base "_law_some" 1 2 (oM K 2 lX)) (pB:nR P w K mg base "_law_turned" 1 2 (oM K 2 iB)) (Am:nR P w K mg base "_law_due" 1 3 (oM K 3 qF)) (Jw:nR P w K mg base "laid" 1 3 (oM K 3 yI)) (nF:nR P w K mg base "_law_alike" 2 2 (oM K 2 gG)) (vX:nR P w K mg base "needs_of" 1 1 (oM K 1 qI)) (vY:nR P w K mg base "_law_rows" 2 2 (oM K 2 lY)) (cY:mg "list" = none) (JM:∀ns:List Int,ns.length≤63→(∀k∈ns,Small k)→KC [.lst (ns.map D.int)]=some (.bl true)):qP P w K mg base Np 3 f fd ["script"] (ZD K):=by
 refine F.jx lZ (λcdv A outer s H E hr=>?_) JM
 have fV:=hr.units
 have hu:=iG hr
 exact⟨_,aM (bK (i:=1) (bN (XN.r (cR pA (hr.mono (by decide)) rfl (aF (aJ (pv 0)) (aF (XN.r (aH)) aR)))) (XN.r (aH))) (λh=>bI lZ.nd rfl (by first | exact E1 rfl | exact D9 rfl) h))
  (aM (bK (i:=2) (dO (XN.r (aH)) (XN.r (bN (aJ (pv 1)) (XN.r (aH))))) (λh=>bI lZ.nd rfl (by first | exact E1 rfl | exact D9 rfl) h))
  (aM (bK (i:=3) (dO (XN.r (aH)) (XN.r (bN (XN.r (jU (aJ (pv 1)) (XN.r (aH)))) (XN.r (aH))))) (λh=>bI lZ.nd rfl (by first | exact E1 rfl | exact D9 rfl) h))
  (aM (bK (i:=4) (Qk (aJ (pv 0)) (iH (XN.r (aH))) (iH (XN.r (aH)))) (λh=>bI lZ.nd rfl (by first | exact E1 rfl | exact D9 rfl) h))
  (aM (bK (i:=5) (cR rP (hr.mono (by decide)) rfl (aF (aJ (pv 1)) (aF (aJ (pv 2)) (aF (aJ (pv 3)) aR)))) (λh=>bI lZ.nd rfl (by first | exact E1 rfl | exact D9 rfl) h))
  (aM (bK (i:=6) (cR mC (hr.mono (by decide)) rfl (aF (aJ (pv 4)) (aF (aJ (pv 2)) (aF (aJ (pv 3)) aR)))) (λh=>bI lZ.nd rfl (by first | exact E1 rfl | exact D9 rfl) h))
  (aM (bK (i:=7) (cR pB (hr.mono (by decide)) rfl (aF (XN.r (cR vW (hr.mono (by decide)) rfl (aF (aJ (pv 4)) (aF (XN.r (bN (XN.r (jU (aJ (pv 1)) (XN.r (aH)))) (XN.r (aH)))) aR)))) (aF (XN.r (jU (aJ (pv 1)) (XN.r (aH)))) aR))) (λh=>bI lZ.nd rfl (by first | exact E1 rfl | exact D9 rfl) h))
  (aM (bK (i:=8) (cR Am (hr.mono (by decide)) rfl (aF (aJ (pv 5)) (aF (aJ (pv 6)) (aF (aJ (pv 7)) aR)))) (λh=>bI lZ.nd rfl (by first | exact E1 rfl | exact D9 rfl) h))
  (aM (bK (i:=9) (zR (fG (pM ["pane"] [] rfl (.at (aK Xq) ["script", "first", "panes", "places", "cells", "stone", "changes", "some", "due", "given", "told"] (by decide +kernel)) (gQ (aJ (pv 5))) (jQ (by decide +kernel) rfl rfl) (λ_ _ _ _ _=>mO) (λ_ _ _ _ _=>xO pK (pL rfl) rfl cY F0 (aF (aJ (pv 0)) aR))) (fG (xO pK (pL rfl) rfl cY F0 (aF (aJ (pv 6)) aR)) (fG (xO pK (pL rfl) rfl cY F0 (aF (aJ (pv 7)) aR)) qU)))) (λh=>bI lZ.nd rfl (by first | exact E1 rfl | exact D9 rfl) h))
  (aM (bK (i:=10) (cR Jw (hr.mono (by decide)) rfl (aF (bR (aJ (pv 9)) (XN.r (aH)) (λ_ _=>rfl)) (aF (bR (aJ (pv 9)) (XN.r (aH)) (λ_ _=>rfl)) (aF (bR (aJ (pv 9)) (XN.r (aH)) (λ_ _=>rfl)) aR)))) (λh=>bI lZ.nd rfl (by first | exact E1 rfl | exact D9 rfl) h))
  (aM (jE (XW.xt (xN (jX (jV (XN.r (cR nF (hr.mono (by decide)) rfl (aF (aJ (pv 10)) (aF (aJ (pv 8)) aR)))))) (qW (eO (uQ fV rfl) uP (aJ (pv 9)) (zT (aF (aJ (pv 5)) (aF (aJ (pv 6)) (aF (aJ (pv 7)) aR)))) (cU _))))) (bA (cF (pI))) eV)
  (aM (jE (XW.xt (xN (jX (jV (XN.r (cR vY (hr.mono (by decide)) rfl (aF (XN.r (cR vX (hr.mono (by decide)) rfl (aF (bR (aJ (pv 9)) (XN.r (aH)) (λ_ _=>rfl)) aR))) (aF (aJ (pv 6)) aR)))))) (qW (eO (uQ fV rfl) uP (bR (aJ (pv 9)) (XN.r (aH)) (λ_ _=>rfl)) (aJ (pv 6)) (cU _))))) (bA (cF (pI))) eV)
  (aM (Qw (Qt (Ln (pv 10)) (XN.r (aH)) (λ_ _=>rfl)) (λa=>sX (DG L3 PySem.F.slot_list_clear PySem.F.type_list_clear Ot a)))
  (bA (cF (Eu (XN.r (Et (or_eq fV rfl) Bv (lJ (aJ (pv 10)) (iH (XN.r (aH))) (mL)) (lJ (aJ (pv 8)) (iH (XN.r (aH))) (mL)) (cU _))) (Eu (XN.r (Et (or_eq fV rfl) Bv (bR (aJ (pv 9)) (XN.r (aH)) (λ_ _=>rfl)) (aJ (pv 5)) (cU _))) (Im (cR nF (hr.mono (by decide)) rfl (aF (XN.r (cR Jw (hr.mono (by decide)) rfl (aF (bR (aJ (pv 9)) (XN.r (aH)) (λ_ _=>rfl)) (aF (aJ (pv 6)) (aF (aJ (pv 7)) aR))))) (aF (aJ (pv 8)) aR))))))))))))))))))))⟩
end
end Rs

namespace Rs
open PySem L2
local macro_rules | `(tactic| walk_at "lt")=>`(tactic| exact Nat.le_of_ble_eq_true rfl)
local macro_rules | `(tactic| walk_at "sc")=>`(tactic| first | omega | with_reducible assumption | exact Int.pow_pos (by decide) | exact Xk (by omega) (by omega) | exact ZZ (by omega) (by omega))
local macro_rules | `(tactic| walk_at "op")=>`(tactic| first | with_reducible assumption | with_reducible exact gD _ _ | with_reducible exact Dc _ _ | with_reducible exact Jp _ _ | with_reducible exact tH _ _ | with_reducible exact Ac _ _ | with_reducible exact Jm _ _ | with_reducible exact dGe_int _ _ | with_reducible exact dLe_int _ _ | with_reducible exact mY _ | with_reducible exact pX _ | with_reducible exact dLen_tup _ | ((with_reducible apply jK);walk_at "sc") | ((with_reducible apply lU);walk_at "sc") | ((with_reducible apply lR);(walk_at "sc");walk_at "sc") | ((with_reducible apply pW);exact⟨by decide,by decide,by omega⟩) | ((with_reducible apply lV);(walk_at "sc");walk_at "sc"))
local macro_rules | `(tactic| walk_at "ea")=>`(tactic| first | with_reducible exact Sq | ((with_reducible apply aB);(walk_at "ev");walk_at "ea"))
local macro_rules | `(tactic| walk_at "ev")=>`(tactic| first | ((with_reducible apply Xm);exact rfl) | with_reducible exact TF | with_reducible assumption | ((with_reducible apply aX);(walk_at "ev");(walk_at "ev");walk_at "op") | ((with_reducible apply jJ);(walk_at "ea");walk_at "op") | ((with_reducible apply bQ);(walk_at "ea");exact rfl;with_reducible assumption) | ((with_reducible apply kE);(walk_at "ev");exact rfl) | ((with_reducible apply fNeg_ok);walk_at "ev") | ((with_reducible apply Jq);(walk_at "ea");walk_at "lt") | ((with_reducible apply pY);(walk_at "ea");walk_at "lt"))
local macro_rules | `(tactic| walk_at "et")=>`(tactic| first | ((with_reducible apply gB);walk_at "et") | ((with_reducible apply fOr_ok);(walk_at "et");walk_at "et") | ((with_reducible apply Xl);(walk_at "et");walk_at "et") | ((with_reducible apply eE);walk_at "ev"))
local macro_rules | `(tactic| walk_at "set")=>`(tactic| (apply sq_set;(walk_at "ev");(walk_at "lt")))
local macro_rules | `(tactic| walk_at "q")=>`(tactic| (apply gZ;(walk_at "ev");(walk_at "lt")))
local macro_rules | `(tactic| walk_at "op")=>`(tactic| first | with_reducible assumption | with_reducible exact gD _ _ | with_reducible exact Dc _ _ | with_reducible exact Jp _ _ | with_reducible exact tH _ _ | with_reducible exact Ac _ _ | with_reducible exact Jm _ _ | with_reducible exact dGe_int _ _ | with_reducible exact dLe_int _ _ | with_reducible exact mY _ | with_reducible exact Ai _ | with_reducible exact dInD_T _ _ _ | with_reducible exact Mt _ _ | with_reducible exact dMax2_int _ _ | with_reducible exact dIntB_bl _ | with_reducible exact Ah _ | with_reducible exact vM _ | with_reducible exact vN _ | with_reducible exact vO _ | ((with_reducible apply Gh);omega) | with_reducible exact pX _ | with_reducible exact dLen_tup _ | ((with_reducible apply jK);walk_at "sc") | ((with_reducible apply Ms);(walk_at "sc");walk_at "sc") | ((with_reducible apply lU);walk_at "sc") | ((with_reducible apply lR);(walk_at "sc");walk_at "sc") | ((with_reducible apply pW);exact⟨by decide,by decide,by omega⟩) | ((with_reducible apply lV);(walk_at "sc");walk_at "sc"))
theorem Mz(ns:List Int)(k:Nat):kJ [aN ns,.int k]=some (.int (ns.getD k 0)):=by
 refine lQ rfl ?_
 unfold vR
 by_cases c:k<ns.length
 ·apply JX
  ·walk_at "et"
  ·exact decide_eq_true (by omega)
  have hx:=lV (ns:=ns) (i:=k) (by omega) (by omega)
  rw[D2]at hx
  apply SX
  ·walk_at "ev"
  ·rfl
 ·apply JW
  ·walk_at "et"
  ·exact decide_eq_false (by omega)
  apply SQ
  rw[D6,D8 (by omega)]
  exact mW rfl
theorem Tp(c:Int){k:Nat}(hk:k≤60):∃ms,jM [.int c,.int k]=some (dTup ms)∧(∀m∈ms,0≤m∧m<k)∧ms.Pairwise (·<·)∧ms.length≤4:=by
 suffices h:∃d,jM [.int c,.int k]=some d∧∃ms,d=dTup ms∧(∀m∈ms,0≤m∧m<k)∧ms.Pairwise (·<·)∧ms.length≤4 by
  obtain⟨d,h1,ms,rfl,h2⟩:=h
  exact⟨ms,h1,h2⟩
 refine iY rfl ?_
 unfold yH
 walk_at "q"
 walk_at "q"
 have b0:=G1 ((c+11)*1103515245) (show (2147483647:Int)≠0 by decide)
 have b1:=F9 ((c+11)*1103515245) (show (0:Int)<2147483647 by decide)
 generalize (c+11)*1103515245%2147483647=base at *
 refine Js (xs:=[.int 48271,.int 69621,.int 16807,.int 40014]) (λn env=>∃(w:List Int)(v4 v5 v6:SD),env=[.fro (.int c),.fro (.int k),.own (aN w),.own (.int base),v4,v5,v6]∧w.length≤n∧∀m∈w,0≤m∧m<k) rfl rfl ⟨[],_,_,_,rfl,B6 _,λm hm=>absurd hm (by simp)⟩ ?_ ?_
 ·rintro j x env hx ⟨w,v4,v5,v6,rfl,hw,hm⟩
  refine⟨by walk_at "lt", ?_⟩
  have hj:j<4:=(B9.mp hx).1
  obtain⟨y,rfl,y0,y1⟩:∃y:Int,x=.int y∧0≤y∧y<100000:=by
   match j,hx with
   | 0,hx=>cases hx;exact⟨_,rfl,by decide,by decide⟩
   | 1,hx=>cases hx;exact⟨_,rfl,by decide,by decide⟩
   | 2,hx=>cases hx;exact⟨_,rfl,by decide,by decide⟩
   | 3,hx=>cases hx;exact⟨_,rfl,by decide,by decide⟩
  walk_at "q"
  have n0:=G1 (base*y) (show (2147483647:Int)≠0 by decide)
  have n1:=F9 (base*y) (show (0:Int)<2147483647 by decide)
  generalize base*y%2147483647=number at *
  apply Su
  ·walk_at "et"
  ·intro hb
   rw[D5,decide_eq_true_iff,decide_eq_true_iff]at hb
   have kp:0<k:=by omega
   walk_at "q"
   have hnear:∃nr:Int,0<nr∧nr≤k∧qK (fB (f2 GR (f2 cW (f2 kY (aC 5) (fC (.int 2))) (fC (.int 3))) (fC (.int 0)))) (cI 6 (fL By (aD (aC 1) (aD (fC (.int 4)) aQ)))) dU [.fro (.int c),.fro (.int k),.own (aN w),.own (.int base),.fro (.int y),.own (.int number),.own (.int k)]=.next [.fro (.int c),.fro (.int k),.own (aN w),.own (.int base),.fro (.int y),.own (.int number),.own (.int nr)]:=by
    by_cases q:number/2%3 > 0
    ·refine⟨if 4<(k:Int)then 4 else k,by split<;>omega,by split<;>omega,?_⟩
     have e:fB (f2 GR (f2 cW (f2 kY (aC 5) (fC (.int 2))) (fC (.int 3))) (fC (.int 0))) (rE [.fro (.int c),.fro (.int k),.own (aN w),.own (.int base),.fro (.int y),.own (.int number),.own (.int k)])=some (decide (0<number/2%3)):=by walk_at "et"
     rw[decide_eq_true q]at e
     rw[lO e]
     apply Ab
     ·walk_at "ev"
     ·walk_at "lt"
    ·refine⟨k,by omega,U9 _,?_⟩
     have e:fB (f2 GR (f2 cW (f2 kY (aC 5) (fC (.int 2))) (fC (.int 3))) (fC (.int 0))) (rE [.fro (.int c),.fro (.int k),.own (aN w),.own (.int base),.fro (.int y),.own (.int number),.own (.int k)])=some (decide (0<number/2%3)):=by walk_at "et"
     rw[decide_eq_false q]at e
     rw[jH e]
     rfl
   obtain⟨nr,r0,r1,hq⟩:=hnear
   refine Xn hq ?_
   have m0:=G1 (number/6) (show nr≠0 by omega)
   have m1:=F9 (number/6) r0
   refine Ga (ds:=w.map D.int) (d:=.int ((k:Int)-1-number/6%nr)) rfl (by walk_at "ev") (by rw[A9];omega) ?_
   rw[Fz]
   refine⟨_,rfl,w++[(k:Int)-1-number/6%nr],_,_,_,rfl,by rw[D4];simp;omega,λm hm'=>?_⟩
   rcases E7.mp hm' with z | z
   ·exact hm m z
   ·rw[C8.mp z]
    omega
  ·intro _
   apply Jr
   exact⟨_,rfl,w,_,_,_,rfl,by omega,hm⟩
 ·rintro env ⟨w,v4,v5,v6,rfl,hw,hm⟩
  have hw:w.length≤4:=hw
  refine rG (jJ (aB (Sw rfl (Ge (by omega))) rfl) (Dg _)) ⟨_,rfl,Lw w,rfl,λm q=>hm m ((Aa m w).mp q),Fo w,?_⟩
  have:=Je w
  omega
theorem Dq{c:Int}(hb:Small c):∃ts,dH [.int c]=some (dTup ts)∧ts.length≤3:=by
 suffices h:∃d,dH [.int c]=some d∧∃ts,d=dTup ts∧ts.length≤3 by
  obtain⟨d,h1,ts,rfl,h2⟩:=h
  exact⟨ts,h1,h2⟩
 refine iY rfl ?_
 unfold yG
 have hb':Builtin.Int.intBits c≤4000000:=C7 hb (by decide)
 have hp:(10:Int) ^ (58:Int).toNat=10 ^ 58:=rfl
 have ur:Bu (.int 10) (.int 58)=some (.int (10 ^ 58)):=pW ⟨by decide,by decide,by decide⟩
 have uv:Bu (.int 10) (.int 57)=some (.int (10 ^ 57)):=pW ⟨by decide,by decide,by decide⟩
 walk_at "q"
 generalize c*16807%2147483647%1009=a1
 generalize c%10 ^ 58-10 ^ 57=a2
 generalize c*c%10 ^ 58=a3
 refine rG (d:=dTup (eU [a1,a2,a3] none (some (c*69621%2147483647%4)))) (Mr (ts:=[a1,a2,a3]) rfl rfl (dG ?_)) ⟨_,rfl,_,rfl,?_⟩
 ·walk_at "ev"
 ·unfold eU
  rw[G0,J8]
  show min _ (3-_)≤3
  omega
theorem Gs{cells:List Int}{P Q:Int}(hl:cells.length≤60)(hs:∀c∈cells,Small c)(hP:0<P)(hQ:0<Q)(uw:Q<1000):∃cs,fP [aN cells,.int P,.int Q]=some (cM cs)∧cs.length=cells.length∧Good cs∧∀k,k<cs.length→0≤(at_ cs k).nQ∧(at_ cs k).nQ<P∧0≤(at_ cs k).place∧(at_ cs k).place<Q∧(at_ cs k).thing.length≤3:=by
 suffices h:∃d,fP [aN cells,.int P,.int Q]=some d∧∃cs,d=cM cs∧cs.length=cells.length∧(∀k,k<cs.length→(∀m∈(at_ cs k).needs,0≤m∧m<k)∧(at_ cs k).needs.Pairwise (·<·)∧(at_ cs k).needs.length≤4)∧∀k,k<cs.length→0≤(at_ cs k).nQ∧(at_ cs k).nQ<P∧0≤(at_ cs k).place∧(at_ cs k).place<Q∧(at_ cs k).thing.length≤3 by
  obtain⟨d,h1,cs,rfl,h2,h3,h4⟩:=h
  exact⟨cs,h1,h2,⟨by omega,λk hk=>⟨(h3 k hk).1,(h3 k hk).2.1,C7 (h3 k hk).2.2 (by decide)⟩⟩,h4⟩
 refine iY rfl ?_
 unfold sE
 walk_at "q"
 refine Af (n:=cells.length) (λn env=>∃(cs:List iJ)(v4 v5 v6:SD),env=[.fro (aN cells),.fro (.int P),.fro (.int Q),.own (cM cs),v4,v5,v6]∧cs.length=n∧(∀k,k<cs.length→(∀m∈(at_ cs k).needs,0≤m∧m<k)∧(at_ cs k).needs.Pairwise (·<·)∧(at_ cs k).needs.length≤4)∧∀k,k<cs.length→0≤(at_ cs k).nQ∧(at_ cs k).nQ<P∧0≤(at_ cs k).place∧(at_ cs k).place<Q∧(at_ cs k).thing.length≤3) (pZ (aB (jJ (aB rfl rfl) (mY _)) rfl) (by omega)) ⟨[],_,_,_,rfl,rfl,λk h=>absurd h (by simp),λk h=>absurd h (by simp)⟩ ?_ ?_
 ·rintro k env hk ⟨cs,v4,v5,v6,rfl,hn,h1,h2⟩
  refine⟨by walk_at "lt", ?_⟩
  have hx:=lV (ns:=cells) (i:=k) (by omega) (by omega)
  rw[D2]at hx
  obtain⟨ts,ht,htl⟩:=Dq (hs (cells.getD k 0) (E5 (Df (d:=0) hk)))
  obtain⟨ms,hms,m1,m2,m3⟩:=Tp (cells.getD k 0) (k:=k) (by omega)
  generalize cells.getD k 0=c at *
  walk_at "q"
  walk_at "q"
  have n0:=G1 ((c+7)*39373) (show (2147483647:Int)≠0 by decide)
  generalize (c+7)*39373%2147483647=number at *
  have p0:=G1 number (show P≠0 by omega)
  have p1:=F9 number hP
  have q0:=G1 (number/8) (show Q≠0 by omega)
  have q1:=F9 (number/8) hQ
  refine Ga (ds:=cs.map wC) (d:=wC ⟨number%P,number/8%Q,ts,ms⟩) rfl (Jq (aB (by walk_at "ev") (aB (by walk_at "ev") (aB (kE rfl (gY ts)) (aB (bQ (aB (aX rfl rfl hx) (aB rfl rfl)) rfl hms) rfl)))) (by exact Nat.le_of_ble_eq_true rfl)) (by rw[A9];omega) ?_
  rw[Mu]
  refine⟨_,rfl,cs++[⟨number%P,number/8%Q,ts,ms⟩],_,_,_,rfl,by rw[D4,hn];rfl,λj hj=>?_,λj hj=>?_⟩
  ·rw[D4]at hj
   rcases G7 j cs.length with z | z
   ·rw[vP z]
    exact h1 j z
   ·have e:j=cs.length:=by simp at hj;omega
    rw[e,Jt,hn]
    exact⟨m1,m2,m3⟩
  ·rw[D4]at hj
   rcases G7 j cs.length with z | z
   ·rw[vP z]
    exact h2 j z
   ·have e:j=cs.length:=by simp at hj;omega
    rw[e,Jt]
    exact⟨p0,p1,q0,q1,htl⟩
 ·rintro env ⟨cs,v4,v5,v6,rfl,hn,h1,h2⟩
  exact Ae rfl ⟨_,rfl,cs,rfl,hn,h1,h2⟩
def bZ(p:List (List Int)):D:=.lst (p.map dTup)
def aO(ps:List (List (List Int))):D:=.lst (ps.map bZ)
theorem Tq{s:L2.Step}{d x:D}{j:Nat}(h1:sW s d=some j)(h2:(kids d)[j]?=some x):nP [s] d=some x:=by unfold nP;rw[h1,B4,h2];rfl
theorem Tr{s:L2.Step}{d x y:D}{j:Nat}(h1:sW s d=some j)(h2:(kids d)[j]?=some y):jF [s] d x=pO d ((kids d).set j x):=by
 show (match sW s d with | some j=>_ | none=>_)=_
 rw[h1]
 show (match (kids d)[j]? with | some c=>_ | none=>_)=_
 rw[h2]
 rfl
theorem Tt{x:D}{xs:List D}{k:Nat}(h:xs[k]?=some x):nP [.ix k] (.lst xs)=some x:=Tq (s:=.ix k) (d:=.lst xs) (j:=k) rfl h
theorem Tu{x:D}{xs:List D}{k:Nat}{y:D}(h:xs[k]?=some y):jF [.ix k] (.lst xs) x=.lst (xs.set k x):=Tr (s:=.ix k) (d:=.lst xs) (j:=k) rfl h
theorem Gu{π:FP}{g:FE}{e:DE}{p:List L2.Step}{k:Int}(h1:π e=some p)(h2:g e=some (.int k))(h3:0≤k):Ux π g e=some (p++[.ix k.toNat]):=by
 unfold Ux
 rw[h1,B4,h2,B4]
 dsimp only
 rw[if_pos h3]
theorem KY{α β:Type} [DecidableEq α] {ks:List α} {ds:List β} {k k':α} {d:β} {j:Nat} (h:posK ks k'=some j) (hl:ks.length=ds.length):(P7 (λa b=>if a=k then d else b) ks ds)[j]?=if k'=k then some d else ds[j]?:=by
 obtain⟨h1,h2⟩:=zQ h
 rw[List.getElem?_zipWith,h2,B5 (by omega)]
 show some (if k'=k then d else ds[j])=_
 split<;>rfl
theorem Jx{α β:Type} [DecidableEq α] {k k':α} {d:β}:∀{ks:List α} {ds:List β},ks.length=ds.length→((posK (gP ks k) k').bind λj=>(putD ks ds k d)[j]?)=if k'=k then some d else(posK ks k').bind λj=>ds[j]?
 | [],ds,h=>by
  cases ds with
  | cons=>simp at h
  | nil=>
   show ((posK [k] k').bind λj=>[d][j]?)=_
   unfold posK
   by_cases c:k=k'
   ·rw[if_pos c,if_pos c.symm];rfl
   ·rw[if_neg c,if_neg λz=>c z.symm];rfl
 | a::ks,[],h=>by simp at h
 | a::ks,x::ds,h=>by
  have h':ks.length=ds.length:=by simpa using h
  by_cases c:a=k
  ·have e0:posK (a::ks) k=some 0:=by unfold posK;rw[if_pos c]
   unfold gP putD
   rw[e0]
   simp only[O6,if_true]
   cases q:posK (a::ks) k' with
   | none=>
    have:k'≠k:=λz=>by rw[z,e0]at q;cases q
    rw[if_neg this]
    rfl
   | some j=>
    rw[B4,KY q h]
    rfl
  ·have e1:gP (a::ks) k=a::gP ks k:=by
    have e0:posK (a::ks) k=(posK ks k).map (·+1):=by
     show (if a=k then some 0 else(posK ks k).map (·+1))=_
     rw[if_neg c]
    unfold gP
    rw[e0]
    cases posK ks k<;>rfl
   have e2:putD (a::ks) (x::ds) k d=x::putD ks ds k d:=by
    have e0:posK (a::ks) k=(posK ks k).map (·+1):=by
     show (if a=k then some 0 else(posK ks k).map (·+1))=_
     rw[if_neg c]
    unfold putD
    rw[e0]
    cases posK ks k with
    | none=>rfl
    | some j=>
     show (if a=k then d else x)::_=_
     rw[if_neg c]
     rfl
   rw[e1,e2]
   have ih:=Jx (k:=k) (k':=k') (d:=d) h'
   show ((if a=k' then some 0 else(posK (gP ks k) k').map (·+1)).bind _)=if k'=k then some d else((if a=k' then some 0 else(posK ks k').map (·+1)).bind _)
   by_cases c2:a=k'
   ·rw[if_pos c2,if_pos c2,if_neg (by rw[←c2];exact c)]
    rfl
   ·rw[if_neg c2,if_neg c2]
    have m:∀{γ:Type}(o:Option Nat)(y:γ)(l:List γ),((o.map (·+1)).bind λj=>(y::l)[j]?)=o.bind λj=>l[j]?:=λo y l=>by cases o<;>rfl
    rw[m,m,ih]
theorem Nb{l:List Int}{c:Int}(hl:l.length≤60)(hc:0≤c):∃l',iB [aN l,.int c]=some (aN l')∧(∀x,x∈l'↔x∈l)∧l'.length≤l.length+2:=by
 suffices h:∃d,iB [aN l,.int c]=some d∧∃l',d=aN l'∧(∀x,x∈l'↔x∈l)∧l'.length≤l.length+2 by
  obtain⟨d,h1,l',rfl,h2⟩:=h
  exact⟨l',h1,h2⟩
 refine iY rfl ?_
 unfold vQ
 have cp:(0:Int)<(l.length:Int)+1:=by omega
 walk_at "q"
 have m0:=G1 c (show (l.length:Int)+1≠0 by omega)
 have m1:=F9 c cp
 obtain⟨cut,ec⟩:∃cut:Nat,c%((l.length:Int)+1)=cut:=⟨(c%((l.length:Int)+1)).toNat,by omega⟩
 rw[ec]at m1 ⊢
 refine gZ (d:=aN (l.drop cut++l.take cut)) (aX ((qC rfl (dG rfl) rfl).trans (by rw[Gg (by omega)])) ((qC rfl rfl (dG rfl)).trans (by rw[Sx])) (vK _ _ (by rw[J8,G0];omega))) (by exact Nat.le_of_ble_eq_true rfl) ?_
 have ht:∃t:List Int,(∀x,x∈t↔x∈l)∧t.length=l.length∧qK (fB (f2 Ik (f2 cW (f2 kY (aC 1) (fC (.int 64))) (fC (.int 2))) (fC (.int 1)))) (cI 3 (JL Cp (aC 3))) dU [.fro (aN l),.fro (.int c),.own (.int cut),.own (aN (l.drop cut++l.take cut))]=.next [.fro (aN l),.fro (.int c),.own (.int cut),.own (aN t)]:=by
  have mm:∀x,x∈l.drop cut++l.take cut↔x∈l:=λx=>by
   rw[E7,Or.comm,←E7,List.take_append_drop]
  have ml:(l.drop cut++l.take cut).length=l.length:=by
   rw[D4,J8,G0]
   omega
  have e:fB (f2 Ik (f2 cW (f2 kY (aC 1) (fC (.int 64))) (fC (.int 2))) (fC (.int 1))) (rE [.fro (aN l),.fro (.int c),.own (.int cut),.own (aN (l.drop cut++l.take cut))])=some (decide (c/64%2=1)):=by walk_at "et"
  by_cases q:c/64%2=1
  ·rw[decide_eq_true q]at e
   refine⟨(l.drop cut++l.take cut).reverse,λx=>by rw[List.mem_reverse];exact mm x,by rw[T2];exact ml,?_⟩
   rw[lO e]
   exact Ab (Sw rfl (Gf _)) (by exact Nat.le_of_ble_eq_true rfl)
  ·rw[decide_eq_false q]at e
   refine⟨_,mm,ml,?_⟩
   rw[jH e]
   rfl
 obtain⟨t,t1,t2,hq⟩:=ht
 refine Xn hq ?_
 have r0:=G1 (c/128) (show (3:Int)≠0 by decide)
 have r1:=F9 (c/128) (show (0:Int)<3 by decide)
 obtain⟨n,en⟩:∃n:Nat,c/128%3=n:=⟨(c/128%3).toNat,by omega⟩
 rw[en]at r1
 have hn:f2 cW (f2 kY (aC 1) (fC (.int 128))) (fC (.int 3)) (rE [.fro (aN l),.fro (.int c),.own (.int cut),.own (aN t)])=some (.int n):=by
  rw[←en]
  walk_at "ev"
 refine rG (aX rfl ((qC rfl rfl (dG hn)).trans (by rw[Sx])) (vK _ _ (by rw[G0];omega))) ⟨_,rfl,t++t.take n,rfl,λx=>?_,?_⟩
 ·rw[E7]
  exact⟨λz=>z.elim (t1 x).mp λz=>(t1 x).mp (S6 z),λz=>.inl ((t1 x).mpr z)⟩
 ·rw[D4,G0]
  omega
theorem Tv{α:Type} [DecidableEq α] {ks:List α} {k x:α}:x∈gP ks k↔x∈ks∨x=k:=by
 unfold gP
 split
 ·rename_i h
  have:k∈ks:=Decidable.byContradiction λc=>by rw[xM.mpr c]at h;cases h
  exact⟨.inl,λz=>z.elim id λe=>by rw[e];exact this⟩
 ·rw[E7,C8]
theorem Tz{ds:List D}{xs:List DV}(h:bM ds=some xs)(hd:(DV.lst xs).depth≤32):Ik (.lst ds) (.lst ds)=some (.bl true):=by
 have e:bJ (.lst ds)=some (.lst xs):=by unfold bJ;rw[h];rfl
 unfold Ik toV
 dsimp only
 rw[e]
 dsimp only
 rw[if_pos hd,fJ]
def sG(p:List (List Int)):DV:=.lst (p.map λt=>.tup (t.map DV.int))
theorem vZ:∀p:List (List Int),bM (p.map dTup)=some (p.map λt=>.tup (t.map DV.int))
 | []=>by rw[E9];unfold bM;rfl
 | t::p=>by rw[C5];unfold bM;rw[qD,B4,vZ p];rfl
theorem mD:∀ps:List (List (List Int)),bM (ps.map bZ)=some (ps.map sG)
 | []=>by rw[E9];unfold bM;rfl
 | p::ps=>by
  have e:bJ (bZ p)=some (sG p):=by unfold bZ bJ;rw[vZ];rfl
  rw[C5];unfold bM;rw[e,B4,mD ps];rfl
theorem wA:∀p:List (List Int),aV (p.map λt=>DV.tup (t.map DV.int))≤1
 | []=>by rw[E9];unfold aV;decide
 | t::p=>by
  rw[C5]
  unfold aV
  have:=wA p
  have e:(DV.tup (t.map DV.int)).depth=1:=by unfold DV.depth;rw[eN]
  omega
theorem mF:∀ps:List (List (List Int)),aV (ps.map sG)≤2
 | []=>by rw[E9];unfold aV;decide
 | p::ps=>by
  rw[C5]
  unfold aV
  have:=mF ps
  have:=wA p
  have e:(sG p).depth=aV (p.map λt=>DV.tup (t.map DV.int))+1:=by unfold sG DV.depth;rfl
  omega
theorem rQ(ps:List (List (List Int))):Ik (aO ps) (aO ps)=some (.bl true):=Tz (mD ps) (by unfold DV.depth;have:=mF ps;omega)
def aL(P Q:Nat)(f:Nat→Nat→List Int):List (List (List Int)):=(D3 P).map λp=>(D3 Q).map (f p)
def An(f:Nat→Nat→List Int)(p q:Nat)(t:List Int):Nat→Nat→List Int:=λp' q'=>if p'=p∧q'=q then t else f p' q'
theorem Dr{P Q p:Nat}{f:Nat→Nat→List Int}(hp:p<P):(aL P Q f)[p]?=some ((D3 Q).map (f p)):=by
 unfold aL
 rw[C3,L0 hp]
 rfl
theorem Xu{Q q:Nat}{g:Nat→List Int}{t:List Int}(hq:q<Q):((D3 Q).map g).set q t=(D3 Q).map λq'=>if q'=q then t else g q':=by
 apply K3
 intro i
 rw[P1,A9,G3,C3,C3]
 by_cases c:q=i
 ·subst c
  rw[if_pos rfl,if_pos hq,L0 hq]
  simp
 ·rw[if_neg c]
  rcases G7 i Q with z | z
  ·rw[L0 z]
   simp[Ne.symm c]
  ·rw[D8 (by rw[G3];exact z)]
   rfl
theorem Ua{P Q p q:Nat}{f:Nat→Nat→List Int}{t:List Int}(hp:p<P)(hq:q<Q):(aL P Q f).set p (((D3 Q).map (f p)).set q t)=aL P Q (An f p q t):=by
 rw[Xu hq]
 unfold aL
 apply K3
 intro i
 rw[P1,A9,G3,C3,C3]
 by_cases c:p=i
 ·subst c
  rw[if_pos rfl,if_pos hp,L0 hp]
  show some _=some _
  congr 1
  refine O3 λq' _=>?_
  unfold An
  by_cases z:q'=q
  ·rw[if_pos z,if_pos ⟨rfl,z⟩]
  ·rw[if_neg z,if_neg (λw=>z w.2)]
 ·rw[if_neg c]
  rcases G7 i P with z | z
  ·rw[L0 z]
   show some _=some _
   congr 1
   refine O3 λq' _=>?_
   unfold An
   rw[if_neg (λw=>c w.1.symm)]
  ·rw[D8 (by rw[G3];exact z)]
   rfl
theorem Ds{P Q p q i:Nat}{f:Nat→Nat→List Int}{π:FP}{g fv:FE}{env:EN}{t:List Int}(h1:env[i]?=some (.own (aO (aL P Q f))))(h2:π (rE env)=some [.ix p])(h3:g (rE env)=some (.int (q:Int)))(h4:fv (rE env)=some (dTup t))(hp:p<P)(hq:q<Q):nW i π g fv env=.next (env.set i (.own (aO (aL P Q (An f p q t))))):=by
 have hg:((aL P Q f).map bZ)[p]?=some (bZ ((D3 Q).map (f p))):=by rw[C3,Dr hp];rfl
 refine(Xp (p:=[.ix p]) (d0:=aO (aL P Q f)) (k:=(q:Int)) (ds:=((D3 Q).map (f p)).map dTup) (d:=dTup t) h1 h2 (Tt hg) h3 h4 (by omega) (by rw[A9,A9,G3];omega)).trans ?_
 have e:jF [L2.Step.ix p] (aO (aL P Q f)) (.lst ((((D3 Q).map (f p)).map dTup).set (q:Int).toNat (dTup t)))=aO (aL P Q (An f p q t)):=by
  refine(Tu hg).trans ?_
  rw[D2,←List.map_set]
  show D.lst (((aL P Q f).map bZ).set p (bZ (((D3 Q).map (f p)).set q t)))=_
  rw[←List.map_set,Ua hp hq]
  rfl
 rw[e]
theorem Ao{fi:FA}{fr:List Nat}{e:DE}{s:List (List (List Int))}(h1:fi e=some (s.map bZ))(hs:s.length≤1000):cX fi fr lM (fL dList (aD (aC 0) aQ)) e=some (aO s):=by
 unfold aO
 exact yE (φ:=bZ) h1 hs λp hp=>by
  unfold bZ
  exact jJ (aB rfl rfl) (rF (De λd hd=>by obtain⟨t,_,rfl⟩:=G6.mp hd;exact gY t))
theorem mG(P Q:Nat)(f:Nat→Nat→List Int):(aL P Q f).length=P:=by unfold aL;rw[A9,G3]
def Here(cs:List iJ)(k:Int)(p q:Nat):Prop:=(at_ cs k.toNat).nQ=(p:Int)∧(at_ cs k.toNat).place=(q:Int)
abbrev qJ:=Nat→Nat→Option Int
def IsT(cs:List iJ)(m:List Int)(T:qJ):Prop:=∀p q,match T p q with
 | none=>∀k∈m,¬Here cs k p q
 | some t=>t∈m∧Here cs t p q∧∀k∈m,Here cs k p q→k≤t
theorem IsT.one{cs:List iJ}{m m':List Int}{T T':qJ}(h:IsT cs m T)(h':IsT cs m' T')(e:∀k,k∈m↔k∈m')(p q:Nat):T p q=T' p q:=by
 have a:=h p q
 have b:=h' p q
 cases x:T p q with
 | none=>
  rw[x]at a
  cases y:T' p q with
  | none=>rfl
  | some t=>
   rw[y]at b
   exact absurd b.2.1 (a t ((e t).mpr b.1))
 | some s=>
  rw[x]at a
  cases y:T' p q with
  | none=>
   rw[y]at b
   exact absurd a.2.1 (b s ((e s).mp a.1))
  | some t=>
   rw[y]at b
   have h1:=a.2.2 t ((e t).mpr b.1) b.2.1
   have h2:=b.2.2 s ((e s).mp a.1) a.2.1
   rw[show s=t by omega]
def Dt(cs:List iJ)(T:qJ)(k t:Int):qJ:=λp q=>if(at_ cs k.toNat).nQ=(p:Int)∧(at_ cs k.toNat).place=(q:Int)then some t else T p q
theorem IsT.snoc{cs:List iJ}{m:List Int}{T:qJ}{k t:Int}(h:IsT cs m T)(ht:∀p q,Here cs k p q→t=match T p q with | none=>k | some s=>if s > k then s else k):IsT cs (m++[k]) (Dt cs T k t):=by
 intro p q
 have a:=h p q
 unfold Dt
 by_cases c:(at_ cs k.toNat).nQ=(p:Int)∧(at_ cs k.toNat).place=(q:Int)
 ·rw[if_pos c]
  have e:=ht p q c
  dsimp only
  cases x:T p q with
  | none=>
   rw[x]at a e
   subst e
   refine⟨C9 _ (C8.mpr rfl),c,λk' hk' hh=>?_⟩
   rcases E7.mp hk' with z | z
   ·exact absurd hh (a k' z)
   ·rw[C8.mp z];exact U9 _
  | some s=>
   rw[x]at a e
   dsimp only at a e
   by_cases g:s > k
   ·rw[if_pos g]at e
    subst e
    refine⟨K4 _ a.1,a.2.1,λk' hk' hh=>?_⟩
    rcases E7.mp hk' with z | z
    ·exact a.2.2 k' z hh
    ·rw[C8.mp z];omega
   ·rw[if_neg g]at e
    subst e
    refine⟨C9 _ (C8.mpr rfl),c,λk' hk' hh=>?_⟩
    rcases E7.mp hk' with z | z
    ·have:=a.2.2 k' z hh;omega
    ·rw[C8.mp z];exact U9 _
 ·rw[if_neg c]
  cases x:T p q with
  | none=>
   rw[x]at a
   intro k' hk' hh
   rcases E7.mp hk' with z | z
   ·exact a k' z hh
   ·rw[C8.mp z]at hh;exact c hh
  | some s=>
   rw[x]at a
   refine⟨K4 _ a.1,a.2.1,λk' hk' hh=>?_⟩
   rcases E7.mp hk' with z | z
   ·exact a.2.2 k' z hh
   ·rw[C8.mp z]at hh;exact absurd hh c
def jA(cs:List iJ)(f:Nat→Nat→List Int)(T:qJ):Nat→Nat→List Int:=λp q=>match T p q with
 | some k=>(at_ cs k.toNat).thing
 | none=>f p q
theorem Ub{cs:List iJ}{f:Nat→Nat→List Int}{T:qJ}{k:Int}{p q:Nat}(h:Here cs k p q):An (jA cs f T) p q (at_ cs k.toNat).thing=jA cs f (Dt cs T k k):=by
 unfold Here at h
 funext p' q'
 unfold An jA Dt
 by_cases c:p'=p∧q'=q
 ·rw[if_pos c,c.1,c.2,if_pos h]
 ·rw[if_neg c,if_neg (λz=>c ⟨by have:=z.1;rw[h.1]at this;omega,by have:=z.2;rw[h.2]at this;omega⟩)]
theorem Nf{cs:List iJ}{f:Nat→Nat→List Int}{T:qJ}{t:Int}{p q:Nat}:An (jA cs f T) p q (at_ cs t.toNat).thing=jA cs f (λp' q'=>if p'=p∧q'=q then some t else T p' q'):=by
 funext p' q'
 unfold An jA
 dsimp only
 by_cases c:p'=p∧q'=q
 ·rw[if_pos c,if_pos c]
 ·rw[if_neg c,if_neg c]
theorem Zf{Pr:SR→Prop}{g1:GS}{env env':EN}(h:g1 env=.next env')(k:Pr (.next env')):Qs Pr (g1 env):=by
 unfold Qs
 rw[h]
 exact k
def Uc(cs:List iJ)(P Q:Nat):Prop:=∀k,k<cs.length→∃p q:Nat,p<P∧q<Q∧(at_ cs k).nQ=(p:Int)∧(at_ cs k).place=(q:Int)
theorem Jy{cs:List iJ}{k:Int}(h0:0≤k)(h1:k<(cs.length:Int)):dM (cM cs) (.int k)=some (wC (at_ cs k.toNat)):=by
 have:=Gh (cs:=cs) (k:=k.toNat) (by omega)
 rw[show ((k.toNat:Nat):Int)=k by omega]at this
 exact this
theorem Xv{cs:List iJ}{l:List Int}{P Q:Nat}{f:Nat→Nat→List Int}(hP:P≤8)(hl:l.length<64)(hb:∀k∈l,0≤k∧k<(cs.length:Int))(hc:Uc cs P Q):∃T,IsT cs (sortI l) T∧yI [aO (aL P Q f),cM cs,aN l]=some (aO (aL P Q (jA cs f T))):=by
 suffices hh:∃d,yI [aO (aL P Q f),cM cs,aN l]=some d∧∃T,IsT cs (sortI l) T∧d=aO (aL P Q (jA cs f T)) by
  obtain⟨d,h1,T,h2,rfl⟩:=hh
  exact⟨T,h2,h1⟩
 have hrs:=gA l
 refine iY rfl ?_
 unfold Ze
 refine gZ (Ao (s:=aL P Q f) (fO rfl) (by rw[mG];omega)) (by exact Nat.le_of_ble_eq_true rfl) ?_
 refine Js (xs:=(sortI l).map D.int) (λn env=>∃(T:qJ)(v4 v5:SD),env=[.fro (aO (aL P Q f)),.fro (cM cs),.fro (aN l),.own (aO (aL P Q (jA cs f T))),v4,v5]∧IsT cs ((sortI l).take n) T) rfl (fO (jJ (aB rfl rfl) (Ag hl))) ⟨λ_ _=>none,_,_,rfl,λp q k hk=>by cases hk⟩ ?_ ?_
 ·rintro n x env hx ⟨T,v4,v5,rfl,hT⟩
  refine⟨by walk_at "lt", ?_⟩
  rw[C3]at hx
  obtain⟨k,hk,rfl⟩:=fH hx
  have hn:=(B9.mp hk).1
  obtain⟨k0,k1⟩:=hb k (hrs.1.mem_iff.mp (E5 hk))
  obtain⟨p,q,hp,hq,e1,e2⟩:=hc k.toNat (by omega)
  refine gZ (d:=wC (at_ cs k.toNat)) (kE (aX rfl rfl (Jy k0 k1)) (Tc _)) (by exact Nat.le_of_ble_eq_true rfl) ?_
  have hx0:=Ah (at_ cs k.toNat)
  have hx1:=vM (at_ cs k.toNat)
  rw[e1]at hx0
  rw[e2]at hx1
  have Ng:=Ds (i:=3) (π:=Ux qZ (f2 dM (aC 5) (fC (.int (0))))) (g:=f2 dM (aC 5) (fC (.int (1)))) (fv:=iT (f2 dM (aC 5) (fC (.int (2))))) (env:=[.fro (aO (aL P Q f)),.fro (cM cs),.fro (aN l),.own (aO (aL P Q (jA cs f T))),.fro (.int k),.own (wC (at_ cs k.toNat))]) (p:=p) (q:=q) (t:=(at_ cs k.toNat).thing) rfl ((Gu (p:=[]) rfl (aX rfl rfl hx0) (by omega)).trans (by rw[D2];rfl)) (aX rfl rfl hx1) (kE (aX rfl rfl (vN _)) (gY _)) hp hq
  have ht:(sortI l).take (n+1)=(sortI l).take n++[k]:=by rw[U7,hk];rfl
  have hle:∀s∈(sortI l).take n,s≤k:=λs hs=>by
   obtain⟨i,hi,e⟩:=M5 hs
   rw[G0]at hi
   rw[List.getElem_take]at e
   have:=K6.mp hrs.2 i n (by omega) hn (by omega)
   rw[e,(B9.mp hk).2]at this
   exact this
  refine Zf Ng ⟨_,rfl,Dt cs T k k,.fro (.int k),.own (wC (at_ cs k.toNat)),?_,?_⟩
  ·rw[Ub ⟨e1,e2⟩]
   rfl
  ·rw[ht]
   refine hT.snoc λp' q' _=>?_
   have a:=hT p' q'
   cases y:T p' q' with
   | none=>rfl
   | some s=>
    rw[y]at a
    have:=hle s a.1
    show k=if s > k then s else k
    rw[if_neg (by omega)]
 ·rintro env ⟨T,v4,v5,rfl,hT⟩
  rw[A9,V3]at hT
  exact Ae rfl ⟨_,rfl,T,hT,rfl⟩
abbrev ky(p q:Nat):List Key:=[.inl (p:Int),.inl (q:Int)]
theorem Gv{p q p' q':Nat}:ky p q=ky p' q'↔p=p'∧q=q':=by
 constructor
 ·intro h
  have h1:(L4 (p:Int):Key)=L4 (p':Int):=(T0 h).1
  have h2:(L4 (q:Int):Key)=L4 (q':Int):=(T0 (T0 h).2).1
  exact⟨by have:=U8 h1;omega,by have:=U8 h2;omega⟩
 ·rintro⟨rfl,rfl⟩
  rfl
theorem Aq{α:Type} [DecidableEq α] {k:α}:∀{ks:List α},(posK ks k).isSome=true↔k∈ks
 | []=>by unfold posK;simp
 | a::ks=>by
  unfold posK
  by_cases c:a=k
  ·rw[if_pos c];simp[c]
  ·rw[if_neg c,U1,Aq (ks:=ks)]
   simp[Ne.symm c]
theorem Jz{α:Type} [DecidableEq α] {k:α}:∀{ks:List α} {i:Nat},ks.Nodup→ks[i]?=some k→posK ks k=some i
 | [],i,_,h=>by simp at h
 | a::ks,0,hn,h=>by
  have h:a=k:=by simpa using h
  unfold posK
  rw[if_pos h]
 | a::ks,i+1,hn,h=>by
  have h:ks[i]?=some k:=by simpa using h
  rw[J5]at hn
  have ne:a≠k:=λz=>hn.1 (z▸E5 h)
  unfold posK
  rw[if_neg ne,Jz hn.2 h]
  rfl
theorem Gw{α:Type} [DecidableEq α] {ks:List α} {k:α} (h:ks.Nodup):(gP ks k).Nodup:=by
 unfold gP
 split
 ·exact h
 ·rename_i c
  rw[Aq]at c
  rw[U4]
  exact⟨h,J5.mpr ⟨V4,O4⟩,λa ha b hb z=>by rw[C8.mp hb]at z;exact c (z▸ha)⟩
structure KD(P Q n:Nat)(ks:List (List Key))(ds:List D)(T:qJ):Prop where
 len:ks.length=ds.length
 le:ks.length≤n
 nd:ks.Nodup
 mem:∀k∈ks,∃p q,p<P∧q<Q∧k=ky p q
 get:∀p q,((posK ks (ky p q)).bind λj=>ds[j]?)=(T p q).map D.int
theorem KD.put{P Q n p q:Nat}{ks:List (List Key)}{ds:List D}{T:qJ}{cs:List iJ}{k t:Int}(h:KD P Q n ks ds T)(hp:p<P)(hq:q<Q)(e1:(at_ cs k.toNat).nQ=(p:Int))(e2:(at_ cs k.toNat).place=(q:Int)):KD P Q (n+1) (gP ks (ky p q)) (putD ks ds (ky p q) (.int t)) (Dt cs T k t):=by
  refine⟨uR h.len,?_,Gw h.nd,λx hx=>?_,λp' q'=>?_⟩
  · have:=h.le
    unfold gP
    split
    · omega
    · rw[D4,N7];omega
  · rcases Tv.mp hx with z | z
    · exact h.mem x z
    · exact⟨p,q,hp,hq,z⟩
  · rw[Jx h.len]
    unfold Dt
    by_cases c:p'=p∧q'=q
    · rw[if_pos (Gv.mpr c),if_pos ⟨by rw[e1,c.1],by rw[e2,c.2]⟩]
      rfl
    · rw[if_neg (λz=>c (Gv.mp z)),if_neg (λz=>c ⟨by have:=z.1;rw[e1]at this;omega,by have:=z.2;rw[e2]at this;omega⟩)]
      exact h.get p' q'
def KZ(o:Option Int)(k:Int):Int:=match o with
 | none=>k
 | some s=>if s > k then s else k
theorem Xw{t h p q:Nat}{fs:FA}{fx:FE}{env:EN}{ks:List (List Key)}{ds:List D}{k:Int}{o:Option Int}(h1:env[t]?=some (.own (.dt ks ds)))(h2:fs (rE env)=some [.int (p:Int),.int (q:Int)])(h3:fx (rE env)=some (.int k))(hh:h<env.length)(hth:t≠h)(hl:ks.length<100000)(hg:((posK ks (ky p q)).bind λj=>ds[j]?)=o.map D.int)(hk:0≤k) :
  Mj t h fs fx env=.next ((env.set h (.fro (.tup [.int (p:Int),.int (q:Int)]))).set t (.own (.dt (gP ks (ky p q)) (putD ks ds (ky p q) (.int (KZ o k)))))):=by
 unfold Mj
 rw[h1,h2,h3]
 dsimp only
 rw[show pR [D.int (p:Int),D.int (q:Int)]=some (ky p q)from rfl]
 dsimp only
 rw[if_pos ⟨by show 2≤100;decide,hh,hth,hl⟩,hg]
 cases o with
 | none=>
  unfold KZ
  show SR.next ((env.set h _).set t (.own (.dt _ (putD ks ds (ky p q) (.int (if 0 > k then 0 else k))))))=_
  rw[if_neg (by omega)]
 | some s=>rfl
noncomputable abbrev yL:Int→GS:=λtop=>nW 6 (Ux qZ (f2 dM (aC 5) (fC (.int 0)))) (f2 dM (aC 5) (fC (.int 1))) (iT (f2 dM (f2 dM (aC 1) (fC (.int top))) (fC (.int 2))))
theorem Ka{P Q:Nat}{cs:List iJ}{f:Nat→Nat→List Int}{T:qJ}{d0 d2:D}:∀(ks:List (List Key))(ds:List D)(Tw:qJ)(v4 v5:SD),ks.length=ds.length→(∀(i:Nat)(k:List Key),ks[i]?=some k→∃(p q:Nat)(t:Int),p<P∧q<Q∧k=ky p q∧ds[i]?=some (.int t)∧0≤t∧t<(cs.length:Int)∧T p q=some t) →
  ∃TQ,Cy 5 yL ks ds [.fro d0,.fro (cM cs),.fro d2,.no,v4,v5,.own (aO (aL P Q (jA cs f Tw)))]=.next [.fro d0,.fro (cM cs),.fro d2,.no,v4,.no,.own (aO (aL P Q (jA cs f TQ)))]∧∀p q,(ky p q∈ks→TQ p q=T p q)∧(ky p q∉ks→TQ p q=Tw p q)
 | [],[],Tw,v4,v5,_,_=>⟨Tw,rfl,λp q=>⟨λz=>absurd z V4,λ_=>rfl⟩⟩
 | [],d::ds,_,_,_,hl,_=>by simp at hl
 | k::ks,[],_,_,_,hl,_=>by simp at hl
 | k::ks,d::ds,Tw,v4,v5,hl,hk=>by
  obtain⟨p,q,t,hp,hq,rfl,hd,t0,t1,hT⟩:=hk 0 k rfl
  have hd:d=.int t:=by simpa using hd
  subst hd
  have Ng:=Ds (i:=6) (π:=Ux qZ (f2 dM (aC 5) (fC (.int 0)))) (g:=f2 dM (aC 5) (fC (.int 1))) (fv:=iT (f2 dM (f2 dM (aC 1) (fC (.int t))) (fC (.int 2)))) (env:=[.fro d0,.fro (cM cs),.fro d2,.no,v4,.fro (.tup [.int (p:Int),.int (q:Int)]),.own (aO (aL P Q (jA cs f Tw)))]) (p:=p) (q:=q) (t:=(at_ cs t.toNat).thing) rfl ((Gu (p:=[]) rfl (aX rfl rfl (mX (by decide) rfl)) (by omega)).trans (by rw[D2];rfl)) (aX rfl rfl (mX (by decide) rfl)) (kE (aX (aX rfl rfl (Jy t0 t1)) rfl (vN _)) (gY _)) hp hq
  rw[Nf]at Ng
  obtain⟨TQ,h1,h2⟩:=Ka ks ds (λp' q'=>if p'=p∧q'=q then some t else Tw p' q') v4 (.fro (.tup [.int (p:Int),.int (q:Int)])) (by simpa using hl) λi k' hk'=>by
   obtain⟨p',q',t',a,b,c,d,e⟩:=hk (i+1) k' (by simpa using hk')
   exact⟨p',q',t',a,b,c,by simpa using d,e⟩
  refine⟨TQ,?_,λp' q'=>?_⟩
  ·show (if 5<7 then(match yL t [.fro d0,.fro (cM cs),.fro d2,.no,v4,.fro (.tup [.int (p:Int),.int (q:Int)]),.own (aO (aL P Q (jA cs f Tw)))]with
    | .next env'=>Cy 5 yL ks ds env'
    | _=>.bad)else .bad)=_
   rw[if_pos (by decide)]
   have Ng:yL t [.fro d0,.fro (cM cs),.fro d2,.no,v4,.fro (.tup [.int (p:Int),.int (q:Int)]),.own (aO (aL P Q (jA cs f Tw)))]=_:=Ng
   rw[Ng]
   exact h1
  ·by_cases c:ky p' q'∈ks
   ·exact⟨λ_=>(h2 p' q').1 c,λz=>absurd (B7 _ c) z⟩
   ·have e:=(h2 p' q').2 c
    by_cases z:p'=p∧q'=q
    ·rw[e,if_pos z,z.1,z.2,hT]
     exact⟨λ_=>rfl,λw=>absurd (C4 ..) w⟩
    ·rw[e,if_neg z]
     exact⟨λw=>((B8.mp w).elim (λw=>z (Gv.mp w)) c).elim,λ_=>rfl⟩
theorem LC{cs:List iJ}{l:List Int}{P Q:Nat}{f:Nat→Nat→List Int}(hP:P≤8)(hl:l.length<64)(hb:∀k∈l,0≤k∧k<(cs.length:Int))(hc:Uc cs P Q):∃T,IsT cs l T∧qF [aO (aL P Q f),cM cs,aN l]=some (aO (aL P Q (jA cs f T))):=by
 suffices hh:∃d,qF [aO (aL P Q f),cM cs,aN l]=some d∧∃T,IsT cs l T∧d=aO (aL P Q (jA cs f T)) by
  obtain⟨d,h1,T,h2,rfl⟩:=hh
  exact⟨T,h2,h1⟩
 refine iY rfl ?_
 unfold Ju
 refine gZ rfl (by exact Nat.le_of_ble_eq_true rfl) ?_
 refine Js (xs:=l.map D.int) (λn env=>∃(T:qJ)(ks:List (List Key))(ds:List D)(v4 v5:SD),env=[.fro (aO (aL P Q f)),.fro (cM cs),.fro (aN l),.own (.dt ks ds),v4,v5,.no]∧IsT cs (l.take n) T∧KD P Q n ks ds T) rfl (fO rfl) ⟨λ_ _=>none,[],[],_,_,rfl,λp q k hk=>(by cases hk),⟨rfl,B6 _,O4,λk hk=>(by cases hk),λp q=>rfl⟩⟩ ?_ ?_
 ·rintro n x env hx ⟨T,ks,ds,v4,v5,rfl,hT,hK⟩
  refine⟨by walk_at "lt", ?_⟩
  rw[C3]at hx
  obtain⟨k,hk,rfl⟩:=fH hx
  have hn:=(B9.mp hk).1
  obtain⟨k0,k1⟩:=hb k (E5 hk)
  obtain⟨p,q,hp,hq,e1,e2⟩:=hc k.toNat (by omega)
  have hx0:=Ah (at_ cs k.toNat)
  have hx1:=vM (at_ cs k.toNat)
  rw[e1]at hx0
  rw[e2]at hx1
  have ht:l.take (n+1)=l.take n++[k]:=by rw[U7,hk];rfl
  have hg:=Xw (t:=3) (h:=5) (p:=p) (q:=q) (fs:=aD (f2 dM (f2 dM (aC 1) (aC 4)) (fC (.int 0))) (aD (f2 dM (f2 dM (aC 1) (aC 4)) (fC (.int 1))) aQ)) (fx:=aC 4) (env:=[.fro (aO (aL P Q f)),.fro (cM cs),.fro (aN l),.own (.dt ks ds),.fro (.int k),v5,.no]) (k:=k) (o:=T p q) rfl (aB (aX (aX rfl rfl (Jy k0 k1)) rfl hx0) (aB (aX (aX rfl rfl (Jy k0 k1)) rfl hx1) rfl)) rfl (by exact Nat.le_of_ble_eq_true rfl) (by decide) (by have:=hK.le;omega) (hK.get p q) k0
  refine Zf hg ⟨_,rfl,Dt cs T k (KZ (T p q) k),_,_,.fro (.int k),.fro (.tup [.int (p:Int),.int (q:Int)]),rfl,?_,hK.put hp hq e1 e2⟩
  rw[ht]
  refine hT.snoc λp' q' hh=>?_
  have a1:(at_ cs k.toNat).nQ=(p':Int):=hh.1
  have a2:(at_ cs k.toNat).place=(q':Int):=hh.2
  rw[show p'=p by omega,show q'=q by omega]
  rfl
 rintro env ⟨T,ks,ds,v4,v5,rfl,hT,hK⟩
 rw[A9,V3]at hT
 refine gZ (Ao (s:=aL P Q f) (fO rfl) (by rw[mG];omega)) (by exact Nat.le_of_ble_eq_true rfl) ?_
 have hlow:∀p q t,T p q=some t→0≤t∧t<(cs.length:Int):=λp q t e=>by
  have a:=hT p q
  rw[e]at a
  exact hb t a.1
 obtain⟨Tw,h1,h2⟩:=Ka (P:=P) (Q:=Q) (cs:=cs) (f:=f) (T:=T) (d0:=aO (aL P Q f)) (d2:=aN l) ks ds (λ_ _=>none) v4 v5 hK.len λi k hk=>by
  obtain⟨p,q,hp,hq,rfl⟩:=hK.mem k (E5 hk)
  have hg:=hK.get p q
  rw[Jz hK.nd hk,B4]at hg
  cases e:T p q with
  | none=>
   rw[e]at hg
   have hi:=(B9.mp hk).1
   have:=P2.mp hg
   have:=hK.len
   omega
  | some t=>
   rw[e]at hg
   exact⟨p,q,t,hp,hq,rfl,hg,(hlow p q t e).1,(hlow p q t e).2,e⟩
 have eT:Tw=T:=by
  funext p q
  by_cases c:ky p q∈ks
  ·exact(h2 p q).1 c
  ·rw[(h2 p q).2 c]
   have hg:=hK.get p q
   have hn:posK ks (ky p q)=none:=by
    cases z:posK ks (ky p q)with
    | none=>rfl
    | some j=>exact absurd (Aq.mp (by rw[z];rfl)) c
   rw[hn]at hg
   cases e:T p q with
   | none=>rfl
   | some t=>rw[e]at hg;cases hg
 rw[eT]at h1
 have hw:Cz 3 5 yL [.fro (aO (aL P Q f)),.fro (cM cs),.fro (aN l),.own (.dt ks ds),v4,v5,.own (aO (aL P Q f))]=.next [.fro (aO (aL P Q f)),.fro (cM cs),.fro (aN l),.no,v4,.no,.own (aO (aL P Q (jA cs f T)))]:=by
  show (if 5<7∧3≠5 then Cy 5 yL ks ds _ else .bad)=_
  rw[if_pos (by decide)]
  exact h1
 refine Xn hw ?_
 exact Ae rfl ⟨_,rfl,T,hT,rfl⟩
theorem Xx{c:Int}(h0:-18446744073709551616<c)(h1:c<18446744073709551616):Small c:=by
 show Builtin.Int.intBits c≤1048576
 unfold Builtin.Int.intBits
 split
 ·decide
 ·rename_i hc
  have hz:c.natAbs≠0:=λz=>hc (by rw[Int.natAbs_eq_zero.mp z];rfl)
  have:c.natAbs.log2<64:=by
   rw[Nat.log2_lt hz]
   show c.natAbs<18446744073709551616
   omega
  omega
theorem Ud{a:Int}{P Q:Nat}(a0:0≤a)(a1:a<2147483647)(hP:P≤8)(hQ:Q≤9):∃f:Nat→Nat→List Int,mZ [.int a,.int (P:Int),.int (Q:Int)]=some (aO (aL P Q f))∧∀i j,(f i j).length≤3:=by
 have hb:∀i j:Nat,i<8→j<9→Small ((a+1)*(7*(i:Int)+3)*((j:Int)+5)):=λi j hi hj=>by
  have m1:(a+1)*(7*(i:Int)+3)≤2147483647*60:=S0 (by omega) (by omega) (by omega) (by decide)
  have m0:0≤(a+1)*(7*(i:Int)+3):=S5 (by omega) (by omega)
  have m2:(a+1)*(7*(i:Int)+3)*((j:Int)+5)≤2147483647*60*14:=S0 m1 (by omega) (by omega) (by decide)
  have m3:0≤(a+1)*(7*(i:Int)+3)*((j:Int)+5):=S5 m0 (by omega)
  exact Xx (by omega) (by omega)
 have hth:∀i j:Nat,∃ts:List Int,(i<8→j<9→dH [.int ((a+1)*(7*(i:Int)+3)*((j:Int)+5))]=some (dTup ts))∧ts.length≤3:=λi j=>by
  by_cases c:i<8∧j<9
  ·obtain⟨ts,h,h2⟩:=Dq (hb i j c.1 c.2)
   exact⟨ts,λ_ _=>h,h2⟩
  ·exact⟨[],λx y=>absurd ⟨x,y⟩ c,by decide⟩
 refine⟨λi j=>(hth i j).choose,lQ rfl (mW ?_),λi j=>(hth i j).choose_spec.2⟩
 refine(vJ (n:=P) (φ:=λi=>bZ ((D3 Q).map λj=>(hth i j).choose)) (pZ (aB rfl rfl) (by omega)) (by omega) λi hi=>?_).trans ?_
 ·refine(vJ (n:=Q) (φ:=λj=>dTup (hth i j).choose) (pZ (aB rfl rfl) (by omega)) (by omega) λj hj=>?_).trans ?_
  ·have m1:(a+1)*(7*(i:Int)+3)≤2147483647*60:=S0 (by omega) (by omega) (by omega) (by decide)
   have m0:0≤(a+1)*(7*(i:Int)+3):=S5 (by omega) (by omega)
   exact bQ (aB (aX (aX (aX rfl rfl (gD _ _)) (aX (aX rfl rfl (jK (Xk (by decide) (by decide)))) rfl (gD _ _)) (jK (Xk (by omega) (by omega)))) (aX rfl rfl (gD _ _)) (jK (Xk (by omega) (by omega)))) rfl) rfl ((hth i j).choose_spec.1 (by omega) (by omega))
  ·unfold bZ
   rw[Q1]
   rfl
 ·unfold aO aL
  rw[Q1]
  rfl
theorem Xy{cells:List Int}{mode:Int}(hl:cells.length≤60):∃l,lX [aN cells,.int mode]=some (aN l)∧(∀x∈l,0≤x∧x<(cells.length:Int))∧l.length≤cells.length:=by
  suffices hh:∃d,lX [aN cells,.int mode]=some d∧∃l,d=aN l∧(∀x∈l,0≤x∧x<(cells.length:Int))∧l.length≤cells.length by
    obtain⟨d,h1,l,rfl,h2⟩:=hh
    exact⟨l,h1,h2⟩
  refine iY rfl ?_
  unfold Dh
  refine gZ (d:=aN []) (pY rfl (by decide)) (by exact Nat.le_of_ble_eq_true rfl) ?_
  refine Af (n:=cells.length) (λn env=>∃(l:List Int)(v3 v4:SD),env=[.fro (aN cells),.fro (.int mode),.own (aN l),v3,v4]∧(∀x∈l,0≤x∧x<(cells.length:Int))∧l.length≤n) (pZ (aB (jJ (aB rfl rfl) (mY _)) rfl) (by omega)) ⟨[],_,_,rfl,λx hx=>(by cases hx),B6 _⟩ ?_ ?_
  · rintro k env hk ⟨l,v3,v4,rfl,hm,hll⟩
    refine⟨by walk_at "lt", ?_⟩
    refine gZ (aX (aX (aX (aX rfl rfl (lV (by omega) (by omega))) rfl (gD _ _)) rfl (jK (.inr ⟨by decide,by decide⟩))) rfl (lU (by decide))) (by exact Nat.le_of_ble_eq_true rfl) ?_
    refine Su (eE (aX (aX (aX rfl rfl (lR (by decide) (by decide))) rfl (lU (by decide))) rfl (Ac _ _))) (λ_=>?_) (λ_=>Jr ⟨_,rfl,l,_,_,rfl,hm,by omega⟩)
    refine Ga (ds:=l.map D.int) (d:=.int (k:Int)) rfl (kE rfl rfl) (by rw[A9];omega) ⟨_,rfl,l++[(k:Int)],.fro (.int k),.own (.int ((cells.getD (k:Int).toNat 0+3)*742938285%2147483647)),?_,λx hx=>?_,by rw[D4,N7];omega⟩
    · unfold aN
      rw[O1]
      rfl
    · rcases E7.mp hx with z | z
      · exact hm x z
      · rw[C8.mp z];omega
  · rintro env ⟨l,v3,v4,rfl,hm,hll⟩
    exact Ae rfl ⟨_,rfl,l,rfl,hm,hll⟩
theorem Ue(n:Int):dI [.int n]=some (.bl true):=lQ rfl (mW (Ad (kI rfl rfl) (Sg (b:=false) (kI rfl rfl))))
theorem Du{t:List Int}{e:DE}{fi:FA}{fr:List Nat}(h:fi e=some (t.map D.int))(hl:t.length≤1000):fB (f2 xK (cX fi fr (nM (fB (cQ 1 dI (aD (aC 0) aQ)))) (iT (aC 0))) (lF aQ)) e=some false:=by
 have hc:=Gd (fi:=fi) (fr:=fr) (fc:=nM (fB (cQ 1 dI (aD (aC 0) aQ)))) (fe:=iT (aC 0)) (e:=e) (ms:=t) (λ_=>false) (λx=>x) h hl (λx _=>gB (b:=true) (eE (bQ (aB rfl rfl) rfl (Ue x)))) λx _ z=>(by cases z)
 rw[List.filter_eq_nil_iff.mpr λx _=>D1]at hc
 exact(eE (aX hc (pY rfl (by decide)) (Tg [] []))).trans (by rw[decide_eq_true rfl];rfl)
theorem Ug{s:List (List (List Int))}(hs:∀q∈s,∀t∈q,t.length≤1000):gG [aO s,aO s]=some (.bl true):=by
 suffices h:∃d,gG [aO s,aO s]=some d∧d=.bl true by
  obtain⟨d,h1,rfl⟩:=h
  exact h1
 have hlen:nO [aO s]=some (.int s.length):=by unfold aO;rw[pX,A9]
 refine iY rfl ?_
 unfold yJ
 refine yD (b:=false) ((xZ (gB (b:=true) (eE (kI rfl rfl)))).trans ((eE (aX (jJ (aB rfl rfl) hlen) (jJ (aB rfl rfl) hlen) (tH _ _))).trans (by rw[decide_eq_true rfl];rfl))) rfl (Mp ?_)
 refine Js (xs:=s.map bZ) (λn env=>∃v2 v3,env=[.fro (aO s),.fro (aO s),v2,v3]) rfl (fO rfl) ⟨_,_,rfl⟩ ?_ ?_
 ·rintro k x env hx ⟨v2,v3,rfl⟩
  refine⟨by walk_at "lt", ?_⟩
  rw[C3]at hx
  obtain⟨q,hq,rfl⟩:=fH hx
  refine yD (b:=false) (gB (b:=true) (eE (kI rfl rfl))) rfl (Mp ?_)
  refine JZ (xs:=q.map dTup) (λn env=>∃v3,env=[.fro (aO s),.fro (aO s),.fro (bZ q),v3]) rfl (fO rfl) ⟨_,rfl⟩ ?_ ?_
  ·rintro j y env hy ⟨v3,rfl⟩
   refine⟨by walk_at "lt", ?_⟩
   rw[C3]at hy
   obtain⟨t,ht,rfl⟩:=fH hy
   refine Sv (b:=false) ((xZ (gB (b:=true) (eE (kI rfl rfl)))).trans (Du (t:=t) (Dd rfl) (hs q (E5 hq) t (E5 ht)))) rfl (Jr ⟨_,rfl,_,rfl⟩)
  ·rintro env ⟨v3,rfl⟩
   exact⟨_,rfl,_,_,rfl⟩
 ·rintro env ⟨v2,v3,rfl⟩
  exact rG (aX rfl rfl (rQ s)) ⟨_,rfl,rfl⟩
theorem Gx{cs:List iJ}(hl:cs.length≤124):qI [cM cs]=some (.lst (cs.map λc=>dTup c.needs)):=
 lQ rfl (mW (yE (ψ:=wC) (φ:=λc=>dTup c.needs) (fO rfl) (by omega) λc _=>kE (aX rfl rfl (vO c)) (gY _)))
theorem Uh(ns:List Int):xK (dTup ns) (dTup ns)=some (.bl false):=by
 have e:=qD ns
 unfold xK
 rw[show toV (dTup ns)=none from rfl,e]
 dsimp only
 rw[if_pos (by rw[eN];decide),fJ]
 rfl
theorem Xz{cs:List iJ}(hg:Good cs):lY [.lst (cs.map λc=>dTup c.needs),cM cs]=some (.bl true):=by
 suffices h:∃d,lY [.lst (cs.map λc=>dTup c.needs),cM cs]=some d∧d=.bl true by
  obtain⟨d,h1,rfl⟩:=h
  exact h1
 have ux:=hg.1
 have hlen:nO [.lst (cs.map λc=>dTup c.needs)]=some (.int cs.length):=by rw[pX,A9]
 refine iY rfl ?_
 unfold Di
 refine yD (b:=false) ((xZ (gB (b:=true) (eE (kI rfl rfl)))).trans ((eE (aX (jJ (aB rfl rfl) hlen) (jJ (aB rfl rfl) (Ai _)) (tH _ _))).trans (by rw[decide_eq_true rfl];rfl))) rfl (Mp ?_)
 refine Af (n:=cs.length) (λ_ env=>∃v2:SD,env=[.fro (.lst (cs.map λc=>dTup c.needs)),.fro (cM cs),v2]) (pZ (aB (jJ (aB rfl rfl) (Ai _)) rfl) (by omega)) ⟨_,rfl⟩ ?_ ?_
 ·rintro k env hk ⟨v2,rfl⟩
  refine⟨by walk_at "lt", ?_⟩
  have hc:=Gh (cs:=cs) hk
  have hr:dM (.lst (cs.map λc=>dTup c.needs)) (.int (k:Int))=some (dTup (at_ cs k).needs):=by
   refine gC (by omega) ?_
   rw[D2,C3,B5 hk]
   unfold at_
   rw[show (some cs[k]).map (λc=>dTup c.needs)=some (dTup cs[k].needs)from rfl]
   congr 3
   simp[hk]
  refine yD (b:=false) ((xZ (gB (b:=true) (eE (kI (aX rfl rfl hr) rfl)))).trans (eE (aX (aX rfl rfl hr) (aX (aX rfl rfl hc) rfl (vO _)) (Uh _)))) rfl (Mp ?_)
  exact Sv (b:=false) (Du (t:=(at_ cs k).needs) (Dd (aX rfl rfl hr)) (by have:=(hg.2 k hk).2.2;omega)) rfl (Jr ⟨_,rfl,_,rfl⟩)
 ·rintro env ⟨v2,rfl⟩
  exact rG rfl ⟨_,rfl,rfl⟩
theorem Gy(s:List (List (List Int)))(cs:List iJ)(l:List Int):xK (.lst [aO s,cM cs,aN l]) (.lst [aO s,cM cs,aN l])=some (.bl false):=by
 have e2:bJ (aN l)=some (.lst (l.map DV.int)):=by unfold aN bJ;rw[oV];rfl
 have e3:bJ (aO s)=some (.lst (s.map sG)):=by unfold aO bJ;rw[mD];rfl
 refine yF (xs:=[.lst (s.map sG),.lst (cs.map Zd),.lst (l.map DV.int)]) ?_ ?_
 ·unfold bM
  rw[e3,B4]
  unfold bM
  rw[Te,B4]
  unfold bM
  rw[e2,B4]
  unfold bM
  rfl
 ·have:=oW cs
  have:=mF s
  have i1:(DV.lst (l.map DV.int)).depth=1:=by unfold DV.depth;rw[eN]
  have i2:(DV.lst (cs.map Zd)).depth≤3:=by unfold DV.depth;omega
  have i3:(DV.lst (s.map sG)).depth≤3:=by unfold DV.depth;omega
  unfold aV
  unfold aV
  unfold aV
  rw[i1]
  unfold aV
  omega
theorem Yb(cs:List iJ):xK (cM cs) (cM cs)=some (.bl false):=yF (rH cs) (by have:=oW cs;omega)
theorem Ui(ns:List Int)(hl:ns.length≤63)(hs:∀k∈ns,Small k):KC [.lst (ns.map D.int)]=some (.bl true):=by
 suffices h:∃d,KC [aN ns]=some d∧d=.bl true by
  obtain⟨d,h1,rfl⟩:=h
  exact h1
 refine iY rfl ?_
 unfold TJ
 have hc0:=Mz ns 0
 rw[show ((0:Nat):Int)=0 from rfl]at hc0
 walk_at "q"
 have f0:=G1 (ns.getD 0 0) (show (2147483647:Int)≠0 by decide)
 have f1:=F9 (ns.getD 0 0) (show (0:Int)<2147483647 by decide)
 generalize ns.getD 0 0%2147483647=first at *
 walk_at "q"
 have p0:=G1 first (show (8:Int)≠0 by decide)
 have p1:=F9 first (show (0:Int)<8 by decide)
 obtain⟨P,eP⟩:∃P:Nat,1+first%8=P:=⟨(1+first%8).toNat,by omega⟩
 rw[eP]
 walk_at "q"
 have q0:=G1 (first/8) (show (9:Int)≠0 by decide)
 have q1:=F9 (first/8) (show (0:Int)<9 by decide)
 obtain⟨Q,eQ⟩:∃Q:Nat,1+first/8%9=Q:=⟨(1+first/8%9).toNat,by omega⟩
 rw[eQ]
 refine gZ (d:=aN ((ns.drop 1).take 60)) ((qC rfl (dG rfl) (dG rfl)).trans (by rw[show (1:Int)=((1:Nat):Int)from rfl,show (61:Int)=((61:Nat):Int)from rfl,Sy])) (by exact Nat.le_of_ble_eq_true rfl) ?_
 have hcl:((ns.drop 1).take 60).length≤60:=by rw[G0];omega
 have hcs:∀c∈(ns.drop 1).take 60,Small c:=λc hc=>hs c (List.mem_of_mem_drop (S6 hc))
 generalize (ns.drop 1).take 60=cells at *
 have qe:0<P:=by omega
 have aj:P≤8:=by omega
 have uy:0<Q:=by omega
 have qg:Q≤9:=by omega
 obtain⟨f,hst,hfl⟩:=Ud (a:=first) f0 f1 aj qg
 refine gZ (bQ (aB rfl (aB rfl (aB rfl rfl))) rfl hst) (by exact Nat.le_of_ble_eq_true rfl) ?_
 obtain⟨cs,hch,cl,hg,hcb⟩:=Gs (P:=P) (Q:=Q) hcl hcs (by omega) (by omega) (by omega)
 refine gZ (bQ (aB rfl (aB rfl (aB rfl rfl))) rfl hch) (by exact Nat.le_of_ble_eq_true rfl) ?_
 have Uj:Uc cs P Q:=λk hk=>by
  obtain⟨a,b,c,d,_⟩:=hcb k hk
  exact⟨(at_ cs k).nQ.toNat,(at_ cs k).place.toNat,by omega,by omega,by omega,by omega⟩
 obtain⟨sm,hsm,ql,uz⟩:=Xy (cells:=cells) (mode:=first/72%5) hcl
 obtain⟨l,hso,t1,t2⟩:=Nb (l:=sm) (c:=first/360) (by omega) (Int.ediv_nonneg f0 (by decide))
 refine gZ (bQ (aB (bQ (aB rfl (aB (aX (aX rfl rfl (lR (by decide) (by decide))) rfl (lU (by decide))) rfl)) rfl hsm) (aB (aX rfl rfl (lR (by decide) (by decide))) rfl)) rfl hso) (by exact Nat.le_of_ble_eq_true rfl) ?_
 have hb:∀k∈l,0≤k∧k<(cs.length:Int):=λk hk=>by
  have:=ql k ((t1 k).mp hk)
  omega
 have TV:l.length<64:=by omega
 obtain⟨T,hT,ak⟩:=LC (f:=f) aj TV hb Uj
 obtain⟨T',hT',hlaid⟩:=Xv (f:=f) aj TV hb Uj
 have eT:T'=T:=by
  funext p q
  exact hT'.one hT (λk=>(gA l).1.mem_iff) p q
 rw[eT]at hlaid
 have hth:∀q∈aL P Q (jA cs f T),∀t∈q,t.length≤1000:=λq hq t ht=>by
  obtain⟨i,_,rfl⟩:=G6.mp hq
  obtain⟨j,_,rfl⟩:=G6.mp ht
  unfold jA
  split
  ·rename_i k hk
   have a:=hT i j
   rw[hk]at a
   have:=hb k a.1
   have:=(hcb k.toNat (by omega)).2.2.2.2
   omega
  ·have:=hfl i j
   omega
 refine gZ (bQ (aB rfl (aB rfl (aB rfl rfl))) rfl ak) (by exact Nat.le_of_ble_eq_true rfl) ?_
 generalize vd:jA cs f T=g at *
 have e1:dList [cM cs]=some (cM cs):=rF (Td cs)
 have e2:dList [aN l]=some (aN l):=rF (bO l)
 refine gZ (d:=.lst [aO (aL P Q f),cM cs,aN l]) (pY (aB (Ao (s:=aL P Q f) (fO rfl) (by rw[mG];omega)) (aB (jJ (aB rfl rfl) e1) (aB (jJ (aB rfl rfl) e2) rfl))) (by exact Nat.le_of_ble_eq_true rfl)) (by exact Nat.le_of_ble_eq_true rfl) ?_
 refine gZ (d:=aO (aL P Q g)) (bQ (aB (aX rfl rfl (gC (by decide) rfl)) (aB (aX rfl rfl (gC (by decide) rfl)) (aB (aX rfl rfl (gC (by decide) rfl)) rfl))) rfl hlaid) (by exact Nat.le_of_ble_eq_true rfl) ?_
 have hal:=Ug hth
 refine yD (b:=false) ((xZ (gB (b:=true) (eE (bQ (aB rfl (aB rfl rfl)) rfl hal)))).trans (eE (aX rfl (pY (aB rfl (aB rfl (aB rfl rfl))) (by exact Nat.le_of_ble_eq_true rfl)) (Gy (aL P Q f) cs l)))) rfl (Mp ?_)
 refine yD (b:=false) ((xZ (gB (b:=true) (eE (bQ (aB (bQ (aB (aX rfl rfl (gC (by decide) rfl)) rfl) rfl (Gx hg.1)) (aB rfl rfl)) rfl (Xz hg))))).trans (eE (aX (aX rfl rfl (gC (by decide) rfl)) rfl (Yb cs)))) rfl (Mp ?_)
 have hg0:((aL P Q g).map bZ)[0]?=some (bZ ((D3 Q).map (g 0))):=by rw[C3,Dr qe];rfl
 refine Xn (Th (p:=[.ix 0]) (d0:=aO (aL P Q g)) (ds:=((D3 Q).map (g 0)).map dTup) rfl (Gu (p:=[]) (k:=0) rfl rfl (by decide)) (Tt hg0)) ?_
 have ao:jF [L2.Step.ix 0] (aO (aL P Q g)) (.lst [])=.lst (((aL P Q g).map bZ).set 0 (.lst [])):=Tu hg0
 rw[ao]
 have hdr:eU (((aL P Q g).map bZ).set 0 (.lst [])) (some 1) none=((aL P Q g).drop 1).map bZ:=by
  have h1:=Gg (l:=((aL P Q g).map bZ).set 0 (.lst [])) (c:=1) (by rw[M7,A9,mG];omega)
  rw[show (1:Int)=((1:Nat):Int)from rfl,h1,List.drop_set_of_lt (by decide),S9]
 have aq:eU ((aL P Q g).map bZ) (some 1) none=((aL P Q g).drop 1).map bZ:=by
  have h1:=Gg (l:=(aL P Q g).map bZ) (c:=1) (by rw[A9,mG];omega)
  rw[show (1:Int)=((1:Nat):Int)from rfl,h1,S9]
 refine rG (d:=.bl true) (Ad (aX ((Gb (ds:=((aL P Q g).map bZ).set 0 (.lst [])) rfl (dG rfl) rfl (.inl rfl)).trans (by rw[hdr];rfl)) ((Gb (ds:=(aL P Q g).map bZ) rfl (dG rfl) rfl (.inl rfl)).trans (by rw[aq];rfl)) (rQ ((aL P Q g).drop 1))) (Ad (aX (aX rfl rfl (gC (by decide) rfl)) rfl (rQ (aL P Q f))) (bQ (aB (bQ (aB (aX rfl rfl (gC (by decide) rfl)) (aB rfl (aB rfl rfl))) rfl hlaid) (aB rfl rfl)) rfl hal))) ⟨_,rfl,rfl⟩
end Rs

def PySem.W.Fast.tw15270497162833499650:Unit:=()
def PySem.W.Fast.tw6456415289607781543:Unit:=()
def PySem.W.Fast.tw4389610558819507500:Unit:=()
def PySem.W.Fast.tw5241101862505336043:Unit:=()
def PySem.W.Fast.tw8331191406599747711:Unit:=()
def PySem.W.Fast.tw1892914981937788515:Unit:=()
def PySem.W.Fast.tw9167560580444334571:Unit:=()
def PySem.W.Fast.tw3691910605701345292:Unit:=()
def PySem.W.Fast.tw9314216746456635503:Unit:=()
def PySem.W.Fast.tw9675462061077124279:Unit:=()
def PySem.W.Fast.tw1937828361965734126:Unit:=()
def PySem.W.Fast.tw12657134492063154225:Unit:=()
def PySem.W.Fast.tw16303397886604450950:Unit:=()
def PySem.W.Fast.tw9522519108286203790:Unit:=()
def PySem.W.Fast.tw11910728375225829199:Unit:=()
def PySem.W.Fast.tw9971822379481672049:Unit:=()
def PySem.W.Fast.tw13163092952152511717:Unit:=()
def PySem.W.Fast.tw9148354736990138291:Unit:=()
def PySem.W.Fast.tw16244759858107294244:Unit:=()
def PySem.W.Fast.tw4397770656488216193:Unit:=()
def PySem.W.Fast.tw14055660546217043564:Unit:=()
def PySem.W.Fast.tw8964979028831450742:Unit:=()
def PySem.W.Fast.tw2378540025661774495:Unit:=()
def PySem.W.Fast.tw3089512492612314673:Unit:=()
def PySem.W.Fast.tw2659403074276355970:Unit:=()
def PySem.W.Fast.tw8974702658533688934:Unit:=()
def PySem.W.Fast.tw15995791461789141081:Unit:=()
namespace Rs
open PySem L2
theorem Yc{K:aA}{f:Addr}{oc:Value}{od:Option Addr}{fd:FuncData}{sl:Array (Option Value)}(l:K.lookup f=some ⟨oc,od,.func fd,sl⟩):G9 K (.ref f)=true:=by
 unfold G9
 dsimp only
 rw[l]
theorem au{K:aA}{h:Heap}{mg:Str→Option Value}{x:Str}{st:Stmt}{f:Addr}{oc:Value}{od an:Option Addr}{osl:Array (Option Value)}{kV doc pm cdv ct:Value}(X:K.In h)(G:h.Ns mainGlobals mg)(a:T6 K mainGlobals x=some (some (.ref f)))(l:K.lookup f=some ⟨oc,od,.func (F7 x x (cT st) (bV st) (aK st) .none kV doc pm an cdv ct),osl⟩)(c:M0 K cdv x=true):Raw K mg x st:=FN X G a l c (Yc l)
theorem walk{l:W2}{q:Program}{loose:List Str}{XP:(Str→Option Value)→Heap→Prop}{YP:World→Heap→Prop}{d:DefRec}{K:Params→aA}(hn:l.most=some 63)(hdf:d.params.defaults=[])(hdn:d.name = "law")
  (hY:∀(w:World)(h:Heap),YP w h→(K w.params).In h)
  (F:∀(w:World)(mg:Str→Option Value)(h:Heap),(K w.params).In h→h.Ns mainGlobals mg→Raw (K w.params) mg "_law_thing" rJ∧Raw (K w.params) mg "_law_stone" jL∧Raw (K w.params) mg "_law_needs" rK∧Raw (K w.params) mg "_law_changes" lW∧Raw (K w.params) mg "_law_turned" oX∧Raw (K w.params) mg "_law_due" tK∧Raw (K w.params) mg "laid" Jv∧Raw (K w.params) mg "_law_cell_at" oY∧Raw (K w.params) mg "_law_some" vU∧Raw (K w.params) mg "_law_whole" rM∧Raw (K w.params) mg "_law_alike" nA∧Raw (K w.params) mg "_law_rows" qG∧Raw (K w.params) mg "needs_of" qH∧Raw (K w.params) mg "law" Xq∧mg "range" = none∧mg "min" = none∧mg "sorted" = none∧mg "set" = none∧mg "tuple" = none∧mg "len" = none∧mg "list" = none∧mg "reversed" = none∧mg "max" = none∧mg "isinstance" = none∧mg "bool" = none∧mg "int" = none∧nY mg "PANE" (0)∧nY mg "PLACE" (1)∧nY mg "THING" (2)∧nY mg "NEEDS" (3)) :
  W9 q loose XP YP l.row.toRowW d [] (λf vs=>W0 f vs):=by
 refine L2.Ly (n:=63) (k:=3) (x := "script") (CX:=λ_=>Np) (sp:=λw=>ZD (K w.params)) hn (by decide) hdf ⟨rfl,by decide,by decide⟩ hY ?_ (λ_ _ a ns hl hb _ hS=>⟨a,ns,rfl,hS,hl,hb,λ_=>rfl⟩) λ_ _ _ _ _ z=>z
 intro w mg fa h KX G hmg
 obtain⟨Nh,Ni,Nj,Dv,Gz,Yd,TX,Hf,Uk,Nk,Nm,Ul,Um,az,eY,KH,nC,KJ,kO,iZ,cY,rO,KN,bC,Tn,KQ,Tj,Gj,Gk,Gr⟩:=F w mg h KX G
 obtain⟨f,fd,FL,m⟩:=az.ex
 rw[hdn]at hmg
 have e:=hmg.symm.trans m
 cases e
 refine⟨fd,Fd FL (λ_ _ _ _ _ _ u=>rfl),λbase _ _=>?_⟩
 have gH:=Dj (P:=l.prog) (w:=w) (mg:=mg) (base:=base) Nh
 have rP:=Dk (P:=l.prog) (w:=w) (mg:=mg) (base:=base) Ni gH  eY
 have rN:=Dl (P:=l.prog) (w:=w) (mg:=mg) (base:=base) Nj  KH nC KJ kO
 have mC:=wM (P:=l.prog) (w:=w) (mg:=mg) (base:=base) Dv gH rN  iZ eY
 have pB:=Aj (P:=l.prog) (w:=w) (mg:=mg) (base:=base) Gz  iZ cY rO
 have Am:=Mx (P:=l.prog) (w:=w) (mg:=mg) (base:=base) Yd  KN cY
 have Jw:=Xr (P:=l.prog) (w:=w) (mg:=mg) (base:=base) TX  cY nC Tj Gj Gk
 have pA:=Al (P:=l.prog) (w:=w) (mg:=mg) (base:=base) Hf  iZ
 have vW:=Gm (P:=l.prog) (w:=w) (mg:=mg) (base:=base) Uk  iZ eY
 have gJ:=Dn (P:=l.prog) (w:=w) (mg:=mg) (base:=base) Nk  bC Tn KQ
 have nF:=Dp (P:=l.prog) (w:=w) (mg:=mg) (base:=base) Nm gJ  iZ bC cY kO
 have vY:=Gp (P:=l.prog) (w:=w) (mg:=mg) (base:=base) Ul gJ  iZ bC cY eY kO
 have vX:=Gq (P:=l.prog) (w:=w) (mg:=mg) (base:=base) Um  Gr
 exact KR FL pA rP mC vW pB Am Jw nF vX vY  cY Ui
end Rs
open PySem PySem.W PyProof.Rows
set_option maxRecDepth 100000 in
set_option maxHeartbeats 0 in
theorem PySem.Challenge.cw_ripestone_k05_laid_and_needs_holds : PySem.Challenge.rw_ripestone_k05_laid_and_needs.Holds := by
 w_on;o_law;k_head;(case hw=>w_witness2)
 k_fill
 refine Rs.walk (l:=PySem.Challenge.rw_ripestone_k05_laid_and_needs) rfl rfl rfl (λw h Y=>PySem.W.kIn_of Y) ?F
 case F=>
  intro w mg h KX G
  refine⟨?_,?_,?_,?_,?_,?_,?_,?_,?_,?_,?_,?_,?_,?_,E6 KX G ?_,E6 KX G ?_,E6 KX G ?_,E6 KX G ?_,E6 KX G ?_,E6 KX G ?_,E6 KX G ?_,E6 KX G ?_,E6 KX G ?_,E6 KX G ?_,E6 KX G ?_,E6 KX G ?_,?_,?_,?_,?_⟩
  iterate 14
   ·refine' Rs.au KX G ?a ?l ?c
    (case a=>k_is);(case l=>k_is);(case c=>k_is)
  iterate 12
   ·k_is
  ·refine' L2.pP KX G ?a
   (case a=>k_is)
  ·refine' L2.pP KX G ?a
   (case a=>k_is)
  ·refine' L2.pP KX G ?a
   (case a=>k_is)
  ·refine' L2.pP KX G ?a
   (case a=>k_is)
#print axioms PySem.Challenge.cw_ripestone_k05_laid_and_needs_holds
