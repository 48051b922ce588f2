import PyProof.Rows.All
import Wide.All
import OpenK.AllK
import Wide.FinOn
import Lean
import PyProof.EqAt
import PyProof.EqKinds
import PyProof.TupleCall
import PySem.Challenge.RW_ripestone_k55_odd_stones
open Array renaming length_toList→K8,getElem?_eq_some_iff→O0,getElem?_toList→U7,toList→Z5
open Bool renaming and_eq_true→B4,false_ne_true→B8,eq_iff_iff→F7,true_and→G0,not_eq_true'→K7,not_eq_false'→M9,and_eq_false_iff→Q7,or_eq_true→R3,or_eq_false_iff→R4,false_and→U5,false_eq_true→V9,eq_false_iff→W7,and_false→Y3,and_true→Y8
open Int renaming emod_lt_of_pos→F3,emod_nonneg→F9,toNat_natCast→N0,zero_add→W5,mul_nonneg→Y5,mul_le_mul→Y6
open List renaming length_map→B3,getElem?_eq_getElem→B6,size_toArray→B7,replicate→B9,getElem?_eq_some_iff→C4,mem_cons_of_mem→C5,length_append→C6,mem_append_right→C9,mem_cons_self→D1,getElem?_map→D5,map_cons→D7,length_singleton→D8,all_eq_true→D9,getD_eq_getElem?_getD→F1,mem_singleton→F6,mem_cons→G2,map_append→G5,length_cons→G8,replicate_succ→G9,mem_append_left→I0,mem_of_getElem?→J0,map_nil→J7,length_take→J9,filterMap_cons→K1,length_replicate→K2,all_cons→K3,range→K4,getElem?_set_ne→K5,getElem?_set_self→L5,drop_eq_getElem_cons→L7,mem_append→L8,flatten_cons→M3,length_drop→M4,cons_append→M5,mem_map→M7,map_map→M8,mem_range→N1,take_length→N2,length_set→O3,nil_append→O4,getElem?_replicate→P0,length_range→P5,take_of_length_le→P8,any_cons→Q1,lookup_cons→Q3,nodup_cons→Q9,all_append→R5,replicate_zero→R7,map_congr_left→R8,map_replicate→S3,getElem?_append_right→S4,take_add_one→S9,getElem?_append_left→T0,mem_or_eq_of_mem_set→T1,drop_length→T3,flatten_nil→T5,eq_of_mem_replicate→T7,append_nil→U1,of_mem_zip→U2,drop_eq_nil_of_le→U4,drop_zero→V0,getElem_of_mem→V3,take_succ_cons→V4,mem_filterMap→V6,zip_cons_cons→W0,map_set→W4,append_assoc→W6,all_eq_false→W8,length→W9,getElem_mem→X4,ext_getElem→X5,not_mem_nil→X6,length_tail→X7,mem_filter→X8,foldl→X9,foldl_cons→Y0,filterMap→Y4
open Nat renaming lt_of_lt_of_le→C3,le_refl→D2,le_trans→F0,ne_of_lt→F2,lt_irrefl→G3,lt_succ_of_lt→N5,ne_of_gt→N6,le_of_ble_eq_true→N8,zero_le→O1,zero_add→O7,le_succ→P6,digitChar→S5,toDigits→T6,toDigits_of_lt_base→T8,mul_le_mul→V2,le_of_lt→V5,sub_zero→W3,lt_succ_self→X2
open Option renaming bind_some→C8,isSome_iff_exists→O5,getD_none→X1,getD_some→X3,none→Z8
open Option.some renaming inj→G1
open Or renaming inr→D3,inl→D4
open PyProof.Rows renaming boot_str→L6,boot_isinstance→M6,boot_list→N4,boot_tuple→P2,boot_all→Q6,callWith_type1→S2,split_le→U8,boot_int→V1
open PySem renaming boot_len→C7,mem_of_lookup→K9,intText?→S0,call→Y1,Within→Z0,passOn→Z7
open PySem.F renaming plainAttrs_str→D6,slot_str_split→F4,type_str_split→F5,plainAttrs_list→J8,slot_list_append→L9,type_list_append→M0,excBase_ValueError→N9,slot_str_join→Q4,type_str_join→Q5
open PySem.NumText renaming digitsVal→N3
open PySem.Str renaming ofString→O6
open PySem.W renaming exmOne→B5,kia_one→F8,mg_of→G4,fnOf→G6,nsIn→G7,mg_none_of→J1,excIn→J5,findIn→J6,Looks→K0,keepIn→K6,codeIn→N7,hideAll→O2,kitOne→O8,kitCls→O9,specialIn→P4,mroIn→Q0,clsIn→Q2,hideAll_none→Q8,exm_one→R0,looks_findIn→R1,hideAll_get→R6,of_hideAll→S1,methodObj→S6,kitx_list→S7,kitx_dict→S8,instObj→T9,takesIn→U0,cellsFrom_some→U3,lookIn→U6,kitAny→U9,kitx_tuple→V7,callWith_K→V8,plainGet→X0,OpenLaw→Y2,WalkO→Y7,subIn→Y9,isFn→Z6
open PySem.W.KF renaming slot_gs→W2
open PySem.W.Looks renaming ld→T4
open Sum renaming inl→R9,inr→T2
abbrev aA:=PySem.W.Frag
theorem aU{α:Type u_1}{b:α}{β:Type u_2}{x:Option β}{f:β→Option α}(h:x.bind f=some b):∃a,x=some a∧f a=some b:=Option.bind_eq_some_iff.mp h
theorem iZ{α:Type u_1}{b:α}{β:Type u_2}{x:Option β}{f:β→α}(h:x.map f=some b):∃a,x=some a∧f a=b:=Option.map_eq_some_iff.mp h

set_option Elab.async false
set_option linter.all false
set_option maxRecDepth 100000
namespace L2
open PySem PySem.Spec PyProof.Rows
abbrev Key:=Sum Int Str
def KZ:Key→Value→Bool
 | .inl k,v=>Value.isInt k v
 | .inr x,v=>Value.isStrOf x v
def xr(w:World):Key→Int
 | .inl k=>hashInt k
 | .inr x=>hashStr w x
theorem dB:∀{k:Key} {v:Value},KZ k v=true→(∃i t,k=R9 i∧v=Value.int i t)∨(∃x t,k=T2 x∧v=Value.str x t)
 | .inl i,v,h=>by
  obtain⟨t,e⟩:=Value.isInt_shape (k:=i) (v:=v) h
  exact .inl ⟨i,t,rfl,e⟩
 | .inr x,v,h=>by
  obtain⟨t,e⟩:=Value.isStrOf_shape (x:=x) (v:=v) h
  exact .inr ⟨x,t,rfl,e⟩
theorem QB(a b:Int):decide ((R9 a:Key)=R9 b)=(a==b):=by
 by_cases e:a=b
 ·subst e;simp
 ·have h:¬(R9 a:Key)=R9 b:=λq=>e (Sum.inl.inj q)
  rw[decide_eq_false h]
  exact(beq_eq_false_iff_ne.mpr e).symm
theorem QC(a b:Str):decide ((T2 a:Key)=T2 b)=decide (a=b):=by
 by_cases e:a=b
 ·subst e;simp
 ·have h:¬(T2 a:Key)=T2 b:=λq=>e (Sum.inr.inj q)
  rw[decide_eq_false h,decide_eq_false e]
theorem QD(a:Int)(b:Str):decide ((R9 a:Key)=T2 b)=false:=decide_eq_false (λq=>nomatch q)
theorem QF(a:Str)(b:Int):decide ((T2 a:Key)=R9 b)=false:=decide_eq_false (λq=>nomatch q)
def El(prog:Program)(w:World):PySem.KeyKind prog w Key where
  is:=KZ
  hash:=xr w
  inj:=λv a b ha hb=>by
    rcases dB ha with ⟨i,t,rfl,rfl⟩ | ⟨x,t,rfl,rfl⟩
    · rcases dB hb with ⟨j,u,rfl,e⟩ | ⟨y,u,rfl,e⟩
      · injection e with e1 _;rw[e1]
      · exact nomatch e
    · rcases dB hb with ⟨j,u,rfl,e⟩ | ⟨y,u,rfl,e⟩
      · exact nomatch e
      · injection e with e1 _;rw[e1]
  byValue:=λk v h=>by
    rcases dB h with ⟨i,t,rfl,rfl⟩ | ⟨x,t,rfl,rfl⟩<;>rfl
  pyHash:=λhv h=>by
    rcases dB hv with ⟨i,t,rfl,rfl⟩ | ⟨x,t,rfl,rfl⟩
    · exact wpAny_pyHash_int h
    · exact wpAny_pyHash_str h
  eqBool:=λhu hv h=>by
    rcases dB hu with ⟨i,t,rfl,rfl⟩ | ⟨x,t,rfl,rfl⟩
    · rcases dB hv with ⟨j,u,rfl,rfl⟩ | ⟨y,u,rfl,rfl⟩
      · rw[QB]at h;exact wpAny_eqBool_int h
      · rw[QD]at h;exact SeqAt.EqAt.int_str i t y u _ _ _ _ h
    · rcases dB hv with ⟨j,u,rfl,rfl⟩ | ⟨y,u,rfl,rfl⟩
      · rw[QF]at h;exact SeqAt.EqAt.str_int x t j u _ _ _ _ h
      · rw[QC]at h;exact wpAny_eqBool_str h
  «strs»:=λk x t v h=>by
    rcases dB h with ⟨i,u,rfl,e⟩ | ⟨y,u,rfl,e⟩
    · exact nomatch e
    · injection e with e1 _
      subst e1
      cases v<;>rfl
end L2
namespace L2
open PySem PySem.Spec PyProof.Rows
inductive V where
  | non | bl (b:Bool) | int (i:Int) | str (x:Str) | byt (b:Array UInt8) | flt (b:UInt64) | ref (a:Addr) | ty (n:String)
  deriving DecidableEq
def RelV:V→Value→Prop
 | .non,u=>u=Value.none
 | .bl b,u=>u=Value.bool b
 | .int i,u=>∃t,u=Value.int i t
 | .str x,u=>∃t,u=Value.str x t
 | .byt b,u=>∃t,u=Value.bytes b t
 | .flt b,u=>∃t,u=Value.float b t
 | .ref a,u=>u=Value.ref a
 | .ty n,u=>u=Value.type n
abbrev Vals:List V→List Value→Prop:=Paired RelV
theorem Vals.length{xs:List V}{us:List Value}(r:Vals xs us):xs.length=us.length:=Paired.length r
theorem Vals.get:∀{xs:List V} {us:List Value} {i:Nat} {x:V},Vals xs us→xs[i]?=some x→∃u,us[i]?=some u∧RelV x u
 | _,_,_,_,.nil,e=>by simp at e
 | _,_,0,_,.cons r _,e=>by simp at e;subst e;exact⟨_,rfl,r⟩
 | _,_,i+1,x,.cons _ t,e=>by
  obtain⟨u,h1,h2⟩:=Vals.get (i:=i) (x:=x) t (by simpa using e)
  exact⟨u,by simpa using h1,h2⟩
theorem Vals.set{x:V}{u:Value}(r:RelV x u):∀{xs:List V} {us:List Value} (i:Nat),Vals xs us→Vals (xs.set i x) (us.set i u)
 | _,_,_,.nil=>.nil
 | _,_,0,.cons _ t=>.cons r t
 | _,_,i+1,.cons q t=>.cons q (Vals.set r i t)
theorem Vals.append:∀{xs ys:List V} {us ws:List Value},Vals xs us→Vals ys ws→Vals (xs++ys) (us++ws)
 | _,_,_,_,.nil,s=>s
 | _,_,_,_,.cons r t,s=>.cons r (Vals.append t s)
theorem Vals.take:∀{xs:List V} {us:List Value} (n:Nat),Vals xs us→Vals (xs.take n) (us.take n)
 | _,_,0,_=>.nil
 | _,_,_+1,.nil=>.nil
 | _,_,n+1,.cons r t=>.cons r (Vals.take n t)
theorem Vals.drop:∀{xs:List V} {us:List Value} (n:Nat),Vals xs us→Vals (xs.drop n) (us.drop n)
 | _,_,0,r=>r
 | _,_,_+1,.nil=>.nil
 | _,_,n+1,.cons _ t=>Vals.drop n t
def QG:Option V→Option Value→Prop
 | some v,some u=>RelV v u
 | none,none=>True
 | _,_=>False
def KV{κ:Type}:List (κ×V)→List (κ×Value)→Prop:=Paired λ(p:κ×V) (q:κ×Value)=>p.1=q.1∧RelV p.2 q.2
def kV:Key→V
 | .inl i=>.int i
 | .inr x=>.str x
inductive HO where
  | lst (xs:List V)
  | tup (xs:List V)
  | dK (kvs:List (Key×V)) | dT (kvs:List (List Key×V))
  | set (S:Int→Bool) (n:Nat)
  | ins (C dx:Addr) (fs:List (Str×V))
  | own (x:Addr)
  | xd (fs:List (Str×V))
  | met (f x:Addr)
  | rng (lo hi:Int)
  | tZ (o:Obj) (u:HO)
  | tbl (ps:Array Value)
  | ext (φ:Heap→Prop)
abbrev Hp:=Addr→Option HO
def upd(H:Hp)(a:Addr)(o:HO):Hp:=λb=>if b=a then some o else H b
theorem bW{H:Hp}{a:Addr}{o:HO}:upd H a o a=some o:=by unfold upd;rw[if_pos rfl]
theorem bH{H:Hp}{a b:Addr}{o:HO}(h:b≠a):upd H a o b=H b:=by unfold upd;rw[if_neg h]
theorem gC{H:Hp}{a b:Addr}{o:HO}(h:H a=some o)(h':H b=none):a≠b:=by
 intro e;subst e;rw[h]at h';cases h'
section
variable(P:Program)(w:World)
def gY(H:Hp)(h:Heap)(a:Addr):HO→Prop
 | .lst xs=>xs.length≤sizeLine∧∃(its:List Value)(n:Nat),Vals xs its∧h.get? a=some {cls:=.type "list", data:=.seq its.toArray n}
 | .tup xs=>xs.length≤sizeLine∧∃its:List Value,Vals xs its∧IsTup h a its.toArray
 | .dK kvs=>kvs.length≤sizeLine∧(a==sysModules)=false∧∃vs,KV kvs vs∧h.DictOf (El P w) a vs
 | .dT kvs=>kvs.length≤sizeLine∧(a==sysModules)=false∧∃xs:List (List Key×Addr×Value),
   Paired (λ(p:List Key×V) (q:List Key×Addr×Value)=>p.1=q.1∧H q.2.1=some (.tup (p.1.map kV))∧RelV p.2 q.2.2) kvs xs ∧
   ∃o es ep,h.get? a=some o∧o.ExactDict∧o.data=.dict es ep∧es.toList=xs.map (entryOfKey (tupleKind (El P w)))∧(xs.map (·.1)).Nodup
 | .set S n=>h.SetOf (intKind P w) a S n
 | .ins C dx fs=>H dx=some (.own a)∧fs.length≤1000∧dx≠a∧h.get? a=some (T9 C dx) ∧
   ∃mA,h.Ns1 dx mA∧(∀f,QG (fs.lookup f) (mA f))∧Z0 mA (fs.map (·.1))
 | .own _=>∃o,h.get? a=some o
 | .xd fs=>∃mA,h.Ns1 a mA∧∀f,QG (fs.lookup f) (mA f)
 | .rng lo hi=>∃t u v,h.get? a=some {cls:=.type "range", data:=.fields #[.int lo t,.int hi u,.int 1 v]}
 | .tZ o u=>h.get? a=some o∧gY H h a u
 | .tbl ps=>h.get? a=some {cls:=.none,data:=.fields ps}
 | .met f x=>h.get? a=some (S6 (.ref f) (.ref x))
 | .ext φ=>φ h∧(∃o,h.get? a=some o)∧∀h1 h2:Heap,φ h1→(∀o,h1.get? a=some o→h2.get? a=some o)→φ h2
def rQ(H:Hp)(h:Heap):Prop:=∀a o,H a=some o→gY P w H h a o
end
section
variable{P:Program}{w:World}{H H':Hp}{h h':Heap}{a:Addr}{o:HO}
theorem gY.lt(x:gY P w H h a o):a<h.objs.size:=by
 cases o with
 | lst xs=>obtain⟨_,_,_,_,e⟩:=x;exact Heap.lt_size e
 | tup xs=>obtain⟨_,_,_,p⟩:=x;exact p.lt
 | dK kvs=>obtain⟨_,_,_,_,o,_,_,e,_⟩:=x;exact Heap.lt_size e
 | dT kvs=>obtain⟨_,_,_,_,o,_,_,e,_⟩:=x;exact Heap.lt_size e
 | set S n=>obtain⟨o,_,_,_,e,_⟩:=x;exact Heap.lt_size e
 | ins C dx fs=>obtain⟨_,_,_,e,_⟩:=x;exact Heap.lt_size e
 | own y=>obtain⟨_,e⟩:=x;exact Heap.lt_size e
 | xd fs=>obtain⟨_,⟨_,_,_,e,_⟩,_⟩:=x;exact Heap.lt_size e
 | rng lo hi=>obtain⟨_,_,_,e⟩:=x;exact Heap.lt_size e
 | tZ ob u=>obtain⟨e,_⟩:=x;exact Heap.lt_size e
 | tbl ps=>exact Heap.lt_size (show h.get? a=some _ from x)
 | met f y=>exact Heap.lt_size (show h.get? a=some _ from x)
 | ext φ=>obtain⟨_,⟨_,e⟩,_⟩:=x;exact Heap.lt_size e
theorem Paired.ig{α β:Type}{F G:α→β→Prop}:∀{l₁:List α} {l₂:List β},Paired F l₁ l₂→(∀a b,F a b→G a b)→Paired G l₁ l₂
 | _,_,.nil,_=>.nil
 | _,_,.cons r t,f=>.cons (f _ _ r) (Paired.ig t f)
theorem gY.stay(x:gY P w H h a o)(k:∀b u,(b=a∨H b=some (.own a))→h.get? b=some u→h'.get? b=some u)
  (ho:∀b,H b=some (.own a)→H' b=some (.own a)) (ht:∀b xs,H b=some (.tup xs)→H' b=some (.tup xs)):gY P w H' h' a o:=by
 induction o with
 | lst xs=>obtain⟨z,its,n,r,e⟩:=x;exact⟨z,its,n,r,k _ _ (.inl rfl) e⟩
 | tup xs=>obtain⟨z,its,r,ob,e,c⟩:=x;exact⟨z,its,r,ob,k _ _ (.inl rfl) e,c⟩
 | dK kvs=>obtain⟨z,y,vs,r,ob,es,ep,e,c⟩:=x;exact⟨z,y,vs,r,ob,es,ep,k _ _ (.inl rfl) e,c⟩
 | dT kvs=>
  obtain⟨z,y,xs,r,ob,es,ep,e,c⟩:=x
  exact⟨z,y,xs,Paired.ig r λp q z=>⟨z.1,ht _ _ z.2.1,z.2.2⟩,ob,es,ep,k _ _ (.inl rfl) e,c⟩
 | set S n=>obtain⟨ob,es,ep,t,e,c⟩:=x;exact⟨ob,es,ep,t,k _ _ (.inl rfl) e,c⟩
 | ins C dx fs=>
  obtain⟨d,z,ne,e,mA,⟨od,es,ep,e2,c⟩,r⟩:=x
  exact⟨ho _ d,z,ne,k _ _ (.inl rfl) e,mA,⟨od,es,ep,k _ _ (.inr d) e2,c⟩,r⟩
 | own y=>obtain⟨ob,e⟩:=x;exact⟨ob,k _ _ (.inl rfl) e⟩
 | xd fs=>obtain⟨mA,⟨od,es,ep,e,c⟩,r⟩:=x;exact⟨mA,⟨od,es,ep,k _ _ (.inl rfl) e,c⟩,r⟩
 | rng lo hi=>obtain⟨t,u,v,e⟩:=x;exact⟨t,u,v,k _ _ (.inl rfl) e⟩
 | tZ ob u ih=>obtain⟨e,q⟩:=x;exact⟨k _ _ (.inl rfl) e,ih q⟩
 | tbl ps=>
  have e:h.get? a=some {cls:=.none,data:=.fields ps}:=x
  show h'.get? a=some {cls:=.none,data:=.fields ps}
  exact k a _ (.inl rfl) e
 | met f y=>
  have e:h.get? a=some (S6 (.ref f) (.ref y)):=x
  show h'.get? a=some (S6 (.ref f) (.ref y))
  exact k a _ (.inl rfl) e
 | ext φ=>obtain⟨p,⟨o,e⟩,st⟩:=x;exact⟨st _ _ p λo q=>k _ _ (.inl rfl) q,⟨o,k _ _ (.inl rfl) e⟩,st⟩
theorem rQ.lt(x:rQ P w H h)(e:H a=some o):a<h.objs.size:=(x a o e).lt
theorem rQ.fresh(x:rQ P w H h)(e:h.objs.size≤a):H a=none:=by
 cases q:H a with
 | none=>rfl
 | some u=>exact absurd (C3 (x.lt q) e) (G3 _)
theorem rQ.kept(x:rQ P w H h)(k:∀b u,h.get? b=some u→h'.get? b=some u):rQ P w H h':=λa o e=>
 (x a o e).stay (λb u _ q=>k b u q) (λ_ q=>q) λ_ _ q=>q
theorem rQ.laid(x:rQ P w H h)(k:∀b u,h.get? b=some u→h'.get? b=some u)(hp:h.objs.size≤a)(new:gY P w (upd H a o) h' a o):rQ P w (upd H a o) h':=λb u e=>by
 have hn:=x.fresh hp
 by_cases hb:b=a
 ·subst hb;rw[bW]at e;cases e;exact new
 ·rw[bH hb]at e
  exact(x b u e).stay (λc v _ q=>k c v q) (λc q=>by rw[bH (gC q hn)];exact q) λc xs q=>by rw[bH (gC q hn)];exact q
end
def Rd(H:Hp)(a:Addr)(u:HO):Prop:=H a=some u∨∃o,H a=some (.tZ o u)
theorem Rd.ok{P:Program}{w:World}{H:Hp}{h:Heap}{a:Addr}{u:HO}(r:Rd H a u)(x:rQ P w H h):gY P w H h a u:=by
 rcases r with r | ⟨o,r⟩
 ·exact x a u r
 ·obtain⟨_,q⟩:=x a _ r
  exact q
def ux:Option HO→Prop
 | some (.lst _)=>True
 | some (.dK _)=>True
 | some (.dT _)=>True
 | some (.set _ _)=>True
 | some (.ins _ _ _)=>True
 | some (.ext _)=>True
 | _=>False
section
variable{P:Program}{w:World}{H:Hp}{h h':Heap}{x e:Addr}{o':HO}
theorem rQ.write(ok:rQ P w H h)(mu:ux (H x))(he:e=x∨H e=some (.own x))(k:∀b u,b≠e→h.get? b=some u→h'.get? b=some u)(heo:∃u,h'.get? e=some u)
  (new:gY P w (upd H x o') h' x o'):rQ P w (upd H x o') h':=λb u q=>by
 have ik:∀c y,H c=some (.own y)→c≠x:=λc y r z=>by subst z;rw[r]at mu;exact mu
 have xu:∀c xs,H c=some (.tup xs)→c≠x:=λc xs r z=>by subst z;rw[r]at mu;exact mu
 by_cases hb:b=x
 ·subst hb;rw[bW]at q;cases q;exact new
 ·rw[bH hb]at q
  by_cases hbe:b=e
  ·have q':H b=some (.own x):=by
    rcases he with z | z
    ·exact absurd (hbe.trans z) hb
    ·rw[hbe];exact z
   rw[q]at q';cases q'
   obtain⟨v,hv⟩:=heo
   exact⟨v,by rw[hbe];exact hv⟩
  ·refine(ok b u q).stay (λc v hc r=>k c v ?_ r) (λc r=>by rw[bH (ik c b r)];exact r) λc xs r=>by rw[bH (xu c xs r)];exact r
   rcases hc with rfl | hc
   ·exact hbe
   ·rintro rfl
    rcases he with z | z
    ·exact ik c b hc z
    ·rw[hc]at z;cases z;exact hb rfl
end
structure Un(fs ex:List Addr)(H H':Hp)(h h':Heap):Prop where
 keep:∀b o,h.get? b=some o→H b=none→b∉fs→b∉ex→h'.get? b=some o
 slot:∀b o,h.get? b=some o→H b=none→b∈fs→b∉ex→∃sl,h'.get? b=some {o with slots:=sl}
 free:∀b o,h.get? b=some o→H b=none→b∉ex→H' b=none
 there:∀b o,h.get? b=some o→b∉ex→∃o',h'.get? b=some o'
 tups:∀b xs,H b=some (.tup xs)→H' b=some (.tup xs)
 xF:∀b o u,H b=some (.tZ o u)→H' b=some (.tZ o u)
 yJ:∀b ps,H b=some (.tbl ps)→∃more,H' b=some (.tbl (ps++more))
section
variable{fs fs' ex ex':List Addr}{H H1 H2:Hp}{h h1 h2 h':Heap}{a x e:Addr}{o:HO}
theorem Un.any(u:Un fs ex H H1 h h1){b:Addr}{ob:Obj}(q:h.get? b=some ob)(n:H b=none)(hx:b∉ex):∃sl,h1.get? b=some {ob with slots:=sl}:=by
 by_cases hb:b∈fs
 ·exact u.slot b ob q n hb hx
 ·exact⟨ob.slots,u.keep b ob q n hb hx⟩
theorem Un.kept(k:∀b u,h.get? b=some u→h'.get? b=some u):Un fs ex H H h h':=
 ⟨λb ob q _ _ _=>k b ob q,λb ob q _ _ _=>⟨ob.slots,k b ob q⟩,λ_ _ _ n _=>n,λb ob q _=>⟨ob,k b ob q⟩,λ_ _ q=>q,λ_ _ _ q=>q,λ_ ps q=>⟨#[],by rw[q];simp⟩⟩
theorem Un.refl:Un fs ex H H h h:=Un.kept λ_ _ q=>q
theorem Un.laid(k:∀b u,h.get? b=some u→h'.get? b=some u)(hp:h.objs.size≤a)(hn:H a=none):Un fs ex H (upd H a o) h h' where
 keep:=λb u q _ _ _=>k b u q
 slot:=λb u q _ _ _=>⟨u.slots,k b u q⟩
 free:=λb u q n _=>by rw[bH (F2 (C3 (Heap.lt_size q) hp))];exact n
 there:=λb u q _=>⟨u,k b u q⟩
 tups:=λb xs q=>by rw[bH (gC q hn)];exact q
 xF:=λb u xs q=>by rw[bH (gC q hn)];exact q
 yJ:=λb ps q=>⟨#[],by rw[bH (gC q hn),q];simp⟩
theorem Un.write(mu:ux (H x))(he:e=x∨H e=some (.own x))(k:∀b u,b≠e→h.get? b=some u→h'.get? b=some u)(heo:∃u,h'.get? e=some u):Un fs ex H (upd H x o) h h':=by
 have hx:∀b,H b=none→b≠x:=λb n z=>by subst z;rw[n]at mu;exact mu
 have hb:∀b,H b=none→b≠e:=λb n z=>by
  subst z
  rcases he with r | r
  ·exact hx b n r
  ·rw[n]at r;cases r
 have hm:∀b u,H b=some u→¬ux (some u)→b≠x:=λb u q nm z=>by subst z;rw[q]at mu;exact nm mu
 refine⟨λb u q n _ _=>k b u (hb b n) q,λb u q n _ _=>⟨u.slots,k b u (hb b n) q⟩,λb u q n _=>by rw[bH (hx b n)];exact n,λb u q _=>?_,
  λb xs q=>by rw[bH (hm b _ q λz=>z)];exact q,λb u xs q=>by rw[bH (hm b _ q λz=>z)];exact q,λb ps q=>⟨#[],by rw[bH (hm b _ q λz=>z),q];simp⟩⟩
 by_cases hbe:b=e
 ·subst hbe;exact heo
 ·exact⟨u,k b u hbe q⟩
end
def uy(h:Heap)(H:Hp):List Addr:=(K4 h.objs.size).filter λa=>(H a).isSome
def Em(h:Heap)(H:Hp):Heap:=O2 h (uy h H)
theorem Rc(h:Heap)(H:Hp):(Em h H).objs.size=h.objs.size:=PySem.W.hideAll_size _ _
theorem Uk{h:Heap}{H:Hp}{b:Addr}{o:Obj}(e:h.get? b=some o)(n:H b=none):(Em h H).get? b=some o:=
 R6 _ e λhm=>by
  have q:(H b).isSome=true:=(X8.mp hm).2
  rw[n]at q;simp at q
theorem Zf{h:Heap}{H:Hp}{b:Addr}{o:Obj}(e:(Em h H).get? b=some o):h.get? b=some o∧H b=none:=by
 have e':h.get? b=some o:=S1 (uy h H) e
 refine⟨e',?_⟩
 cases q:H b with
 | none=>rfl
 | some x=>
  have hm:b∈uy h H:=X8.mpr ⟨N1.mpr (Heap.lt_size e'),by simp[q]⟩
  have z:(Em h H).get? b=none:=Q8 (uy h H) hm
  rw[z]at e;cases e
def Zg(g h:Heap)(L:Addr):List (Addr×Obj):=(K4 h.objs.size).filterMap λa=>if a=L∨(g.get? a).isSome=true then none else(h.get? a).map λo=>(a,o)
def rest(g h:Heap)(L d:Addr):List (Addr×Obj):=(Zg g h L).filter λp=>decide (p.1≠d)
end L2
namespace L2
open PySem PySem.Spec PyProof.Rows
structure Mod(K:aA)(mg:Str→Option Value)(base:Heap):Prop where
 il:K.In base
 glob:base.Ns mainGlobals mg
 blt:∃mb,base.Ns builtinsNs mb∧∀x:Str,x ≠ "__name__" → mb x=bootBuiltins x
 nolimit:base.NoLimit
structure Cx where
 prog:Program
 w:World
 K:aA
 mg:Str→Option Value
 base:Heap
 A:Around
 N:List Str
 s₀:Shared
 H₀:Hp
 env:Env
 outer:List Env
 stack:List Env
 ex:List Addr
 fn:Str→Bool
 calm:Bool
 pn:List (Addr×Obj)
 xe:Value→Shared→Prop
def frs(l:List Env):List Addr:=l.filterMap (·.frame)
abbrev Cx.fs(X:Cx):List Addr:=frs X.outer
def uz(sc:Scope)(x:Str):Prop:=sc.names.lookup x=some .local∨sc.names.lookup x=some .cell∨sc.names.lookup x=some .free
def Loc(sc:Scope)(x:Str):Prop:=sc.names.lookup x=some .local∨sc.names.lookup x=some .cell
def Look(env:Env)(h:Heap)(m:Str→Option Value)(x:Str)(u:Value):Prop:=
 (env.kindOf x=some .local∧m x=some u)∨((env.kindOf x=some .cell∨env.kindOf x=some .free)∧∃c,env.cells.lookup x=some c∧h.IsCell c (some u))
structure Cx.Ok(X:Cx):Prop where
 mod:Mod X.K X.mg X.base
 kind:X.env.scope.kind=.function
 glob:X.env.globals=mainGlobals
 blt:X.env.builtins=builtinsNs
 above:X.s₀.heap.objs.size≤X.env.locals
 inj:∀x y c,X.env.cells.lookup x=some c→X.env.cells.lookup y=some c→x=y
 has:∀x,(X.env.kindOf x=some .cell∨X.env.kindOf x=some .free)→∃c,X.env.cells.lookup x=some c
 cab:∀x c,X.fn x=true→X.env.cells.lookup x=some c→X.s₀.heap.objs.size≤c
 hd:X.calm=true→X.A.handled=none
 frames:X.A.frames=some X.stack
 LC:X.stack=X.outer∨(X.stack=X.env::X.outer∧X.env.frame=some X.env.locals)
 dw:∀b∈X.ex,b≠X.env.locals∧∀x c,X.env.cells.lookup x=some c→c≠b
 bs:∀b o,X.base.get? b=some o→X.s₀.heap.get? b=some o∧X.H₀ b=none
 Uc:X.base.objs.size≤X.s₀.heap.objs.size
 En:∀b o,X.base.get? b=some o→b∉X.ex
 Hx:∀b∈X.ex,b∉X.fs
 rR:X.s₀.heap.FunFrames X.base X.outer
 Yz:∀b∈X.fs,X.H₀ b=none
structure Inv(X:Cx)(pins:List (Addr×Obj))(σ:List (Option V))(H:Hp)(s:Shared):Prop where
 ok:X.Ok
 os:s.os=X.s₀.os
 bare:AllBare s.gens
 base:Un X.fs X.ex X.H₀ H X.s₀.heap s.heap
 loc:∃m,s.heap.Ns X.env.locals m∧∀(i:Nat)(x:Str)(v:V),X.N[i]?=some x→σ[i]?=some (some v)→uz X.env.scope x→∃u,RelV v u∧Look X.env s.heap m x u
 cell:∀x c,X.env.cells.lookup x=some c→∃v,s.heap.IsCell c v
 free:H X.env.locals=none
 lF:∀x c,X.env.cells.lookup x=some c→H c=none
 pin:∀p∈X.pn++pins,s.heap.get? p.1=some p.2∧H p.1=none∧p.1≠X.env.locals∧p.1∉X.fs∧∀v,p.2.data≠.cell v
 hok:rQ X.prog X.w H s.heap
 len:σ.length=X.N.length
section
variable{X:Cx}{pins:List (Addr×Obj)}{σ:List (Option V)}{H H':Hp}{s:Shared}{h':Heap}
theorem Cx.Ok.xx(ok:X.Ok){b:Addr}{o:Obj}(e:X.base.get? b=some o):b∉X.fs:=λhb=>by
 have:=(ok.rR.mem hb).1
 rw[e]at this;cases this
theorem Inv.bs(I:Inv X pins σ H s):∀b o,X.base.get? b=some o→s.heap.get? b=some o∧H b=none:=λb o e=>
 ⟨I.base.keep b o (I.ok.bs b o e).1 (I.ok.bs b o e).2 (I.ok.xx e) (I.ok.En b o e),I.base.free b o (I.ok.bs b o e).1 (I.ok.bs b o e).2 (I.ok.En b o e)⟩
theorem Inv.bk(I:Inv X pins σ H s):∀b o,X.base.get? b=some o→s.heap.get? b=some o:=λb o e=>(I.bs b o e).1
theorem Inv.mod(I:Inv X pins σ H s):Mod X.K X.mg X.base:=I.ok.mod
theorem Inv.uA(I:Inv X pins σ H s):X.K.In s.heap:=I.ok.mod.il.keeps I.bk
theorem Inv.lt(I:Inv X pins σ H s):X.env.locals<s.heap.objs.size:=let ⟨_,hn,_⟩:=I.loc;hn.lt
theorem Inv.sz(I:Inv X pins σ H s):X.s₀.heap.objs.size≤s.heap.objs.size:=F0 I.ok.above (V5 I.lt)
theorem Inv.QH(I:Inv X pins σ H s){a:Addr}(h:s.heap.objs.size≤a):a∉X.fs:=λhb=>by
 obtain⟨_,o,ho,_⟩:=I.ok.rR.mem hb
 exact absurd (C3 (Heap.lt_size ho) (F0 I.sz h)) (G3 _)
theorem Inv.Oc(I:Inv X pins σ H s):∀x c,X.env.cells.lookup x=some c→c≠X.env.locals:=λx c e z=>by
 obtain⟨v,o,ho,hd⟩:=I.cell x c e
 obtain⟨m,⟨o',es,ep,ho',hd',_⟩,_⟩:=I.loc
 rw[z,ho']at ho;cases ho;rw[hd']at hd;cases hd
theorem Inv.rR(I:Inv X pins σ H s):s.heap.FunFrames X.base X.outer:=by
 have all:∀(l:List Env),(∀b∈frs l,b∈X.fs)→X.s₀.heap.FunFrames X.base l→s.heap.FunFrames X.base l:=by
  intro l
  induction l with
  | nil=>intro _ _;trivial
  | cons env r ih=>
   intro hs hl
   obtain⟨hk,⟨L,o,hf,hn,ho,hd⟩,hr⟩:=hl
   have hL:L∈X.fs:=hs L (by unfold frs;rw[K1,hf];exact D1)
   obtain⟨sl,e⟩:=I.base.slot L o ho (I.ok.Yz L hL) hL λz=>I.ok.Hx L z hL
   exact⟨hk,⟨L,_,hf,hn,e,hd⟩,ih (λb hb=>hs b (by unfold frs;rw[K1,hf];exact C5 _ hb)) hr⟩
 exact all X.outer (λ_ hb=>hb) I.ok.rR
theorem Inv.stack(I:Inv X pins σ H s):s.heap.FunFrames X.base X.stack:=by
 rcases I.ok.LC with e | ⟨e,hf⟩
 ·rw[e];exact I.rR
 ·rw[e]
  obtain⟨m,hn,_⟩:=I.loc
  refine .cons (by rw[I.ok.kind];decide) hf hn ?_ I.rR
  exact Heap.get?_none_of_le (F0 I.ok.Uc I.ok.above)
theorem Inv.sW(I:Inv X pins σ H s):∀b∈frs X.stack,b∈X.env.locals::X.fs:=λb hb=>by
 rcases I.ok.LC with e | ⟨e,hf⟩
 ·rw[e]at hb;exact C5 _ hb
 ·rw[e]at hb
  unfold frs at hb
  rw[K1,hf]at hb
  exact hb
theorem Inv.Eo(I:Inv X pins σ H s):∀b∈frs X.stack,H b=none:=λb hb=>by
 rcases G2.mp (I.sW b hb)with e | hb
 ·rw[e];exact I.free
 ·obtain⟨_,o,ho,_⟩:=I.ok.rR.mem hb
  exact I.base.free b o ho (I.ok.Yz b hb) λz=>I.ok.Hx b z hb
theorem Inv.step{g':Array GenState}{t':Nat}{d':Drawn}{ch:List Addr}(I:Inv X pins σ H s)
  (hch:∀b∈ch,(b∈X.ex∨X.s₀.heap.objs.size≤b)∧b≠X.env.locals∧(∀x c,X.env.cells.lookup x=some c→c≠b)∧∀p∈X.pn++pins,p.1≠b)
  (keep:∀b o,b≠X.env.locals→b∉X.fs→b∉ch→s.heap.get? b=some o→H b=none→h'.get? b=some o)
  (slot:∀b o,b≠X.env.locals→b∈X.fs→b∉ch→s.heap.get? b=some o→H b=none→∃sl,h'.get? b=some {o with slots:=sl}) (free:∀b o,b∉ch→s.heap.get? b=some o→H b=none→H' b=none)
  (there:∀b o,b∉ch→s.heap.get? b=some o→∃o',h'.get? b=some o')
  (tups:∀b xs,H b=some (.tup xs)→H' b=some (.tup xs)) (xF:∀b o u,H b=some (.tZ o u)→H' b=some (.tZ o u)) (yJ:∀b ps,H b=some (.tbl ps)→∃more,H' b=some (.tbl (ps++more)))
  (ns:∀m,s.heap.Ns X.env.locals m→h'.Ns X.env.locals m) (hok:rQ X.prog X.w H' h') (hg:AllBare g') :
  Inv X pins σ H' {s with heap:=h',gens:=g',drawn:=d',toks:=t'}:=by
 have vd:∀b o,X.s₀.heap.get? b=some o→b≠X.env.locals:=λb o e=>F2 (C3 (Heap.lt_size e) I.ok.above)
 have dz:∀b o,X.s₀.heap.get? b=some o→b∉X.ex→b∉ch:=λb o e hx hb=>by
  rcases(hch b hb).1 with z | z
  ·exact hx z
  ·exact absurd (C3 (Heap.lt_size e) z) (G3 _)
 have cellK:∀x c,X.env.cells.lookup x=some c→∀v,s.heap.IsCell c v→h'.IsCell c v:=λx c e v ⟨o,ho,hd⟩=>by
  have ir:c∉ch:=λz=>(hch c z).2.2.1 x c e rfl
  by_cases hc:c∈X.fs
  ·obtain⟨sl,q⟩:=slot c o (I.Oc x c e) hc ir ho (I.lF x c e)
   exact⟨_,q,hd⟩
  ·exact⟨o,keep c o (I.Oc x c e) hc ir ho (I.lF x c e),hd⟩
 refine⟨I.ok,I.os,hg,⟨λb o e n hb hx=>?_,λb o e n hb hx=>?_,λb o e n hx=>?_,λb o e hx=>?_,λb xs e=>tups b xs (I.base.tups b xs e),λb o xs e=>xF b o xs (I.base.xF b o xs e),λb ps e=>?_⟩,?_,λx c e=>?_,?_,λx c e=>?_,λp hp=>?_,hok,I.len⟩
 ·exact keep b o (vd b o e) hb (dz b o e hx) (I.base.keep b o e n hb hx) (I.base.free b o e n hx)
 ·obtain⟨sl,e1⟩:=I.base.slot b o e n hb hx
  obtain⟨sl',e2⟩:=slot b _ (vd b o e) hb (dz b o e hx) e1 (I.base.free b o e n hx)
  exact⟨sl',e2⟩
 ·obtain⟨o',e1⟩:=I.base.there b o e hx
  exact free b o' (dz b o e hx) e1 (I.base.free b o e n hx)
 ·obtain⟨o',e1⟩:=I.base.there b o e hx
  exact there b o' (dz b o e hx) e1
 ·obtain⟨m1,e1⟩:=I.base.yJ b ps e
  obtain⟨m2,e2⟩:=yJ b _ e1
  exact⟨m1++m2,by rw[e2,Array.append_assoc]⟩
 ·obtain⟨m,hn,hl⟩:=I.loc
  refine⟨m,ns m hn,λi x v e1 e2 e3=>?_⟩
  obtain⟨u,r,l⟩:=hl i x v e1 e2 e3
  refine⟨u,r,?_⟩
  rcases l with l | ⟨k,c,e,z⟩
  ·exact .inl l
  ·exact .inr ⟨k,c,e,cellK x c e _ z⟩
 ·obtain⟨v,z⟩:=I.cell x c e
  exact⟨v,cellK x c e v z⟩
 ·obtain⟨m,⟨o,_,_,ho,_⟩,_⟩:=I.loc
  exact free _ o (λz=>(hch _ z).2.1 rfl) ho I.free
 ·obtain⟨v,o,ho,hd⟩:=I.cell x c e
  exact free c o (λz=>(hch c z).2.2.1 x c e rfl) ho (I.lF x c e)
 ·obtain⟨e,n,ne,nf,d⟩:=I.pin p hp
  have ir:p.1∉ch:=λz=>(hch p.1 z).2.2.2 p hp rfl
  exact⟨keep p.1 p.2 ne nf ir e n,free p.1 p.2 ir e n,ne,nf,d⟩
theorem Inv.un{t':Nat}(I:Inv X pins σ H s)(u:Un X.fs [] H H' s.heap h')(hok:rQ X.prog X.w H' h'):Inv X pins σ H' {s with heap:=h',toks:=t'}:=by
 obtain⟨m,⟨o,es,ep,ho,r⟩,_⟩:=id I.loc
 obtain⟨sl,hL⟩:=u.any ho I.free (by simp)
 exact I.step (g':=s.gens) (d':=s.drawn) (ch:=[]) (λ_ z=>nomatch z) (λb o _ hb _ e n=>u.keep b o e n hb (by simp)) (λb o _ hb _ e n=>u.slot b o e n hb (by simp)) (λb o _ e n=>u.free b o e n (by simp)) (λb o _ e=>u.there b o e (by simp)) u.tups u.xF u.yJ (λm' hm=>by
  obtain⟨o',es',ep',ho',r'⟩:=hm
  rw[ho]at ho';cases ho'
  exact⟨_,es',ep',hL,r'⟩) hok I.bare
theorem Inv.call{g':Array GenState}{t':Nat}{d':Drawn}{ch:List Addr}(I:Inv X pins σ H s)(u:Un (frs X.stack) ch H H' s.heap h')(hok:rQ X.prog X.w H' h')(hg:AllBare g')
  (hch:∀b∈ch,(b∈X.ex∨X.s₀.heap.objs.size≤b)∧b≠X.env.locals∧(∀x c,X.env.cells.lookup x=some c→c≠b)∧∀p∈X.pn++pins,p.1≠b) :
  Inv X pins σ H' {s with heap:=h',gens:=g',drawn:=d',toks:=t'}:=by
 obtain⟨m,⟨o,es,ep,ho,r⟩,_⟩:=id I.loc
 obtain⟨sl,hL⟩:=u.any ho I.free λz=>(hch _ z).2.1 rfl
 exact I.step (ch:=ch) hch (λb o hL hb hc e n=>u.keep b o e n (λz=>(G2.mp (I.sW b z)).elim hL hb) hc) (λb o _ _ hc e n=>u.any e n hc) (λb o hc e n=>u.free b o e n hc) (λb o hc e=>u.there b o e hc) u.tups u.xF u.yJ (λm' hm=>by
  obtain⟨o',es',ep',ho',r'⟩:=hm
  rw[ho]at ho';cases ho'
  exact⟨_,es',ep',hL,r'⟩) hok hg
theorem Inv.turned{t':Nat}{it:Addr}(I:Inv X pins σ H s)(k:∀b o,b≠it→s.heap.get? b=some o→h'.get? b=some o)(hn:H it=none)(hL:it≠X.env.locals)
  (h1:it∈X.ex∨X.s₀.heap.objs.size≤it) (h2:∀x c,X.env.cells.lookup x=some c→c≠it) (h3:∀p∈X.pn++pins,p.1≠it):Inv X pins σ H {s with heap:=h',toks:=t'}:=by
 have nit:∀b u,H b=some u→b≠it:=λb u e z=>by rw[z,hn]at e;cases e
 refine I.step (g':=s.gens) (d':=s.drawn) (ch:=[it]) (λb hb=>?_) (λb o _ _ hc e _=>k b o (λz=>hc (by simp[z])) e) (λb o _ _ hc e _=>⟨o.slots,k b o (λz=>hc (by simp[z])) e⟩) (λ_ _ _ _ n=>n)
  (λb o hc e=>⟨o,k b o (λz=>hc (by simp[z])) e⟩) (λ_ _ e=>e) (λ_ _ _ e=>e) (λb ps e=>⟨#[],by rw[e];simp⟩) (λm hm=>?_) (λb u e=>?_) I.bare
 ·have e:b=it:=by simpa using hb
  subst e
  exact⟨h1,hL,h2,h3⟩
 ·obtain⟨o,es,ep,ho,r⟩:=hm
  exact⟨o,es,ep,k _ o (Ne.symm hL) ho,r⟩
 ·refine(I.hok b u e).stay (λc v hc q=>k c v ?_ q) (λ_ q=>q) λ_ _ q=>q
  rcases hc with z | z
  ·rw[z];exact nit b u e
  ·exact nit c _ z
theorem Inv.tok(I:Inv X pins σ H s)(t:Nat):Inv X pins σ H {s with toks:=t}:=I.un (h':=s.heap) (t':=t) Un.refl I.hok
theorem Inv.kept{t':Nat}(I:Inv X pins σ H s)(k:∀b u,s.heap.get? b=some u→h'.get? b=some u):Inv X pins σ H {s with heap:=h',toks:=t'}:=I.un (Un.kept k) (I.hok.kept k)
theorem Inv.laid{a:Addr}{o:HO}{t':Nat}(I:Inv X pins σ H s)(k:∀b u,s.heap.get? b=some u→h'.get? b=some u)(hp:s.heap.objs.size≤a)(new:gY X.prog X.w (upd H a o) h' a o) :
  Inv X pins σ (upd H a o) {s with heap:=h',toks:=t'}:=I.un (Un.laid k hp (I.hok.fresh hp)) (I.hok.laid k hp new)
theorem Inv.write{x e:Addr}{o:HO}{t':Nat}(I:Inv X pins σ H s)(mu:ux (H x))(he:e=x∨H e=some (.own x))(k:∀b u,b≠e→s.heap.get? b=some u→h'.get? b=some u)(heo:∃u,h'.get? e=some u)
  (new:gY X.prog X.w (upd H x o) h' x o):Inv X pins σ (upd H x o) {s with heap:=h',toks:=t'}:=I.un (Un.write mu he k heo) (I.hok.write mu he k heo new)
theorem Inv.weak{σ':List (Option V)}(I:Inv X pins σ H s)(hl:σ'.length=σ.length)(w:∀(i:Nat) v,σ'[i]?=some (some v)→σ[i]?=some (some v)):Inv X pins σ' H s:=
 ⟨I.ok,I.os,I.bare,I.base,let ⟨m,hn,hl'⟩:=I.loc;⟨m,hn,λi x v e1 e2 e3=>hl' i x v e1 (w i v e2) e3⟩,I.cell,I.free,I.lF,I.pin,I.hok,hl.trans I.len⟩
theorem Inv.xO{yK:List (Addr×Obj)}(I:Inv X pins σ H s)(h:∀p∈yK,s.heap.get? p.1=some p.2∧H p.1=none∧p.1≠X.env.locals∧p.1∉X.fs∧∀v,p.2.data≠.cell v):Inv X yK σ H s:=
 ⟨I.ok,I.os,I.bare,I.base,I.loc,I.cell,I.free,I.lF,λp hp=>(L8.mp hp).elim (λz=>I.pin p (I0 _ z)) (h p),I.hok,I.len⟩
theorem yL{N:List Str}(hN:N.Nodup){i j:Nat}{x:Str}(a:N[i]?=some x)(b:N[j]?=some x):i=j:=by
 obtain⟨h1,e1⟩:=C4.mp a
 obtain⟨h2,e2⟩:=C4.mp b
 exact(List.getElem_inj hN).mp (e1.trans e2.symm)
theorem Cd{M:Model}{A:Around}{E:Value→Shared→Prop}{i:Nat}{x:Str}{v:V}{u:Value}{Q:Unit→Shared→Prop}(I:Inv X pins σ H s)(hN:X.N.Nodup)(hi:X.N[i]?=some x)(hx:Loc X.env.scope x)(r:RelV v u)
  (h:∀s',Inv X pins (σ.set i (some v)) H s'→(∃a,Heap.SameBut a s.heap s'.heap∧(a=X.env.locals∨X.env.cells.lookup x=some a))→Q () s') (hf:X.fn x=true∨X.env.scope.names.lookup x=some .local:=by first | exact .inl rfl | exact .inr rfl | assumption):wpAny M A (storeName X.env x u) Q E s:=by
 obtain⟨m,hn,hl⟩:=id I.loc
 have hcls:(X.env.scope.kind==.class||(X.env.scope.kind==.module&&X.env.locals != X.env.globals))=false:=by rw[I.ok.kind];rfl
 have vf:i<σ.length:=by rw[I.len];exact(C4.mp hi).1
 have Oc:=I.Oc
 have tracked:∀{a:Addr} {h':Heap},(∃o,s.heap.get? a=some o∧H a=none)→Heap.SameBut a s.heap h'→rQ X.prog X.w H h':=λ{a h'} ha hs b ob e=>by
  obtain⟨_,_,hfree⟩:=ha
  refine(I.hok b ob e).stay (λc w' hc q=>(hs.2 c ?_).trans q) (λ_ q=>q) λ_ _ q=>q
  rintro rfl
  rcases hc with rfl | hc
  ·rw[hfree]at e;cases e
  ·rw[hfree]at hc;cases hc
 rcases hx with hk | hk
 ·refine wpAny_storeName_local hk hn (λh' hn' hs=>?_) hcls
  obtain⟨oL,_,_,hoL,_⟩:=id hn
  refine h _ ⟨I.ok,I.os,I.bare,⟨λb o e n hb hx=>?_,λb o e n hb hx=>?_,I.base.free,λb o e hx=>?_,I.base.tups,I.base.xF,I.base.yJ⟩,⟨_,hn',λj y v' e1 e2 e3=>?_⟩,λy c e=>?_,I.free,I.lF,λp hp=>?_,tracked ⟨oL,hoL,I.free⟩ hs,by simpa using I.len⟩ ⟨_,hs,.inl rfl⟩
  ·exact(hs.2 b (F2 (C3 (Heap.lt_size e) I.ok.above))).trans (I.base.keep b o e n hb hx)
  ·obtain⟨sl,e1⟩:=I.base.slot b o e n hb hx
   exact⟨sl,(hs.2 b (F2 (C3 (Heap.lt_size e) I.ok.above))).trans e1⟩
  ·obtain⟨o',e1⟩:=I.base.there b o e hx
   exact⟨o',(hs.2 b (F2 (C3 (Heap.lt_size e) I.ok.above))).trans e1⟩
  ·by_cases hj:j=i
   ·subst hj
    rw[hi]at e1;cases e1
    rw[L5 vf]at e2
    cases e2
    exact⟨u,r,.inl ⟨hk,by simp⟩⟩
   ·rw[K5 (Ne.symm hj)]at e2
    obtain⟨u',r',q⟩:=hl j y v' e1 e2 e3
    refine⟨u',r',?_⟩
    rcases q with ⟨k,e⟩ | ⟨k,c,e,z⟩
    ·refine .inl ⟨k,?_⟩
     have:y≠x:=λe=>hj (yL hN e1 (e▸hi))
     simp[this,e]
    ·exact .inr ⟨k,c,e,z.sameBut hs (Oc y c e)⟩
  ·obtain⟨w',z⟩:=I.cell y c e
   exact⟨w',z.sameBut hs (Oc y c e)⟩
  ·obtain⟨e,n,ne,nf,d⟩:=I.pin p hp
   exact⟨(hs.2 p.1 ne).trans e,n,ne,nf,d⟩
 ·have hfn:X.fn x=true:=by
   rcases hf with z | z
   ·exact z
   ·rw[z]at hk;cases hk
  obtain⟨c,hc⟩:=I.ok.has x (.inl hk)
  obtain⟨w',z⟩:=I.cell x c hc
  refine wpAny_storeName_cell I.ok.kind hk hc z (λh' hc' hs=>?_)
  obtain⟨oc,hoc,yc⟩:=id z
  refine h {s with heap:=h'} ⟨I.ok,I.os,I.bare,⟨λb o e n hb hx=>?_,λb o e n hb hx=>?_,I.base.free,λb o e hx=>?_,I.base.tups,I.base.xF,I.base.yJ⟩,⟨m,hn.sameBut hs (Ne.symm (Oc x c hc)),λj y v' e1 e2 e3=>?_⟩,λy c' e=>?_,I.free,I.lF,λp hp=>?_,tracked ⟨oc,hoc,I.lF x c hc⟩ hs,by simpa using I.len⟩ ⟨c,hs,.inr hc⟩
  ·exact(hs.2 b (F2 (C3 (Heap.lt_size e) (I.ok.cab x c hfn hc)))).trans (I.base.keep b o e n hb hx)
  ·obtain⟨sl,e1⟩:=I.base.slot b o e n hb hx
   exact⟨sl,(hs.2 b (F2 (C3 (Heap.lt_size e) (I.ok.cab x c hfn hc)))).trans e1⟩
  ·obtain⟨o',e1⟩:=I.base.there b o e hx
   exact⟨o',(hs.2 b (F2 (C3 (Heap.lt_size e) (I.ok.cab x c hfn hc)))).trans e1⟩
  ·by_cases hj:j=i
   ·subst hj
    rw[hi]at e1;cases e1
    rw[L5 vf]at e2
    cases e2
    exact⟨u,r,.inr ⟨.inl hk,c,hc,hc'⟩⟩
   ·rw[K5 (Ne.symm hj)]at e2
    obtain⟨u',r',q⟩:=hl j y v' e1 e2 e3
    refine⟨u',r',?_⟩
    rcases q with q | ⟨k,c',e,z'⟩
    ·exact .inl q
    ·refine .inr ⟨k,c',e,z'.sameBut hs ?_⟩
     rintro rfl
     exact hj (yL hN e1 (I.ok.inj _ _ _ e hc▸hi))
  ·by_cases hcc:c'=c
   ·subst hcc;exact⟨_,hc'⟩
   ·obtain⟨w2,z2⟩:=I.cell y c' e
    exact⟨w2,z2.sameBut hs hcc⟩
  ·obtain⟨e,n,ne,nf,d⟩:=I.pin p hp
   refine⟨(hs.2 p.1 ?_).trans e,n,ne,nf,d⟩
   intro q
   rw[q,hoc]at e
   have q':oc=p.2:=G1 e
   exact d w' (by rw[←q'];exact yc)
theorem uB{M:Model}{A:Around}{E:Value→Shared→Prop}{i:Nat}{x:Str}{v:V}{u:Value}{Q:Unit→Shared→Prop}(I:Inv X pins σ H s)(hN:X.N.Nodup)(hi:X.N[i]?=some x)(hx:Loc X.env.scope x)(r:RelV v u)
  (h:∀s',Inv X pins (σ.set i (some v)) H s'→Q () s') (hf:X.fn x=true∨X.env.scope.names.lookup x=some .local:=by first | exact .inl rfl | exact .inr rfl | assumption):wpAny M A (storeName X.env x u) Q E s:=
 Cd I hN hi hx r (λs' I' _=>h s' I') hf
theorem Inv.call'{s':Shared}{ch:List Addr}(I:Inv X pins σ H s)(ho:s'.os=s.os)(u:Un (frs X.stack) ch H H' s.heap s'.heap)(hok:rQ X.prog X.w H' s'.heap)(hg:AllBare s'.gens)
  (hch:∀b∈ch,(b∈X.ex∨X.s₀.heap.objs.size≤b)∧b≠X.env.locals∧(∀x c,X.env.cells.lookup x=some c→c≠b)∧∀p∈X.pn++pins,p.1≠b):Inv X pins σ H' s':=by
 obtain⟨h',g',d',t',o'⟩:=s'
 have e:o'=s.os:=ho
 subst e
 exact I.call (g':=g') (t':=t') (d':=d') u hok hg hch
end
abbrev XK:=Value→Option Addr→Hp→Prop
abbrev St:=List (Option V)
abbrev VK:=V→Hp→Prop
abbrev TE:=St→Hp→VK→Prop
abbrev TT:=St→Hp→(Bool→Hp→Prop)→Prop
abbrev TA:=St→Hp→(List V→Hp→Prop)→Prop
structure Ends where
 nx:St→Hp→Prop
 rt:VK
 bk:St→Hp→Prop:=λ_ _=>False
 ct:St→Hp→Prop:=λ_ _=>False
abbrev TS:=Ends→St→Hp→Prop
def EP(X:Cx)(pins:List (Addr×Obj))(σ:St)(Q:VK)(u:Value)(s':Shared):Prop:=∃v H',Inv X pins σ H' s'∧RelV v u∧Q v H'
def TP(X:Cx)(pins:List (Addr×Obj))(σ:St)(Q:Bool→Hp→Prop)(b:Bool)(s':Shared):Prop:=∃H',Inv X pins σ H' s'∧Q b H'
def AP(X:Cx)(pins:List (Addr×Obj))(σ:St)(Q:List V→Hp→Prop)(us:List Value)(s':Shared):Prop:=∃vs H',Inv X pins σ H' s'∧Vals vs us∧Q vs H'
def SP(X:Cx)(pins:List (Addr×Obj))(D:Ends)(f:Flow)(s':Shared):Prop:=
 match f with
 | .next=>∃σ' H',Inv X pins σ' H' s'∧D.nx σ' H'
 | .brk=>∃σ' H',Inv X pins σ' H' s'∧D.bk σ' H'
 | .cont=>∃σ' H',Inv X pins σ' H' s'∧D.ct σ' H'
 | .ret u=>∃v σ' H',Inv X pins σ' H' s'∧RelV v u∧D.rt v H'
def PE(X:Cx)(e:Expr)(t:TE):Prop:=
 ∀(pins:List (Addr×Obj))(s:Shared)(σ:St)(H:Hp)(Q:VK),Inv X pins σ H s→t σ H Q→wpAny (model X.prog X.w) X.A (eval e X.env) (EP X pins σ Q) X.xe s
def PT(X:Cx)(e:Expr)(t:TT):Prop:=
 ∀(pins:List (Addr×Obj))(s:Shared)(σ:St)(H:Hp)(Q:Bool→Hp→Prop),Inv X pins σ H s→t σ H Q→wpAny (model X.prog X.w) X.A (isTrue e X.env (eval e X.env)) (TP X pins σ Q) X.xe s
def PW(X:Cx)(e:Expr)(t:TT):Prop:=
 ∀(whole:Sem Value)(pins:List (Addr×Obj))(s:Shared)(σ:St)(H:Hp)(Q:Bool→Hp→Prop),Inv X pins σ H s→t σ H Q→wpAny (model X.prog X.w) X.A (isTrue e X.env whole) (TP X pins σ Q) X.xe s
theorem PW.pt{X:Cx}{e:Expr}{t:TT}(h:PW X e t):PT X e t:=h _
def PA(X:Cx)(es:List Expr)(t:TA):Prop:=
 ∀(pos:Pos)(pins:List (Addr×Obj))(s:Shared)(σ:St)(H:Hp)(Q:List V→Hp→Prop),Inv X pins σ H s→t σ H Q→wpAny (model X.prog X.w) X.A (spliced (backTo pos (starEach es X.env))) (AP X pins σ Q) X.xe s
def PS(X:Cx)(st:Stmt)(t:TS):Prop:=
 ∀(pins:List (Addr×Obj))(s:Shared)(σ:St)(H:Hp)(D:Ends),Inv X pins σ H s→t D σ H→wpAny (model X.prog X.w) X.A (exec st X.env) (SP X pins D) X.xe s
def Ce(X:Cx)(st:List Stmt)(t:TS):Prop:=
 ∀(pins:List (Addr×Obj))(s:Shared)(σ:St)(H:Hp)(D:Ends),Inv X pins σ H s→t D σ H→wpAny (model X.prog X.w) X.A (execs st X.env) (SP X pins D) X.xe s
theorem eY{α:Type}{t:Sem α}{Q Q':α→Shared→Prop}{M:Model}{A:Around}{E:Value→Shared→Prop}{s:Shared}(h:wpAny M A t Q E s)(hQ:∀a s,Q a s→Q' a s):wpAny M A t Q' E s:=wpAny_mono h hQ λ_ _ x=>x
end L2
namespace L2
open PySem PySem.Spec PyProof.Rows
section
variable{X:Cx}
def jF(i:Nat):TE:=λσ H Q=>∃v,σ[i]?=some (some v)∧Q v H
def tC(v:V):TE:=λ_ H Q=>Q v H
theorem QJ{i:Nat}{x:Str}{pos:Pos}(hN:X.N[i]?=some x)(hv:uz X.env.scope x)(hd:(x==("__debug__" : Str))=false:=by decide) (hcd:(x==("__classdict__" : Str))=false:=by decide):PE X (.Name x pos) (jF i):=by
  intro pins s σ H Q I h
  obtain⟨v,e,h⟩:=h
  obtain⟨m,hn,hl⟩:=I.loc
  obtain⟨u,r,l⟩:=hl i x v hN e hv
  have fin:EP X pins σ Q u s:=⟨v,H,I,r,h⟩
  rcases l with ⟨hk,hm⟩ | ⟨hk,c,hc,hcell⟩
  · exact wpAny_Name (wpAny_loadName_local I.ok.kind hk hn hm fin) hd
  · rcases hk with hk | hk
    · exact wpAny_Name (wpAny_loadName_cell I.ok.kind hk hc hcell fin) hd
    · exact wpAny_Name (wpAny_loadName_free I.ok.kind hk hc hcell fin hcd) hd
theorem QK{i j pos}:PE X (.Constant (.int i) j pos) (tC (.int i)):=λ_ _ _ H _ I h=>wpAny_Constant_int ⟨.int i,H,I.tok _,⟨_,rfl⟩,h⟩
theorem iu{b j pos}:PE X (.Constant (.bool b) j pos) (tC (.bl b)):=λ_ _ _ H _ I h=>Constant_bool ⟨.bl b,H,I,rfl,h⟩
theorem QL{j pos}:PE X (.Constant .none j pos) (tC .non):=λ_ _ _ H _ I h=>Constant_none ⟨.non,H,I,rfl,h⟩
theorem QM{x j pos}:PE X (.Constant (.str x) j pos) (tC (.str x)):=λ_ _ _ H _ I h=>Calls.Constant_str ⟨.str x,H,I.tok _,⟨_,rfl⟩,h⟩
def Gl(X:Cx)(x:Str):Prop:=X.env.kindOf x=some .globalImplicit
theorem rA{E:Value→Shared→Prop}{pins:List (Addr×Obj)}{s:Shared}{σ:St}{H:Hp}{x:Str}{u:Value}{pos:Pos}{Q:Value→Shared→Prop}(I:Inv X pins σ H s)(hg:Gl X x)(hm:X.mg x=some u)(h:Q u s)
  (hd:(x==("__debug__" : Str))=false:=by decide):wpAny (model X.prog X.w) X.A (eval (.Name x pos) X.env) Q E s:=
 Calls.Name_function_global I.ok.kind hg (Calls.loadGlobal_global (by rw[I.ok.glob];exact I.mod.glob.keeps I.bk) hm h) hd
theorem Ep{E:Value→Shared→Prop}{pins:List (Addr×Obj)}{s:Shared}{σ:St}{H:Hp}{x:Str}{u:Value}{pos:Pos}{Q:Value→Shared→Prop}(I:Inv X pins σ H s)(hg:Gl X x)(hm:X.mg x=none)(hv:bootBuiltins x=some u)(h:Q u s)
  (hn:x ≠ "__name__" := by decide) (hd:(x==("__debug__" : Str))=false:=by decide):wpAny (model X.prog X.w) X.A (eval (.Name x pos) X.env) Q E s:=by
 obtain⟨mb,h1,h2⟩:=I.mod.blt
 exact Calls.Name_function_global I.ok.kind hg (Calls.loadGlobal_builtin (by rw[I.ok.glob];exact I.mod.glob.keeps I.bk) hm (by rw[I.ok.blt];exact h1.keeps I.bk) ((h2 x hn).trans hv) h) hd
theorem gP{x:Str}{v:V}{u:Value}{pos:Pos}(hg:Gl X x)(hm:X.mg x=some u)(r:RelV v u)(hd:(x==("__debug__" : Str))=false:=by decide):PE X (.Name x pos) (tC v):=
 λ_ _ _ H _ I h=>rA I hg hm ⟨v,H,I,r,h⟩ hd
theorem gQ{x:Str}{v:V}{u:Value}{pos:Pos}(hg:Gl X x)(hm:X.mg x=none)(hv:bootBuiltins x=some u)(r:RelV v u)(hn:x ≠ "__name__" := by decide) (hd:(x==("__debug__" : Str))=false:=by decide):PE X (.Name x pos) (tC v):=
 λ_ _ _ H _ I h=>Ep I hg hm hv ⟨v,H,I,r,h⟩ hn hd
variable{a b:Expr}{ta tb:TE}{pos:Pos}
def tB(t:TE):TT:=λσ H Q=>t σ H λx H1=>∃c,x=.bl c∧Q c H1
theorem QQ{e:Expr}{t:TE}(h:PE X e t)(he:∀whole,isTrue e X.env whole=(do let v ←whole;standAt e.pos;holding [v] (truthy v)):=by intro _;rfl):PT X e (tB t):=by
 intro pins s σ H Q I hw
 refine isTrue_plain (eY (h pins s σ H _ I hw) λv s1 ⟨x,H1,I1,r1,q1⟩=>?_) (he _)
 obtain⟨d,rfl,q⟩:=q1
 cases r1
 exact wpAny_truthy_bool ⟨H1,I1,q⟩
variable{tA vg:TT}{rest:List Expr}
def QR(t u:TT):TT:=λσ H Q=>t σ H λc H1=>if c=true then u σ H1 Q else Q false H1
def yd(t u:TT):TT:=λσ H Q=>t σ H λc H1=>if c=true then Q true H1 else u σ H1 Q
def QS(t:TT):TT:=λσ H Q=>t σ H λc H1=>Q (!c) H1
theorem Zh(ha:PT X a tA):PW X (.BoolOp .And [a] pos) tA:=by
 intro wh pins s σ H Q I h
 refine isTrue_and (eY (ha pins s σ H Q I h) λc s1 e=>?_)
 cases c with
 | true=>exact isTrue_and_nil e
 | false=>exact e
theorem QT(ha:PT X a tA):PW X (.BoolOp .Or [a] pos) tA:=by
 intro wh pins s σ H Q I h
 refine isTrue_or (eY (ha pins s σ H Q I h) λc s1 e=>?_)
 cases c with
 | false=>exact isTrue_or_nil e
 | true=>exact e
theorem QV(ha:PT X a tA)(hb:PW X (.BoolOp .And (b::rest) pos) vg):PW X (.BoolOp .And (a::b::rest) pos) (QR tA vg):=by
 intro wh pins s σ H Q I h
 refine isTrue_and (eY (ha pins s σ H _ I h) λc s1 ⟨H1,I1,q1⟩=>?_)
 cases c with
 | true=>exact hb wh pins s1 σ H1 Q I1 q1
 | false=>exact⟨H1,I1,q1⟩
theorem iw(ha:PT X a tA)(hb:PW X (.BoolOp .Or (b::rest) pos) vg):PW X (.BoolOp .Or (a::b::rest) pos) (yd tA vg):=by
 intro wh pins s σ H Q I h
 refine isTrue_or (eY (ha pins s σ H _ I h) λc s1 ⟨H1,I1,q1⟩=>?_)
 cases c with
 | true=>exact⟨H1,I1,q1⟩
 | false=>exact hb wh pins s1 σ H1 Q I1 q1
theorem QW(ha:PT X a tA):PT X (.UnaryOp .Not a pos) (QS tA):=by
 intro pins s σ H Q I h
 exact isTrue_not (ha pins s σ H (λc H1=>Q (!c) H1) I h)
def LK(ta tb:TE):TE:=λσ H Q=>ta σ H λx H1=>∃c,x=.bl c∧if c=true then tb σ H1 Q else Q (.bl false) H1
def iy(ta tb:TE):TE:=λσ H Q=>ta σ H λx H1=>∃c,x=.bl c∧if c=true then Q (.bl true) H1 else tb σ H1 Q
def LQ(ta:TE):TE:=λσ H Q=>ta σ H λx H1=>∃c,x=.bl c∧Q (.bl (!c)) H1
theorem QX{op}{t:TE}(h:PE X a t):PE X (.BoolOp op [a] pos) t:=λpins s σ H Q I hw=>BoolOp_one (h pins s σ H Q I hw)
theorem QZ(ha:PE X a ta)(hb:PE X (.BoolOp .And (b::rest) pos) tb):PE X (.BoolOp .And (a::b::rest) pos) (LK ta tb):=by
 intro pins s σ H Q I h
 refine BoolOp_and (eY (ha pins s σ H _ I h) λv s1 ⟨x,H1,I1,r1,q1⟩=>?_)
 obtain⟨c,rfl,q1⟩:=q1
 cases r1
 refine wpAny_truthy_bool ?_
 cases c with
 | true=>exact hb pins s1 σ H1 Q I1 q1
 | false=>exact⟨.bl false,H1,I1,rfl,q1⟩
theorem iz(ha:PE X a ta)(hb:PE X (.BoolOp .Or (b::rest) pos) tb):PE X (.BoolOp .Or (a::b::rest) pos) (iy ta tb):=by
 intro pins s σ H Q I h
 refine BoolOp_or (eY (ha pins s σ H _ I h) λv s1 ⟨x,H1,I1,r1,q1⟩=>?_)
 obtain⟨c,rfl,q1⟩:=q1
 cases r1
 refine wpAny_truthy_bool ?_
 cases c with
 | false=>exact hb pins s1 σ H1 Q I1 q1
 | true=>exact⟨.bl true,H1,I1,rfl,q1⟩
theorem RB(ha:PE X a ta):PE X (.UnaryOp .Not a pos) (LQ ta):=by
 intro pins s σ H Q I h
 refine UnaryOp_ (eY (ha pins s σ H _ I h) λv s1 ⟨x,H1,I1,r1,q1⟩=>?_)
 obtain⟨c,rfl,q1⟩:=q1
 cases r1
 exact not_of (wpAny_truthy_bool ⟨.bl (!c),H1,I1,rfl,q1⟩)
def tIf(t:TT)(ta tb:TE):TE:=λσ H Q=>t σ H λc H1=>if c=true then ta σ H1 Q else tb σ H1 Q
theorem Ul{c:Expr}(hc:PT X c tA)(ha:PE X a ta)(hb:PE X b tb):PE X (.IfExp c a b pos) (tIf tA ta tb):=by
 intro pins s σ H Q I h
 refine wpAny_IfExp (eY (hc pins s σ H _ I h) λd s1 ⟨H1,I1,q1⟩=>?_)
 cases d with
 | true=>exact ha pins s1 σ H1 Q I1 q1
 | false=>exact hb pins s1 σ H1 Q I1 q1
end
end L2
namespace L2
open PySem PySem.Spec PyProof.Rows
def mC(K:aA)(H:Hp)(a:Addr)(xs:List V):Prop:=
 Rd H a (.lst xs) ∨
  ∃(o:Obj)(its:Array Value)(n:Nat),K.lookup a=some o∧o.cls=.type "list" ∧ o.dict=none∧o.data=.seq its n∧its.size≤sizeLine∧Vals xs its.toList
def pI(K:aA)(H:Hp)(a:Addr)(xs:List V):Prop:=
 Rd H a (.tup xs) ∨
  ∃(o:Obj)(its:Array Value)(n:Nat),K.lookup a=some o∧o.cls=.type "tuple" ∧ o.data=.seq its n∧its.size≤sizeLine∧Vals xs its.toList
def ye:Value→Option V
 | .none=>some .non
 | .bool b=>some (.bl b)
 | .int i _=>some (.int i)
 | .str x _=>some (.str x)
 | .bytes b _=>some (.byt b)
 | .float b _=>some (.flt b)
 | .ref a=>some (.ref a)
 | .type n=>some (.ty n)
 | _=>none
theorem RelV.abs{x:V}{u:Value}(r:RelV x u):ye u=some x:=by
 cases x with
 | non=>cases r;rfl
 | bl _=>cases r;rfl
 | int _=>obtain⟨t,rfl⟩:=r;rfl
 | str _=>obtain⟨t,rfl⟩:=r;rfl
 | byt _=>obtain⟨t,rfl⟩:=r;rfl
 | flt _=>obtain⟨t,rfl⟩:=r;rfl
 | ref _=>cases r;rfl
 | ty _=>cases r;rfl
theorem RelV.inj{x y:V}{u:Value}(r:RelV x u)(q:RelV y u):x=y:=G1 (r.abs.symm.trans q.abs)
theorem Vals.inj:∀{xs ys:List V} {us:List Value},Vals xs us→Vals ys us→xs=ys
 | _,_,_,.nil,.nil=>rfl
 | _,_,_,.cons r t,.cons r' t'=>by rw[r.inj r',Vals.inj t t']
section
variable{X:Cx}{pins:List (Addr×Obj)}{σ:St}{H:Hp}{s:Shared}{a:Addr}{xs ys:List V}
theorem mC.of{K:aA}(h:H a=some (.lst xs)):mC K H a xs:=.inl (.inl h)
theorem pI.of{K:aA}(h:H a=some (.tup xs)):pI K H a xs:=.inl (.inl h)
theorem Inv.list(I:Inv X pins σ H s)(h:mC X.K H a xs):∃its:List Value,Vals xs its∧PlainL s.heap a its.toArray∧xs.length≤sizeLine:=by
 rcases h with h | ⟨o,its,n,hk,hc,hd,hs,hz,r⟩
 ·obtain⟨z,its,n,r,e⟩:=h.ok I.hok
  exact⟨its,r,⟨_,n,e,rfl,rfl,rfl⟩,z⟩
 ·refine⟨its.toList,r,⟨o,n,I.uA a o hk,hc,hd,by simpa using hs⟩,?_⟩
  have e:=r.length
  simp only[K8]at e
  omega
theorem Inv.tuple(I:Inv X pins σ H s)(h:pI X.K H a xs):∃its:List Value,Vals xs its∧IsTup s.heap a its.toArray∧xs.length≤sizeLine:=by
 rcases h with h | ⟨o,its,n,hk,hc,hs,hz,r⟩
 ·obtain⟨z,its,r,p⟩:=h.ok I.hok
  exact⟨its,r,p,z⟩
 ·refine⟨its.toList,r,⟨o,I.uA a o hk,hc,n,by simpa using hs⟩,?_⟩
  have e:=r.length
  simp only[K8]at e
  omega
theorem Inv.Hy(I:Inv X pins σ H s)(h:mC X.K H a xs)(h':mC X.K H a ys):xs=ys:=by
 obtain⟨its,r,⟨o,n,e,_,_,d⟩,_⟩:=I.list h
 obtain⟨its',r',⟨o',n',e',_,_,d'⟩,_⟩:=I.list h'
 rw[e]at e';cases e'
 rw[d]at d'
 injection d' with d1 _
 have:its=its':=by simpa using congrArg Z5 d1
 subst this
 exact r.inj r'
theorem Inv.Cg(I:Inv X pins σ H s)(h:pI X.K H a xs)(h':pI X.K H a ys):xs=ys:=by
 obtain⟨its,r,⟨o,e,_,n,d⟩,_⟩:=I.tuple h
 obtain⟨its',r',⟨o',e',_,n',d'⟩,_⟩:=I.tuple h'
 rw[e]at e';cases e'
 rw[d]at d'
 injection d' with d1 _
 have:its=its':=by simpa using congrArg Z5 d1
 subst this
 exact r.inj r'
end
abbrev Cx.wish(X:Cx)(E:Value→Shared→Prop):Cx:={X with xe:=E}
abbrev Cx.RC(X:Cx):Cx:=X.wish λ_ _=>False
theorem Cx.Ok.wish{X:Cx}(ok:X.Ok)(E:Value→Shared→Prop):(X.wish E).Ok:=
 ⟨ok.mod,ok.kind,ok.glob,ok.blt,ok.above,ok.inj,ok.has,ok.cab,ok.hd,ok.frames,ok.LC,ok.dw,ok.bs,ok.Uc,ok.En,ok.Hx,ok.rR,ok.Yz⟩
theorem Cx.Ok.oK{X:Cx}{E:Value→Shared→Prop}(ok:(X.wish E).Ok):X.Ok:=
 ⟨ok.mod,ok.kind,ok.glob,ok.blt,ok.above,ok.inj,ok.has,ok.cab,ok.hd,ok.frames,ok.LC,ok.dw,ok.bs,ok.Uc,ok.En,ok.Hx,ok.rR,ok.Yz⟩
section
variable{X:Cx}{pins:List (Addr×Obj)}{σ:St}{H:Hp}{s:Shared}{E:Value→Shared→Prop}
theorem Inv.wish(I:Inv X pins σ H s)(E:Value→Shared→Prop):Inv (X.wish E) pins σ H s:=⟨I.ok.wish E,I.os,I.bare,I.base,I.loc,I.cell,I.free,I.lF,I.pin,I.hok,I.len⟩
theorem Inv.oK(I:Inv (X.wish E) pins σ H s):Inv X pins σ H s:=⟨I.ok.oK,I.os,I.bare,I.base,I.loc,I.cell,I.free,I.lF,I.pin,I.hok,I.len⟩
theorem SP.oK{D:Ends}{f:Flow}{s':Shared}(h:SP (X.wish E) pins D f s'):SP X pins D f s':=by
 cases f with
 | next=>obtain⟨σ',H',I,q⟩:=h;exact⟨σ',H',I.oK,q⟩
 | brk=>obtain⟨σ',H',I,q⟩:=h;exact⟨σ',H',I.oK,q⟩
 | cont=>obtain⟨σ',H',I,q⟩:=h;exact⟨σ',H',I.oK,q⟩
 | ret u=>obtain⟨v,σ',H',I,r,q⟩:=h;exact⟨v,σ',H',I.oK,r,q⟩
theorem Ce.RC{st:List Stmt}{t:TS}(h:Ce X.RC st t):Ce X st t:=λpins s σ H D I hw=>
 wpAny_mono (h pins s σ H D (I.wish _) hw) (λ_ _ q=>q.oK) λ_ _ z=>False.elim z
end
section
variable{X:Cx}{st:Stmt}{rest:List Stmt}{t u:TS}{e:Expr}{te:TE}{pos:Pos}
def Hz:TS:=λD σ H=>D.nx σ H
def Rf(t u:TS):TS:=λD σ H=>t {D with nx:=u D} σ H
theorem Od:Ce X [] Hz:=λ_ _ σ H _ I h=>wpAny_execs_nil ⟨σ,H,I,h⟩
theorem uC(h1:PS X st t)(h2:Ce X rest u):Ce X (st::rest) (Rf t u):=by
 intro pins s σ H D I h
 refine wpAny_execs_cons (eY (h1 pins s σ H {D with nx:=u D} I h) λf s1 q=>?_)
 cases f with
 | next=>
  obtain⟨σ',H',I',q⟩:=q
  exact h2 pins s1 σ' H' D I' q
 | ret v=>exact q
 | brk=>exact q
 | cont=>exact q
theorem xP(h1:PS X st t):Ce X [st] t:=by
 intro pins s σ H D I h
 refine wpAny_execs_cons (eY (h1 pins s σ H D I h) λf s1 q=>?_)
 cases f with
 | next=>exact wpAny_execs_nil q
 | ret v=>exact q
 | brk=>exact q
 | cont=>exact q
theorem Inv.quiet{pins:List (Addr×Obj)}{σ:St}{H:Hp}{s:Shared}(I:Inv X pins σ H s):interactive X.env=false:=by simp[interactive,I.ok.kind]
def nM(te:TE):TS:=λD σ H=>te σ H λ_ H1=>D.nx σ H1
theorem oM(he:PE X e te)(hs:swapsWith e none pos.line X.env=pure false:=by rfl):PS X (.Expr e pos) (nM te):=by
 intro pins s σ H D I h
 exact wpAny_Expr_any (eY (he pins s σ H _ I h) λv s1 ⟨x,H1,I1,r1,q1⟩=>⟨σ,H1,I1,q1⟩) I.quiet hs
def Kw(te:TE):TS:=λD σ H=>te σ H D.rt
theorem Ky(he:PE X e te):PS X (.Return (some e) pos) (Kw te):=by
 intro pins s σ H D I h
 exact wpAny_Return_some (eY (he pins s σ H _ I h) λv s1 ⟨x,H1,I1,r1,q1⟩=>⟨x,σ,H1,I1,r1,q1⟩)
def Rg(c:TT)(t u:TS):TS:=λD σ H=>c σ H λb H1=>if b=true then t D σ H1 else u D σ H1
theorem Um{c:Expr}{a b:List Stmt}{tc:TT}(hc:PT X c tc)(ha:Ce X a t)(hb:Ce X b u):PS X (.If c a b pos) (Rg tc t u):=by
 intro pins s σ H D I h
 refine wpAny_If (eY (hc pins s σ H _ I h) λd s1 ⟨H1,I1,q1⟩=>?_)
 cases d with
 | true=>exact ha pins s1 σ H1 D I1 q1
 | false=>exact hb pins s1 σ H1 D I1 q1
def yM:TS:=λ_ _ _=>False
theorem Uo:PS X st yM:=λ_ _ _ _ _ _ h=>h.elim
theorem Ci{sts:List Stmt}:Ce X sts yM:=λ_ _ _ _ _ _ h=>h.elim
end
abbrev TG:=V→St→Hp→(St→Hp→Prop)→Prop
def PG(X:Cx)(target:Expr)(t:TG):Prop:=
 ∀(pins:List (Addr×Obj))(s:Shared)(σ:St)(H:Hp)(v:V)(u:Value)(Q:St→Hp→Prop),Inv X pins σ H s→RelV v u→t v σ H Q →
  wpAny (model X.prog X.w) X.A (assign target X.env u) (λ_ s'=>∃σ' H',Inv X pins σ' H' s'∧Q σ' H') X.xe s
abbrev RD:=V→V→V→Hp→(Hp→Prop)→Prop
def jb(X:Cx)(t:RD):Prop:=
 ∀(pins:List (Addr×Obj))(s:Shared)(σ:St)(H:Hp)(o i v:V)(ov iv u:Value)(Q:Hp→Prop),Inv X pins σ H s→RelV o ov→RelV i iv→RelV v u→t o i v H Q →
  wpAny (model X.prog X.w) X.A (setItem ov iv u) (λ_ s'=>∃H',Inv X pins σ H' s'∧Q H') X.xe s
section
variable{X:Cx}{pos:Pos}
def cB(i:Nat):TG:=λv σ H Q=>Q (σ.set i (some v)) H
theorem jA{i:Nat}{x:Str}(hN:X.N.Nodup)(hi:X.N[i]?=some x)(hx:Loc X.env.scope x)(hf:X.fn x=true∨X.env.scope.names.lookup x=some .local:=by first | exact .inl rfl | exact .inr rfl | assumption):PG X (.Name x pos) (cB i):=by
 intro pins s σ H v u Q I r h
 exact wpAny_assign_Name (uB I hN hi hx r (λs' I'=>⟨_,H,I',h⟩) hf)
def Zi(to ti:TE)(t:RD):TG:=λv σ H Q=>to σ H λo H1=>ti σ H1 λi H2=>t o i v H2 λH3=>Q σ H3
theorem RG{o i:Expr}{to ti:TE}{t:RD}(ho:PE X o to)(hi:PE X i ti)(hs:jb X t)
  (ha:∀v,assign (.Subscript o i pos) X.env v=(do
   let ov ←holding [v] (eval o X.env)
   let iv ←holding [v,ov] (eval i X.env)
   standAt pos
   holding [v,ov,iv] (setItem ov iv v)
   release [v,ov,iv] []):=by intro _;rfl):PG X (.Subscript o i pos) (Zi to ti t):=by
 intro pins s σ H v u Q I r h
 rw[ha]
 refine wpAny_bind (wpAny_holding (eY (ho pins s σ H _ I h) λov s1 ⟨x,H1,I1,r1,q1⟩=>?_))
 refine wpAny_bind (wpAny_holding (eY (hi pins s1 σ H1 _ I1 q1) λiv s2 ⟨y,H2,I2,r2,q2⟩=>?_))
 refine wpAny_bind (wpAny_standAt (wpAny_bind (wpAny_holding (eY (hs pins s2 σ H2 x y v ov iv u _ I2 r1 r2 r q2) λ_ s3 ⟨H3,I3,q3⟩=>?_))))
 exact wpAny_release ⟨σ,H3,I3,q3⟩
def nO(te:TE)(g:TG):TS:=λD σ H=>te σ H λx H1=>g x σ H1 D.nx
theorem RJ{tg e:Expr}{te:TE}{g:TG}(he:PE X e te)(hg:PG X tg g)(hs:swapsWithSole [tg] e pos.line X.env=pure false:=by rfl)(hw:swappedStores [tg] e X.env=pure none:=by rfl)
  (h1:(assignEach [tg] X.env).map (·.2)=[assign tg X.env]:=by rfl):PS X (.Assign [tg] e pos) (nO te g):=by
 intro pins s σ H D I h
 refine wpAny_Assign_stores (eY (he pins s σ H _ I h) λv s1 ⟨x,H1,I1,r1,q1⟩=>?_) hs hw
 rw[h1]
 exact eY (hg pins s1 σ H1 x v _ I1 r1 q1) λ_ s2 q=>q
theorem aY{i:Nat}{x:Str}{e:Expr}{te:TE}{pos':Pos}(hN:X.N.Nodup)(hi:X.N[i]?=some x)(hx:Loc X.env.scope x)(he:PE X e te)(hs:swapsWith e (some (.Name x pos')) pos.line X.env=pure false:=by rfl)(hf:X.fn x=true∨X.env.scope.names.lookup x=some .local:=by first | exact .inl rfl | exact .inr rfl | assumption) :
  PS X (.Assign [.Name x pos'] e pos) (nO te (cB i)):=by
 intro pins s σ H D I h
 refine wpAny_Assign_Name (eY (he pins s σ H _ I h) λv s1 ⟨y,H1,I1,r1,q1⟩=>?_) hs
 exact uB I1 hN hi hx r1 (λs2 I2=>⟨_,H1,I2,q1⟩) hf
end
section
variable{X:Cx}{pos:Pos}
end
structure It where
 go:Nat→Hp→Prop
 fj:Nat→Hp→V→Hp→Prop
 stop:Nat→Hp→Prop
def xG(X:Cx)(pins:List (Addr×Obj))(H:Hp)(b:Addr):Prop:=
 H b=none∧b≠X.env.locals∧b∉X.fs∧(b∈X.ex∨X.s₀.heap.objs.size≤b)∧(∀x c,X.env.cells.lookup x=some c→c≠b)∧∀p∈X.pn++pins,p.1≠b
theorem Inv.Zj{X:Cx}{pins:List (Addr×Obj)}{σ:St}{H H':Hp}{s:Shared}{b:Addr}(I:Inv X pins σ H s)(hb:s.heap.objs.size≤b)(hn:H' b=none):xG X pins H' b:=by
 refine⟨hn,N6 (C3 I.lt hb),I.QH hb,.inr (F0 I.sz hb),λx c e z=>?_,λp hp z=>?_⟩
 ·obtain⟨v,q⟩:=I.cell x c e
  exact absurd (C3 q.lt (by rw[z];exact hb)) (G3 _)
 ·exact absurd (C3 (Heap.lt_size (I.pin p hp).1) (by rw[z];exact hb)) (G3 _)
structure Turn(P:Program)(w:World)(K:aA)(tg:Expr)(J:It)(fp:List Addr)(it:Addr)(tn:Nat→Heap→Prop):Prop where
 mem:it∈fp
 obj:∀i h,tn i h→∀b∈fp,∃o,h.get? b=some o∧∀v,o.data≠.cell v
 keep:∀i h h',tn i h→(∀b∈fp,∀o,h.get? b=some o→h'.get? b=some o)→tn i h'
 item:∀(X:Cx),X.prog=P→X.w=w→X.K=K→X.calm=true→∀(i:Nat)(pins:List (Addr×Obj))(s:Shared)(σ:St)(H:Hp)(E:Value→Shared→Prop),Inv X pins σ H s→(∀b∈fp,xG X pins H b)→tn i s.heap→J.go i H →
  wpAny (model P w) X.A (pyNext (.ref it)) (λr s1=>∃u,r=some u ∧
   wpAny (model P w) X.A (letOwnedTupleGo tg (.ref it) u) (λ_ s2=>∃x H',Inv X pins σ H' s2∧RelV x u∧J.fj i H x H'∧tn (i+1) s2.heap∧∀b∈fp,H' b=none) E s1) E s
 done:∀(X:Cx),X.prog=P→X.w=w→X.K=K→X.calm=true→∀(i:Nat)(pins:List (Addr×Obj))(s:Shared)(σ:St)(H:Hp)(E:Value→Shared→Prop),Inv X pins σ H s→(∀b∈fp,xG X pins H b)→tn i s.heap→J.stop i H →
  wpAny (model P w) X.A (pyNext (.ref it)) (λr s1=>r=none∧Inv X pins σ H s1) E s
 self:∀(A:Around)(i:Nat)(s:Shared)(Q:Value→Shared→Prop)(E:Value→Shared→Prop),tn i s.heap→Q (.ref it) s→wpAny (model P w) A (pyIter (.ref it)) Q E s
abbrev TI:=St→Hp→(It→Hp→Prop)→Prop
def PIE(X:Cx)(pins:List (Addr×Obj))(σ:St)(tg:Expr)(R:It→Hp→Prop)(itv:Value)(s2:Shared):Prop:=
 ∃(it:Addr)(fp:List Addr)(tn:Nat→Heap→Prop)(J:It)(H':Hp),itv=.ref it∧Inv X pins σ H' s2∧Turn X.prog X.w X.K tg J fp it tn∧tn 0 s2.heap∧(∀b∈fp,xG X pins H' b)∧R J H'
def PI(X:Cx)(tg iter:Expr)(wi:TI):Prop:=
 ∀(pins:List (Addr×Obj))(s:Shared)(σ:St)(H:Hp)(R:It→Hp→Prop),Inv X pins σ H s→wi σ H R →
  wpAny (model X.prog X.w) X.A (eval iter X.env) (λv s1=>wpAny (model X.prog X.w) X.A (pyIter v) (PIE X pins σ tg R) X.xe s1) X.xe s
theorem Oe{M:Model}{A:Around}{E:Value→Shared→Prop}{s:Shared}{tg:Expr}{it:Addr}{u:Value}{o:Obj}{n:String}{vs:Array Value}{Q:Unit→Shared→Prop}(ho:s.heap.get? it=some o)(hc:o.cls=.type n)(hd:o.data=.fields vs)
    (hn:["enumerate", "zip", "dict_itemiterator", "dict_reverseitemiterator", "odict_iterator", "itertools.zip_longest", "itertools.pairwise"].contains n=false) (hQ:Q () s):wpAny M A (letOwnedTupleGo tg (.ref it) u) Q E s:=by
  unfold letOwnedTupleGo
  cases tg<;>first
    | exact wpAny_pure hQ
    | (cases u<;>first
        | exact wpAny_pure hQ
        | (refine wpAny_bind (wpAny_load ho ?_)
           rw[hc,hd]
           show wpAny M A (if(["enumerate", "zip", "dict_itemiterator", "dict_reverseitemiterator", "odict_iterator", "itertools.zip_longest", "itertools.pairwise"].contains n&&vs[0]?==some (rawInt _))=true then _ else _) Q E s
           rw[if_neg (by intro h;rw[hn,U5]at h;cases h)]
           exact wpAny_pure hQ))
def yf(K:aA)(a:Addr):It:=
 ⟨λi H=>∃xs x,mC K H a xs∧xs[i]?=some x,λi H x H'=>H'=H∧∀xs,mC K H a xs→xs[i]?=some x,λi H=>∃xs,mC K H a xs∧xs.length≤i⟩
def yg(K:aA)(a:Addr):It:=
 ⟨λi H=>∃xs x,pI K H a xs∧xs[i]?=some x,λi H x H'=>H'=H∧∀xs,pI K H a xs→xs[i]?=some x,λi H=>∃xs,pI K H a xs∧xs.length≤i⟩
def vh(lo:Int)(n:Nat):It:=⟨λi _=>i<n,λi H x H'=>H'=H∧x=.int (lo+i),λi _=>n≤i⟩
theorem Rh{P:Program}{w:World}{K:aA}{tg:Expr}(a it:Addr):Turn P w K tg (yf K a) [it] it (λi h=>h.IsListIter it a i) where
 mem:=by simp
 obj:=λi h st b hb=>by
  have e:b=it:=by simpa using hb
  subst e
  obtain⟨o,e,c,d⟩:=st
  exact⟨o,e,λv z=>by rw[d]at z;cases z⟩
 keep:=λi h h' st k=>st.at λo e=>k it (by simp) o e
 item:=by
  intro X hP hw hK hc i pins s σ H E I hf st hg
  subst hP hw hK
  obtain⟨xs,x,hq,hx⟩:=hg
  obtain⟨its,rv,p,hz⟩:=I.list hq
  obtain⟨u,hu,ru⟩:=rv.get hx
  obtain⟨f0,f1,f2,f3,f4,f5⟩:=hf it (by simp)
  refine wpAny_pyNext_list_item st p.isList (x:=u) (by simpa using hu) λh' st' sb=>?_
  have I1:Inv X pins σ H {s with heap:=h'}:=I.turned (t':=s.toks) (λb o hb e=>(sb.2 b hb).trans e) f0 f1 f3 f4 f5
  obtain⟨o,e,c,d⟩:=id st'
  exact⟨u,rfl,Oe (s:={s with heap:=h'}) e c d (by decide) ⟨x,H,I1,ru,⟨rfl,λys hy=>by rw[I.Hy hy hq];exact hx⟩,st',λb hb=>(hf b hb).1⟩⟩
 done:=by
  intro X hP hw hK hc i pins s σ H E I hf st hg
  subst hP hw hK
  obtain⟨xs,hq,hx⟩:=hg
  obtain⟨its,rv,p,hz⟩:=I.list hq
  obtain⟨f0,f1,f2,f3,f4,f5⟩:=hf it (by simp)
  have hl:=rv.length
  exact wpAny_pyNext_list_end (I.ok.hd hc) st p.isList (by simp;omega) λh' eb=>⟨rfl,I.turned (t':=s.toks) (λb o hb e=>eb b o hb e) f0 f1 f3 f4 f5⟩
 self:=λ_ _ _ _ _ st h=>wpAny_pyIter_listiter st h
theorem Kz{P:Program}{w:World}{K:aA}{tg:Expr}(a it:Addr):Turn P w K tg (yg K a) [it] it (λi h=>h.IsTupleIter it a i) where
 mem:=by simp
 obj:=λi h st b hb=>by
  have e:b=it:=by simpa using hb
  subst e
  obtain⟨o,e,c,d⟩:=st
  exact⟨o,e,λv z=>by rw[d]at z;cases z⟩
 keep:=λi h h' st k=>st.at λo e=>k it (by simp) o e
 item:=by
  intro X hP hw hK hc i pins s σ H E I hf st hg
  subst hP hw hK
  obtain⟨xs,x,hq,hx⟩:=hg
  obtain⟨its,rv,p,hz⟩:=I.tuple hq
  obtain⟨u,hu,ru⟩:=rv.get hx
  obtain⟨f0,f1,f2,f3,f4,f5⟩:=hf it (by simp)
  refine wpAny_pyNext_tuple_item st (show s.heap.IsTuple a its.toArray from p) (x:=u) (by simpa using hu) λh' st' sb=>?_
  have I1:Inv X pins σ H {s with heap:=h'}:=I.turned (t':=s.toks) (λb o hb e=>(sb.2 b hb).trans e) f0 f1 f3 f4 f5
  obtain⟨o,e,c,d⟩:=id st'
  exact⟨u,rfl,Oe (s:={s with heap:=h'}) e c d (by decide) ⟨x,H,I1,ru,⟨rfl,λys hy=>by rw[I.Cg hy hq];exact hx⟩,st',λb hb=>(hf b hb).1⟩⟩
 done:=by
  intro X hP hw hK hc i pins s σ H E I hf st hg
  subst hP hw hK
  obtain⟨xs,hq,hx⟩:=hg
  obtain⟨its,rv,p,hz⟩:=I.tuple hq
  obtain⟨f0,f1,f2,f3,f4,f5⟩:=hf it (by simp)
  have hl:=rv.length
  exact wpAny_pyNext_tuple_end (I.ok.hd hc) st (show s.heap.IsTuple a its.toArray from p) (by simp;omega) λh' eb=>⟨rfl,I.turned (t':=s.toks) (λb o hb e=>eb b o hb e) f0 f1 f3 f4 f5⟩
 self:=λ_ _ _ _ _ st h=>wpAny_pyIter_tupleiter st h
theorem La{P:Program}{w:World}{K:aA}{tg:Expr}(it:Addr)(lo:Int)(n:Nat):Turn P w K tg (vh lo n) [it] it (λi h=>IsRangeIter h it (lo+(i:Nat)*1) ((n:Int)-(i:Nat)) 1) where
 mem:=by simp
 obj:=λi h st b hb=>by
  have e:b=it:=by simpa using hb
  subst e
  exact⟨_,st,λv z=>by
   have z':Data.fields _=Data.cell v:=z
   cases z'⟩
 keep:=λi h h' st k=>k it (by simp) _ st
 item:=by
  intro X hP hw hK hc i pins s σ H E I hf st hg
  subst hP hw hK
  obtain⟨f0,f1,f2,f3,f4,f5⟩:=hf it (by simp)
  have W:=Walks.range (prog:=X.prog) (w:=X.w) (I.ok.hd hc) it lo 1 n
  refine W.item i s _ _ hg st λv h' tk hv st' kk=>?_
  obtain⟨t,rfl⟩:=hv
  have I1:Inv X pins σ H {s with heap:=h',toks:=tk}:=I.turned (λb o hb e=>kk b o (by simpa using hb) e) f0 f1 f3 f4 f5
  refine⟨_,rfl,Oe (s:={s with heap:=h',toks:=tk}) (n := "range_iterator") st' rfl rfl (by decide) ⟨.int (lo+i),H,I1,⟨t,?_⟩,⟨rfl,rfl⟩,st',λb hb=>(hf b hb).1⟩⟩
  rw[Int.mul_one]
 done:=by
  intro X hP hw hK hc i pins s σ H E I hf st hg
  subst hP hw hK
  obtain⟨f0,f1,f2,f3,f4,f5⟩:=hf it (by simp)
  exact wpAny_pyNext_range_end (I.ok.hd hc) st (by have:n≤i:=hg;omega) λh' eb=>⟨rfl,I.turned (t':=s.toks) (λb o hb e=>eb b o hb e) f0 f1 f3 f4 f5⟩
 self:=λ_ _ _ _ _ st h=>wpAny_pyIter_rangeiter st h
end L2
namespace L2
open PySem PySem.Spec PyProof.Rows
section
variable{X:Cx}{tg:Expr}
def LR(K:aA)(tl:TE):TI:=λσ H R=>tl σ H λx H1=>∃a,x=.ref a∧(∃xs,mC K H1 a xs)∧R (yf K a) H1
def jc(K:aA)(tl:TE):TI:=λσ H R=>tl σ H λx H1=>∃a,x=.ref a∧(∃xs,pI K H1 a xs)∧R (yg K a) H1
theorem Zk{l:Expr}{tl:TE}(hl:PE X l tl):PI X tg l (LR X.K tl):=by
 intro pins s σ H R I h
 refine eY (hl pins s σ H _ I h) λv s1 ⟨x,H1,I1,r1,q1⟩=>?_
 obtain⟨a,e,⟨xs,hq⟩,q⟩:=q1
 subst e
 cases r1
 obtain⟨its,rv,p,hz⟩:=I1.list hq
 refine wpAny_pyIter_list p.isList ?_
 refine⟨s1.heap.objs.size,[s1.heap.objs.size],_,_,H1,rfl,I1.kept (t':=s1.toks) λb o e=>Heap.get?_push_of_some _ e,Rh a _,⟨_,Heap.get?_push_size _ rfl,rfl,rfl⟩,λb hb=>?_,q⟩
 have e:b=s1.heap.objs.size:=by simpa using hb
 subst e
 exact I1.Zj (D2 _) (I1.hok.fresh (D2 _))
theorem RK{l:Expr}{tl:TE}(hl:PE X l tl):PI X tg l (jc X.K tl):=by
 intro pins s σ H R I h
 refine eY (hl pins s σ H _ I h) λv s1 ⟨x,H1,I1,r1,q1⟩=>?_
 obtain⟨a,e,⟨xs,hq⟩,q⟩:=q1
 subst e
 cases r1
 obtain⟨its,rv,p,hz⟩:=I1.tuple hq
 refine wpAny_pyIter_tuple (show s1.heap.IsTuple a its.toArray from p) ?_
 refine⟨s1.heap.objs.size,[s1.heap.objs.size],_,_,H1,rfl,I1.kept (t':=s1.toks) λb o e=>Heap.get?_push_of_some _ e,Kz a _,⟨_,Heap.get?_push_size _ rfl,rfl,rfl⟩,λb hb=>?_,q⟩
 have e:b=s1.heap.objs.size:=by simpa using hb
 subst e
 exact I1.Zj (D2 _) (I1.hok.fresh (D2 _))
theorem Up{pins:List (Addr×Obj)}{σ:St}{H:Hp}{s:Shared}{R:It→Hp→Prop}{E:Value→Shared→Prop}{lo hi:Int}{t u v:Tok}{tk:Nat}(I:Inv X pins σ H s)(h1:-(2 ^ 62)≤lo)(h2:lo<2 ^ 62)(h3:-(2 ^ 62)≤hi)(h4:hi<2 ^ 62)
  (q:R (vh lo (hi-lo).toNat) H):wpAny (model X.prog X.w) X.A (pyIter (.ref s.heap.objs.size)) (PIE X pins σ tg R) E {s with heap:=s.heap.push {cls:=.type "range", data:=.fields #[.int lo t,.int hi u,.int 1 v]},toks:=tk}:=by
 refine wpAny_pyIter_range (IsRange.new ..) (small_one h1 h2 h3 h4) ?_
 have I1:Inv X pins σ H {s with heap:=s.heap.push {cls:=.type "range", data:=.fields #[.int lo t,.int hi u,.int 1 v]},toks:=tk}:=I.kept λb o e=>Heap.get?_push_of_some _ e
 refine⟨(s.heap.push {cls:=.type "range", data:=.fields #[.int lo t,.int hi u,.int 1 v]}).objs.size,[(s.heap.push {cls:=.type "range", data:=.fields #[.int lo t,.int hi u,.int 1 v]}).objs.size],_,_,H,rfl,
  I1.kept (t':=tk) λb o e=>Heap.get?_push_of_some _ e,La _ lo (hi-lo).toNat,?_,λb hb=>?_,q⟩
 ·have e1:lo+((0:Nat):Int)*1=lo:=by simp
  have e2:(((hi-lo).toNat:Nat):Int)-((0:Nat):Int)=Builtin.Range.rangeSize lo hi 1:=by rw[rangeSize_one];split<;>omega
  show IsRangeIter _ _ (lo+((0:Nat):Int)*1) ((((hi-lo).toNat:Nat):Int)-((0:Nat):Int)) 1
  rw[e1,e2]
  exact Heap.get?_push_size _ rfl
 ·have e:b=(s.heap.push {cls:=.type "range", data:=.fields #[.int lo t,.int hi u,.int 1 v]}).objs.size:=by simpa using hb
  subst e
  exact I1.Zj (D2 _) (I1.hok.fresh (D2 _))
def Uq(ta:TA):TI:=λσ H R=>ta σ H λvs H1=>∃j:Int,vs=[.int j]∧-(2 ^ 62)≤j∧j<2 ^ 62∧R (vh 0 j.toNat) H1
theorem Cj{a:Expr}{ta:TA}{p pos:Pos}(hg:Gl X "range") (hm:X.mg "range" = none) (ha:PA X [a] ta) (hs:starEach [a] X.env=[(false,eval a X.env)]:=by rfl):PI X tg (.Call (.Name "range" p) [a] [] pos) (Uq ta):=by
 intro pins s σ H R I h
 refine Call_ (Ep I hg hm boot_range (S2 (eY (ha pos pins s σ H _ I h) λus s1 ⟨vs,H1,I1,r1,q1⟩=>?_) hs rfl))
 obtain⟨j,e,q1,q2,q⟩:=q1
 subst e
 cases r1 with
 | cons r rr=>
  cases rr
  obtain⟨t,rfl⟩:=r
  exact call_range_1 (Up I1 (by omega) (by omega) q1 q2 (by simpa using q))
def Lb(wi:TI)(g:TG)(tb:TS):TS:=λD σ H=>wi σ H λJ H1=>∃W:Nat→Nat→St→Hp→Prop,(∃m,W 0 m σ H1)∧∀i m σ H,W i m σ H →
 (J.stop i H∧D.nx σ H)∨(J.go i H∧∃N:St→Hp→Prop,(∀σ' H',N σ' H'→∃m',m'<m∧W (i+1) m' σ' H')∧∀x H',J.fj i H x H'→g x σ H' λσ2 H2=>tb {D with nx:=N,ct:=N,bk:=D.nx} σ2 H2)
def sX(fp:List Addr)(h:Heap):List (Addr×Obj):=fp.filterMap λb=>(h.get? b).map λo=>(b,o)
theorem jK{fp:List Addr}{h:Heap}{b:Addr}{o:Obj}(hb:b∈fp)(e:h.get? b=some o):(b,o)∈sX fp h:=V6.mpr ⟨b,hb,by rw[e];rfl⟩
theorem Ri{fp:List Addr}{h:Heap}{p:Addr×Obj}(hp:p∈sX fp h):p.1∈fp∧h.get? p.1=some p.2:=by
 obtain⟨b,hb,e⟩:=V6.mp hp
 cases q:h.get? b with
 | none=>rw[q]at e;cases e
 | some o=>
  rw[q]at e
  have e':(b,o)=p:=G1 e
  subst e'
  exact⟨hb,q⟩
theorem Inv.pinned{pins:List (Addr×Obj)}{σ:St}{H:Hp}{s:Shared}{fp:List Addr}(I:Inv X pins σ H s)(hf:∀b∈fp,xG X pins H b)(ho:∀b∈fp,∃o,s.heap.get? b=some o∧∀v,o.data≠.cell v):Inv X (pins++sX fp s.heap) σ H s:=
 I.xO λp hp=>(L8.mp hp).elim (λz=>I.pin p (C9 _ z)) λz=>by
  obtain⟨hb,e⟩:=Ri z
  obtain⟨f0,f1,f2,_⟩:=hf p.1 hb
  obtain⟨o,e',d⟩:=ho p.1 hb
  rw[e]at e';cases e'
  exact⟨e,f0,f1,f2,d⟩
theorem Inv.pL{pins pl:List (Addr×Obj)}{σ:St}{H:Hp}{s:Shared}(I:Inv X (pins++pl) σ H s):Inv X pins σ H s:=I.xO λp hp=>I.pin p (C9 _ (I0 _ hp))
theorem Ld{iter:Expr}{body:List Stmt}{wi:TI}{g:TG}{tb:TS}{pos:Pos}(hp:PassesOwn (model X.prog X.w) X.A X.env X.xe)(hc:X.calm=true)(hi:PI X tg iter wi)(hg:PG X tg g)(hb:Ce X body tb)
  (hs:∀x,foldedSetIterable iter X.env x=pure x:=by intro _;rfl):PS X (.For tg iter body [] pos) (Lb wi g tb):=by
 intro pins s σ H D I h
 refine wpAny_For (eY (hi pins s σ H _ I h) λv s1 h1=>eY h1 λitv s2 h2=>?_) hs
 obtain⟨it,fp,tn,J,H2,e,I2,T,st2,f2,W,⟨m0,w0⟩,turn⟩:=h2
 subst e
 have stat:∀{H':Hp},(∀b∈fp,H' b=none)→∀b∈fp,xG X pins H' b:=λhn b hb=>⟨hn b hb,(f2 b hb).2⟩
 refine codeAny_forLoop_any (λn s'=>∃i σ' H',Inv X pins σ' H' s'∧tn i s'.heap∧(∀b∈fp,H' b=none)∧W i n σ' H') ?_ m0 ⟨0,σ,H2,I2,st2,λb hb=>(f2 b hb).1,w0⟩
 rintro n s3 ⟨i,σ3,H3,I3,st3,fr3,w3⟩
 rcases turn i n σ3 H3 w3 with ⟨stop,qn⟩ | ⟨go,N,hN,step⟩
 ·refine wpAny_passesOwn hp (eY (T.done X rfl rfl rfl hc i pins s3 σ3 H3 X.xe I3 (stat fr3) st3 stop) λr s4 ⟨hr,I4⟩=>?_)
  subst hr
  exact wpAny_execs_nil ⟨σ3,H3,I4,qn⟩
 ·refine wpAny_passesOwn hp (eY (T.item X rfl rfl rfl hc i pins s3 σ3 H3 X.xe I3 (stat fr3) st3 go) λr s4 ⟨u,hr,h4⟩=>?_)
  subst hr
  refine wpAny_passesOwn hp (eY h4 λ_ s5 ⟨x,H5,I5,r5,y5,st5,fr5⟩=>?_)
  have I5':=I5.pinned (stat fr5) (T.obj _ _ st5)
  refine wpAny_passesOwn hp (eY (hg _ s5 σ3 H5 x u _ I5' r5 (step x H5 y5)) λ_ s6 ⟨σ6,H6,I6,q6⟩=>?_)
  refine wpAny_passesOwn hp (eY (hb _ s6 σ6 H6 _ I6 q6) λf s7 q7=>?_)
  have again:∀{σ7:St} {H7:Hp},Inv X (pins++sX fp s5.heap) σ7 H7 s7→N σ7 H7→∃m,m<n∧∃i σ' H',Inv X pins σ' H' s7∧tn i s7.heap∧(∀b∈fp,H' b=none)∧W i m σ' H':=λ{σ7 H7} I7 n7=>by
   obtain⟨m',hm,w7⟩:=hN σ7 H7 n7
   refine⟨m',hm,i+1,σ7,H7,I7.pL,T.keep _ _ _ st5 λb hb o e=>(I7.pin (b,o) (C9 _ (C9 _ (jK hb e)))).1,λb hb=>?_,w7⟩
   obtain⟨o,e,d⟩:=T.obj _ _ st5 b hb
   exact(I7.pin (b,o) (C9 _ (C9 _ (jK hb e)))).2.1
  cases f with
  | next=>obtain⟨σ7,H7,I7,n7⟩:=q7;exact again I7 n7
  | cont=>obtain⟨σ7,H7,I7,n7⟩:=q7;exact again I7 n7
  | brk=>obtain⟨σ7,H7,I7,q7⟩:=q7;exact⟨σ7,H7,I7.pL,q7⟩
  | ret v=>obtain⟨x7,σ7,H7,I7,r7,q7⟩:=q7;exact⟨x7,σ7,H7,I7.pL,r7,q7⟩
end
end L2
namespace L2
open PySem PySem.Spec PyProof.Rows
abbrev R2:=V→V→Hp→VK→Prop
def lQ(X:Cx)(f:Value→Value→Sem Value)(r:R2):Prop:=
 ∀(pins:List (Addr×Obj))(s:Shared)(σ:St)(H:Hp)(x y:V)(v u:Value)(Q:VK),Inv X pins σ H s→RelV x v→RelV y u→r x y H Q →
  wpAny (model X.prog X.w) X.A (f v u) (EP X pins σ Q) X.xe s
def yh(X:Cx)(f:Value→Sem Value)(r:V→Hp→VK→Prop):Prop:=
 ∀(pins:List (Addr×Obj))(s:Shared)(σ:St)(H:Hp)(x:V)(v:Value)(Q:VK),Inv X pins σ H s→RelV x v→r x H Q →
  wpAny (model X.prog X.w) X.A (f v) (EP X pins σ Q) X.xe s
def iV(X:Cx)(f:Value)(r:List V→Hp→VK→Prop):Prop:=
 ∀(pins:List (Addr×Obj))(s:Shared)(σ:St)(H:Hp)(xs:List V)(us:List Value)(Q:VK),Inv X pins σ H s→Vals xs us→r xs H Q →
  wpAny (model X.prog X.w) X.A (call f us) (EP X pins σ Q) X.xe s
def Ck(r:R2)(ta tb:TE):TE:=λσ H Q=>ta σ H λx H1=>tb σ H1 λy H2=>r x y H2 Q
def yj(r:V→Hp→VK→Prop)(ta:TE):TE:=λσ H Q=>ta σ H λx H1=>r x H1 Q
def rI(C:Int→Int→Prop)(g:Int→Int→V):R2:=λx y H Q=>∃i j,x=.int i∧y=.int j∧C i j∧Q (g i j) H
def Ud(g:Int→Int→V):R2:=λx y H Q=>∃i j,x=.int i∧y=.int j∧Q (g i j) H
def rU(g:Int→V):V→Hp→VK→Prop:=λx H Q=>∃i,x=.int i∧Q (g i) H
section
variable{X:Cx}{a b c:Expr}{ta tb tc:TE}{pos:Pos}
theorem RL(ha:PE X a ta)(hb:PE X b tb){pins:List (Addr×Obj)}{s:Shared}{σ:St}{H:Hp}{R:V→V→Hp→Prop}(I:Inv X pins σ H s)
  (h:ta σ H λx H1=>tb σ H1 λy H2=>R x y H2) {Q:Value→Shared→Prop} {f:Value→Value→Sem Value}
  (hf:∀v u s2 x y H2,Inv X pins σ H2 s2→RelV x v→RelV y u→R x y H2→wpAny (model X.prog X.w) X.A (f v u) Q X.xe s2) :
  wpAny (model X.prog X.w) X.A (eval a X.env) (λv s₁=>wpAny (model X.prog X.w) X.A (eval b X.env) (λu s₂=>wpAny (model X.prog X.w) X.A (f v u) Q X.xe s₂) X.xe s₁) X.xe s:=by
 refine eY (ha pins s σ H _ I h) λv s1 ⟨x,H1,I1,r1,q1⟩=>?_
 refine eY (hb pins s1 σ H1 _ I1 q1) λu s2 ⟨y,H2,I2,r2,q2⟩=>?_
 exact hf v u s2 x y H2 I2 r1 r2 q2
theorem Ur{op:Operator}{r:R2}(ho:lQ X (binaryOp op) r)(ha:PE X a ta)(hb:PE X b tb):PE X (.BinOp a op b pos) (Ck r ta tb):=by
 intro pins s σ H Q I h
 exact wpAny_BinOp (RL ha hb I h λv u s2 x y H2 I2 rx ry q=>ho pins s2 σ H2 x y v u Q I2 rx ry q)
theorem jd{op:UnaryOp}{r:V→Hp→VK→Prop}(ho:yh X (unaryOp op) r)(ha:PE X a ta):PE X (.UnaryOp op a pos) (yj r ta):=by
 intro pins s σ H Q I h
 exact UnaryOp_ (eY (ha pins s σ H _ I h) λv s1 ⟨x,H1,I1,r1,q1⟩=>ho pins s1 σ H1 x v Q I1 r1 q1)
theorem yl{f:Value→Value→Sem Value}{C:Int→Int→Prop}{g:Int→Int→Int}
  (rule:∀(i j:Int)(t u:Tok)(s:Shared)(Q:Value→Shared→Prop)(E:Value→Shared→Prop),C i j→Q (.int (g i j) s.toks) {s with toks:=s.toks+1}→wpAny (model X.prog X.w) X.A (f (.int i t) (.int j u)) Q E s) :
  lQ X f (rI C λi j=>.int (g i j)):=by
 intro pins s σ H x y v u Q I rx ry h
 obtain⟨i,j,rfl,rfl,hc,q⟩:=h
 obtain⟨t,rfl⟩:=rx
 obtain⟨t',rfl⟩:=ry
 exact rule i j t t' s _ _ hc ⟨.int (g i j),H,I.tok _,⟨_,rfl⟩,q⟩
theorem je{f:Value→Value→Sem Value}{g:Int→Int→Int}
  (rule:∀(i j:Int)(t u:Tok)(s:Shared)(Q:Value→Shared→Prop)(E:Value→Shared→Prop),Q (.int (g i j) s.toks) {s with toks:=s.toks+1}→wpAny (model X.prog X.w) X.A (f (.int i t) (.int j u)) Q E s) :
  lQ X f (Ud λi j=>.int (g i j)):=by
 intro pins s σ H x y v u Q I rx ry h
 obtain⟨i,j,rfl,rfl,q⟩:=h
 obtain⟨t,rfl⟩:=rx
 obtain⟨t',rfl⟩:=ry
 exact rule i j t t' s _ _ ⟨.int (g i j),H,I.tok _,⟨_,rfl⟩,q⟩
theorem RM{f:Value→Value→Sem Value}{g:Int→Int→Bool}
  (rule:∀(i j:Int)(t u:Tok)(s:Shared)(Q:Value→Shared→Prop)(E:Value→Shared→Prop),Q (.bool (g i j)) s→wpAny (model X.prog X.w) X.A (f (.int i t) (.int j u)) Q E s) :
  lQ X f (Ud λi j=>.bl (g i j)):=by
 intro pins s σ H x y v u Q I rx ry h
 obtain⟨i,j,rfl,rfl,q⟩:=h
 obtain⟨t,rfl⟩:=rx
 obtain⟨t',rfl⟩:=ry
 exact rule i j t t' s _ _ ⟨.bl (g i j),H,I,rfl,q⟩
def Rj(i j:Int):Prop:=0<j∧j<1073741824
def RN(i j:Int):Prop:=0≤j∧j≤1000000∧i.natAbs<2 ^ 64
def Bh(i j:Int):Prop:=(-(2 ^ 64)<i∧i<2 ^ 64)∨(-(2 ^ 64)<j∧j<2 ^ 64)
theorem Bh.ok{i j:Int}(h:Bh i j):IntMulOk i j:=by
 rcases h with ⟨h1,h2⟩ | ⟨h1,h2⟩
 ·exact .of_left (intBits_le_64 h1 h2)
 ·exact .of_right (intBits_le_64 h1 h2)
theorem Le:lQ X (binaryOp .Add) (Ud λi j=>.int (i+j)):=je λ_ _ _ _ _ _ _ q=>add_int q
theorem RP:lQ X (binaryOp .Sub) (Ud λi j=>.int (i-j)):=je λ_ _ _ _ _ _ _ q=>sub_int q
theorem RQ:lQ X (binaryOp .Mult) (rI Bh λi j=>.int (i*j)):=yl λ_ _ _ _ _ _ _ hc q=>mul_int q hc.ok
theorem Zm:lQ X (binaryOp .FloorDiv) (rI Rj λi j=>.int (i/j)):=yl λi j _ _ _ _ _ hc q=>by
 have h1:(0:Int)<j:=hc.1
 have h2:j<1073741824:=hc.2
 exact floordiv_int (by omega) (by rw[Int.fdiv_eq_ediv_of_nonneg i (by omega)];exact q) (.inl (PyProof.noPylong_small (by omega)))
theorem RT:lQ X (binaryOp .Mod) (rI (λ_ j=>0<j) λi j=>.int (i%j)):=yl λi j _ _ _ _ _ hc q=>by
 have h1:(0:Int)<j:=hc
 exact mod_int' (by omega) (by rw[Int.fmod_eq_emod_of_nonneg i (by omega)];exact q)
theorem unI{f:Value→Sem Value}{g:Int→Int}
  (rule:∀(i:Int)(t:Tok)(s:Shared)(Q:Value→Shared→Prop)(E:Value→Shared→Prop),Q (.int (g i) s.toks) {s with toks:=s.toks+1}→wpAny (model X.prog X.w) X.A (f (.int i t)) Q E s) :
  yh X f (rU λi=>.int (g i)):=by
 intro pins s σ H x v Q I rx h
 obtain⟨i,rfl,q⟩:=h
 obtain⟨t,rfl⟩:=rx
 exact rule i t s _ _ ⟨.int (g i),H,I.tok _,⟨_,rfl⟩,q⟩
theorem RV:yh X (unaryOp .USub) (rU λi=>.int (-i)):=unI λ_ _ _ _ _ q=>neg_int q
end
def Ib:V→V→Bool
  | .non,.non=>true | .non,.int _=>true | .int _,.non=>true | .non,.bl _=>true | .bl _,.non=>true | .non,.str _=>true | .str _,.non=>true
  | .int _,.int _=>true | .bl _,.bl _=>true | .str _,.str _=>true | .byt _,.byt _=>true
  | .int _,.str _=>true | .str _,.int _=>true | .bl _,.str _=>true | .str _,.bl _=>true
  | _,_=>false
def ym:R2:=λx y H Q=>Ib x y=true∧Q (.bl (decide (x=y))) H
def rNe:R2:=λx y H Q=>Ib x y=true∧Q (.bl (!decide (x=y))) H
theorem Og{i j:Int}:decide (V.int i=V.int j)=(i==j):=by
 rw[F7]
 simp
theorem Us{i j:Bool}:decide (V.bl i=V.bl j)=(i==j):=by
 rw[F7]
 simp
theorem xQ{i j:Str}:decide (V.str i=V.str j)=(i==j):=by
 rw[F7]
 simp
theorem Oh{i j:Array UInt8}:decide (V.byt i=V.byt j)=(i.toList==j.toList):=by
 rw[F7]
 cases i
 cases j
 simp
section
variable{X:Cx}{a b c:Expr}{ta tb tc:TE}{pos:Pos}
theorem bL{pins:List (Addr×Obj)}{σ:St}{H:Hp}{s:Shared}{Q:VK}{k k':Bool}(I:Inv X pins σ H s)(q:Q (.bl k) H)(e:k=k'):EP X pins σ Q (.bool k') s:=by
 subst e
 exact⟨.bl k,H,I,rfl,q⟩
theorem jf:lQ X (compareOp .Eq) ym:=by
 intro pins s σ H x y v u Q I rx ry h
 obtain⟨hs,q⟩:=h
 cases x with
 | non=>
  cases rx
  cases y with
  | non=>cases ry;exact PySem.EqNone.eq_none_none (bL I q (by simp))
  | bl j=>cases ry;exact PySem.EqNone.eq_none_bool (bL I q (by simp))
  | int j=>obtain⟨t',rfl⟩:=ry;exact PySem.EqNone.eq_none_int (bL I q (by simp))
  | str j=>obtain⟨t',rfl⟩:=ry;exact PySem.EqNone.eq_none_str (bL I q (by simp))
  | _=>exact absurd (show false=true from hs) B8
 | bl i=>
  cases rx
  cases y with
  | non=>cases ry;exact PySem.EqNone.eq_bool_none (bL I q (by simp))
  | bl j=>cases ry;exact eq_bool (bL I q Us)
  | str j=>obtain⟨t',rfl⟩:=ry;exact PySem.EqMixed.eq_bool_str (bL I q (by simp))
  | _=>exact absurd (show false=true from hs) B8
 | int i=>
  obtain⟨t,rfl⟩:=rx
  cases y with
  | non=>cases ry;exact PySem.EqNone.eq_int_none (bL I q (by simp))
  | int j=>obtain⟨t',rfl⟩:=ry;exact eq_int (bL I q Og)
  | str j=>obtain⟨t',rfl⟩:=ry;exact PySem.EqMixed.eq_int_str (bL I q (by simp))
  | _=>exact absurd (show false=true from hs) B8
 | str i=>
  obtain⟨t,rfl⟩:=rx
  cases y with
  | non=>cases ry;exact PySem.EqNone.eq_str_none (bL I q (by simp))
  | bl j=>cases ry;exact PySem.EqMixed.eq_str_bool (bL I q (by simp))
  | int j=>obtain⟨t',rfl⟩:=ry;exact PySem.EqMixed.eq_str_int (bL I q (by simp))
  | str j=>obtain⟨t',rfl⟩:=ry;exact eq_str (bL I q xQ)
  | _=>exact absurd (show false=true from hs) B8
 | byt i=>
  obtain⟨t,rfl⟩:=rx
  cases y with
  | byt j=>obtain⟨t',rfl⟩:=ry;exact PySem.W.eq_bytes (bL I q Oh)
  | _=>exact absurd (show false=true from hs) B8
 | _=>cases y<;>exact absurd (show false=true from hs) B8
theorem jg:lQ X (compareOp .NotEq) rNe:=by
 intro pins s σ H x y v u Q I rx ry h
 obtain⟨hs,q⟩:=h
 cases x with
 | non=>
  cases rx
  cases y with
  | non=>cases ry;exact PySem.EqNone.ne_none_none (bL I q (by simp))
  | bl j=>cases ry;exact PySem.EqNone.ne_none_bool (bL I q (by simp))
  | int j=>obtain⟨t',rfl⟩:=ry;exact PySem.EqNone.ne_none_int (bL I q (by simp))
  | str j=>obtain⟨t',rfl⟩:=ry;exact PySem.EqNone.ne_none_str (bL I q (by simp))
  | _=>exact absurd (show false=true from hs) B8
 | bl i=>
  cases rx
  cases y with
  | non=>cases ry;exact PySem.EqNone.ne_bool_none (bL I q (by simp))
  | bl j=>cases ry;exact ne_bool (bL I q (congrArg not Us))
  | str j=>obtain⟨t',rfl⟩:=ry;exact PySem.EqMixed.ne_bool_str (bL I q (by simp))
  | _=>exact absurd (show false=true from hs) B8
 | int i=>
  obtain⟨t,rfl⟩:=rx
  cases y with
  | non=>cases ry;exact PySem.EqNone.ne_int_none (bL I q (by simp))
  | int j=>obtain⟨t',rfl⟩:=ry;exact ne_int (bL I q (congrArg not Og))
  | str j=>obtain⟨t',rfl⟩:=ry;exact PySem.EqMixed.ne_int_str (bL I q (by simp))
  | _=>exact absurd (show false=true from hs) B8
 | str i=>
  obtain⟨t,rfl⟩:=rx
  cases y with
  | non=>cases ry;exact PySem.EqNone.ne_str_none (bL I q (by simp))
  | bl j=>cases ry;exact PySem.EqMixed.ne_str_bool (bL I q (by simp))
  | int j=>obtain⟨t',rfl⟩:=ry;exact PySem.EqMixed.ne_str_int (bL I q (by simp))
  | str j=>obtain⟨t',rfl⟩:=ry;exact ne_str (bL I q (congrArg not xQ))
  | _=>exact absurd (show false=true from hs) B8
 | byt i=>
  obtain⟨t,rfl⟩:=rx
  cases y with
  | byt j=>obtain⟨t',rfl⟩:=ry;exact PySem.W.ne_bytes (bL I q (congrArg not Oh))
  | _=>exact absurd (show false=true from hs) B8
 | _=>cases y<;>exact absurd (show false=true from hs) B8
theorem Cm:lQ X (compareOp .Lt) (Ud λi j=>.bl (decide (i<j))):=RM λ_ _ _ _ _ _ _ q=>lt_int q
theorem Cp:lQ X (compareOp .LtE) (Ud λi j=>.bl (decide (i≤j))):=RM λ_ _ _ _ _ _ _ q=>le_int q
theorem Ut:lQ X (compareOp .Gt) (Ud λi j=>.bl (decide (j<i))):=RM λ_ _ _ _ _ _ _ q=>gt_int q
theorem Rk:lQ X (compareOp .In) (λx y H Q=>∃i j,x=.str i∧y=.str j∧Q (.bl (!(Builtin.Str.occurrences j i 0 j.length 1).isEmpty)) H):=by
 intro pins s σ H x y v u Q I rx ry h
 obtain⟨i,j,rfl,rfl,q⟩:=h
 obtain⟨t,rfl⟩:=rx
 obtain⟨t',rfl⟩:=ry
 exact in_str (bL I q rfl)
theorem RW:lQ X (compareOp .Is) (λx y H Q=>y=.non∧Q (.bl (decide (x=.non))) H):=by
 intro pins s σ H x y v u Q I rx ry h
 obtain⟨rfl,q⟩:=h
 cases ry
 refine is_none_gen (bL I q ?_)
 cases x<;>first
  | (cases rx;rfl)
  | (obtain⟨t,rfl⟩:=rx;rfl)
theorem lQ.or{f:Value→Value→Sem Value}{r r':R2}(h:lQ X f r)(h':lQ X f r'):lQ X f (λx y H Q=>r x y H Q∨r' x y H Q):=by
 intro pins s σ H x y v u Q I rx ry q
 rcases q with q | q
 ·exact h pins s σ H x y v u Q I rx ry q
 ·exact h' pins s σ H x y v u Q I rx ry q
theorem bM(b:Expr){op:CmpOp}(h:op≠.In:=by decide)(h2:op≠.NotIn:=by decide):behindInMarks op b=false:=by
 have e1:(op==CmpOp.In)=false:=by cases op<;>first | rfl | exact absurd rfl h
 have e2:(op==CmpOp.NotIn)=false:=by cases op<;>first | rfl | exact absurd rfl h2
 cases b<;>simp[behindInMarks,e1,e2]
theorem Zo{op:CmpOp}{r:R2}(ho:lQ X (compareOp op) r)(ha:PE X a ta)(hb:PE X b tb)(hm:behindInMarks op b=false):PE X (.Compare a [op] [b] pos) (Ck r ta tb):=by
 intro pins s σ H Q I h
 exact wpAny_Compare1 (RL ha hb I h λv u s2 x y H2 I2 rx ry q=>ho pins s2 σ H2 x y v u Q I2 rx ry q) hm
def Ie(t:TE):TT:=λσ H Q=>t σ H λx H'=>∃k,x=.bl k∧Q k H'
theorem Zq{op:CmpOp}{r:R2}(ho:lQ X (compareOp op) r)(ha:PE X a ta)(hb:PE X b tb)(hm:behindInMarks op b=false):PT X (.Compare a [op] [b] pos) (Ie (Ck r ta tb)):=by
 intro pins s σ H Q I h
 refine wpAny_isTrue_Compare1 (eY (ha pins s σ H _ I h) λv s1 ⟨x,H1,I1,r1,q1⟩=>eY (hb pins s1 σ H1 _ I1 q1) λu s2 ⟨y,H2,I2,r2,q2⟩=>
  eY (ho pins s2 σ H2 x y v u _ I2 r1 r2 q2) λc s3 ⟨z,H3,I3,r3,k,e,q3⟩=>?_) hm
 subst e
 cases r3
 exact wpAny_truthy_bool ⟨H3,I3,q3⟩
def Er(r r':R2)(ta tb tc:TE):TE:=λσ H Q=>ta σ H λx H1=>tb σ H1 λy H2=>r x y H2 λz H3=>∃k,z=.bl k ∧
 (if k=true then tc σ H3 λw' H4=>r' y w' H4 Q else Q (.bl false) H3)
theorem Uu{op op':CmpOp}{r r':R2}(ho:lQ X (compareOp op) r)(ho':lQ X (compareOp op') r')(ha:PE X a ta)(hb:PE X b tb)(hc:PE X c tc)
  (hm:lastMarks [op,op'] [b,c]=false:=by with_unfolding_all rfl):PE X (.Compare a [op,op'] [b,c] pos) (Er r r' ta tb tc):=by
 intro pins s σ H Q I h
 refine Compare_chain (eY (ha pins s σ H _ I h) λv s1 ⟨x,H1,I1,r1,q1⟩=>chain_link (eY (hb pins s1 σ H1 _ I1 q1) λu s2 ⟨y,H2,I2,r2,q2⟩=>
  eY (ho pins s2 σ H2 x y v u _ I2 r1 r2 q2) λd s3 ⟨z,H3,I3,r3,k,e,q3⟩=>?_)) hm
 subst e
 cases r3
 refine wpAny_truthy_bool ?_
 cases k with
 | false=>exact ite_ff ⟨.bl false,H3,I3,rfl,q3⟩
 | true=>exact ite_tt (chain_last (eY (hc pins s3 σ H3 _ I3 q3) λw' s4 ⟨z',H4,I4,r4,q4⟩=>ho' pins s4 σ H4 y z' u w' Q I4 r2 r4 q4))
theorem Uv{op op':CmpOp}{r r':R2}(ho:lQ X (compareOp op) r)(ho':lQ X (compareOp op') r')(ha:PE X a ta)(hb:PE X b tb)(hc:PE X c tc)
  (hm:lastMarks [op,op'] [b,c]=false:=by with_unfolding_all rfl):PT X (.Compare a [op,op'] [b,c] pos) (Ie (Er r r' ta tb tc)):=by
 intro pins s σ H Q I h
 refine isTrue_chain (eY (ha pins s σ H _ I h) λv s1 ⟨x,H1,I1,r1,q1⟩=>test_link (eY (hb pins s1 σ H1 _ I1 q1) λu s2 ⟨y,H2,I2,r2,q2⟩=>
  eY (ho pins s2 σ H2 x y v u _ I2 r1 r2 q2) λd s3 ⟨z,H3,I3,r3,k,e,q3⟩=>?_)) hm
 subst e
 cases r3
 refine wpAny_truthy_bool ?_
 cases k with
 | false=>
  obtain⟨k',e',q'⟩:=q3
  cases e'
  exact ite_ff ⟨H3,I3,q'⟩
 | true=>
  refine ite_tt (test_last (eY (hc pins s3 σ H3 _ I3 q3) λw' s4 ⟨z',H4,I4,r4,q4⟩=>eY (ho' pins s4 σ H4 y z' u w' _ I4 r2 r4 q4) λd' s5 ⟨z2,H5,I5,r5,k2,e2,q5⟩=>?_))
  subst e2
  cases r5
  exact wpAny_truthy_bool ⟨H5,I5,q5⟩
theorem vI:(sizeLine:Nat)<2 ^ 63:=by rw[sizeLine_eq];decide
theorem Lf:lQ X (binaryOp .Add) (λx y H Q=>∃i j,x=.str i∧y=.str j∧i.length+j.length≤sizeLine∧Q (.str (i++j)) H):=by
 intro pins s σ H x y v u Q I rx ry h
 obtain⟨i,j,rfl,rfl,hz,q⟩:=h
 obtain⟨t,rfl⟩:=rx
 obtain⟨t',rfl⟩:=ry
 exact add_str (λt' tk=>⟨.str (i++j),H,I.tok _,⟨_,rfl⟩,q⟩) hz
theorem vals1{x:V}{us:List Value}(r:Vals [x] us):∃u,us=[u]∧RelV x u:=by
 cases r with
 | cons r1 r2=>cases r2;exact⟨_,rfl,r1⟩
theorem vals2{x y:V}{us:List Value}(r:Vals [x,y] us):∃u w',us=[u,w']∧RelV x u∧RelV y w':=by
 cases r with
 | cons r1 r2=>
  cases r2 with
  | cons r3 r4=>cases r4;exact⟨_,_,rfl,r1,r3⟩
theorem Es:iV X (.type "str") (λxs H Q=>∃i,xs=[.int i]∧i.natAbs.log2<1920∧Q (.str (toString i)) H):=by
 intro pins s σ H xs us Q I r h
 obtain⟨i,rfl,hz,q⟩:=h
 obtain⟨u,rfl,t,rfl⟩:=vals1 r
 exact PySem.P.str_of_int hz ⟨.str _,H,I.tok _,⟨_,rfl⟩,q⟩
end
end L2
namespace L2
open PySem PySem.Spec PyProof.Rows
structure RX(h:Heap)(x dx C:Addr)(mA:Str→Option Value):Prop where
 obj:h.get? x=some (T9 C dx)
 ns:h.Ns1 dx mA
 ne:dx≠x
theorem Rm{h:Heap}{dx:Addr}{mA:Str→Option Value}(n:h.Ns1 dx mA):∃od,h.get? dx=some od∧∀name,U6 name od=some (mA name):=by
 obtain⟨o,es,ep,ho,hd,hk,_,hm⟩:=n
 refine⟨o,ho,λname=>?_⟩
 have e:=hm name
 unfold nsFind findBy at e
 rw[←Array.find?_toList]at e
 unfold U6
 rw[hd]
 dsimp only
 split
 ·rename_i y q
  rw[q]at e
  exact congrArg some e
 ·rename_i q
  rw[q]at e
  have a:es.toList.any (·.refKey)=false:=by
   rw[List.any_eq_false]
   intro y hy
   obtain⟨z,t,hkey⟩:=hk y (Array.mem_toList_iff.mp hy)
   simp[DictEntry.refKey,hkey]
  have a':¬es.toList.any (·.refKey)=true:=by rw[a];exact B8
  rw[if_neg a']
  exact congrArg some e
theorem RX.look{h:Heap}{x dx C:Addr}{mA:Str→Option Value}(I:RX h x dx C mA):∃od,PySem.W.InstAt h x (T9 C dx) C (some od)∧∀name,U6 name od=some (mA name):=
 let ⟨od,ho,hl⟩:=Rm I.ns
 ⟨od,⟨I.obj,rfl,rfl,ho⟩,hl⟩
section
variable{prog:Program}{w:World}{A:Around}{E:Value→Shared→Prop}{s:Shared}{K:aA}{x dx C f:Addr}{mA:Str→Option Value}{name:Str}{v:Value}
end
section
variable{P:Program}{w:World}{H H':Hp}{h h':Heap}{a C dx:Addr}{fs fs':List (Str×V)}
theorem Zr(hok:rQ P w H h)(e:H a=some (.ins C dx fs)):∃mA,RX h a dx C mA∧(∀f,QG (fs.lookup f) (mA f))∧Z0 mA (fs.map (·.1))∧fs.length≤1000∧H dx=some (.own a):=by
 obtain⟨d,z,ne,ob,mA,n,r,q⟩:=(show gY P w H h a (.ins C dx fs)from hok a _ e)
 exact⟨mA,⟨ob,n,ne⟩,r,q,z,d⟩
end
structure vm(K:aA)(C:Addr):Prop where
 pg:X0 K C Str.empty=true
 hd:PySem.W.hasDictIn K C=true
 po:PySem.W.plainOver K C=true
 sa:J6 K (.ref C) "__setattr__" = some (some (.builtin "object.__setattr__"))
theorem vm.get{K:aA}{C:Addr}(c:vm K C)(f:Str):X0 K C f=true:=c.pg
def RZ(K:aA)(C:Addr)(f:Str):Prop:=J6 K (.ref C) f=some none
structure Con(K:aA)(C:Addr)(f:Str)(v:V)(u:Value):Prop where
 at_:J6 K (.ref C) f=some (some u)
 rel:RelV v u
 get:P4 K u "__get__" = some none
 cp:PySem.W.copiedNames.contains f=false
structure Meth(K:aA)(C:Addr)(m:Str)(f:Addr):Prop where
 at_:J6 K (.ref C) m=some (some (.ref f))
 fn:Z6 K (.ref f)=true
 kp:K6 K (.ref f)=true
section
variable{X:Cx}{pins:List (Addr×Obj)}{σ:St}{H:Hp}{s:Shared}{a C dx:Addr}{fs:List (Str×V)}{f:Str}{v:V}{A:Around}{E:Value→Shared→Prop}
end
section
variable{X:Cx}{o e value:Expr}{f:Str}{pos pos' tpos:Pos}{ta tv:TE}
end
section
variable{X:Cx}{pins:List (Addr×Obj)}{σ:St}{H:Hp}{s:Shared}{A:Around}{E:Value→Shared→Prop}{Q:Value→Shared→Prop}{c:Value}{b:Bool}
inductive xH(K:aA)(H:Hp):V→Value→Prop where
 | non:xH K H .non (.type "NoneType")
 | bl (x:Bool):xH K H (.bl x) (.type "bool")
 | int (i:Int):xH K H (.int i) (.type "int")
 | str (x:Str):xH K H (.str x) (.type "str")
 | flt (x:UInt64):xH K H (.flt x) (.type "float")
 | lst {a:Addr} {xs:List V} (e:H a=some (.lst xs)):xH K H (.ref a) (.type "list")
 | tZ {a:Addr} {o:Obj} {xs:List V} (e:H a=some (.tZ o (.lst xs))):xH K H (.ref a) (.type "list")
 | tup {a:Addr} {xs:List V} (e:H a=some (.tup xs)):xH K H (.ref a) (.type "tuple")
 | dK {a:Addr} {kvs:List (Key×V)} (e:H a=some (.dK kvs)):xH K H (.ref a) (.type "dict")
 | dT {a:Addr} {kvs:List (List Key×V)} (e:H a=some (.dT kvs)):xH K H (.ref a) (.type "dict")
 | ins {a C dx:Addr} {fs:List (Str×V)} (e:H a=some (.ins C dx fs)) (cl:vm K C) (ha:J6 K (.ref C) "__class__" = some (some (.builtin "object.__class__")))
   (hn:P4 K (.builtin "object.__class__") "__get__" = some (some (.builtin "getset_descriptor.__get__"))) (htk:U0 K (.builtin "object.__class__")=some true)
   (hm:Q0 K C (.type "object")=some true):xH K H (.ref a) (.ref C)
theorem rB{x:V}{u t:Value}(I:Inv X pins σ H s)(rx:RelV x u)(ty:xH X.K H x t)(e:O8 X.K t c=some b)(h:∀tk,Q (.bool b) {s with toks:=tk}) :
  wpAny (model X.prog X.w) A (call (.builtin "isinstance") [u,c]) Q E s:=by
 cases ty with
 | non=>cases(show u=Value.none from rx);exact F8 PySem.W.kitx_none I.uA True.intro e (λz=>nomatch z) h
 | bl y=>cases(show u=Value.bool y from rx);exact F8 PySem.W.kitx_bool I.uA True.intro e (λz=>nomatch z) h
 | int i=>obtain⟨t,q⟩:=(show ∃t,u=Value.int i t from rx);cases q;exact F8 PySem.W.kitx_int I.uA True.intro e (λz=>nomatch z) h
 | str y=>obtain⟨t,q⟩:=(show ∃t,u=Value.str y t from rx);cases q;exact F8 PySem.W.kitx_str I.uA True.intro e (λz=>nomatch z) h
 | flt y=>obtain⟨t,q⟩:=(show ∃t,u=Value.float y t from rx);cases q;exact F8 PySem.W.kitx_float I.uA True.intro e (λz=>nomatch z) h
 | @lst a xs ea=>
  cases(show u=Value.ref a from rx)
  obtain⟨_,_,n,_,h1⟩:=(show gY X.prog X.w H s.heap a (.lst xs)from I.hok a _ ea)
  exact F8 S7 I.uA ⟨_,h1,rfl⟩ e (λz=>nomatch z) h
 | @tZ a ob xs ea=>
  cases(show u=Value.ref a from rx)
  obtain⟨_,_,_,n,_,h1⟩:=(show gY X.prog X.w H s.heap a (.tZ ob (.lst xs))from I.hok a _ ea)
  exact F8 S7 I.uA ⟨_,h1,rfl⟩ e (λz=>nomatch z) h
 | @tup a xs ea=>
  cases(show u=Value.ref a from rx)
  obtain⟨_,_,_,p⟩:=(show gY X.prog X.w H s.heap a (.tup xs)from I.hok a _ ea)
  obtain⟨o,h1,h2,_⟩:=p
  exact F8 V7 I.uA ⟨o,h1,h2⟩ e (λz=>nomatch z) h
 | @dK a kvs ea=>
  cases(show u=Value.ref a from rx)
  obtain⟨_,_,vs,_,p⟩:=(show gY X.prog X.w H s.heap a (.dK kvs)from I.hok a _ ea)
  obtain⟨o,es,ep,h1,h2,_⟩:=p
  exact F8 S8 I.uA ⟨o,h1,h2.1⟩ e (λz=>nomatch z) h
 | @dT a kvs ea=>
  cases(show u=Value.ref a from rx)
  obtain⟨_,_,xs,_,o,es,ep,h1,h2,_⟩:=(show gY X.prog X.w H s.heap a (.dT kvs)from I.hok a _ ea)
  exact F8 S8 I.uA ⟨o,h1,h2.1⟩ e (λz=>nomatch z) h
 | @ins a C dx fs ea cl ha hn htk hm=>
  cases(show u=Value.ref a from rx)
  obtain⟨mA,O,_⟩:=Zr I.hok ea
  obtain⟨od,J,_⟩:=O.look
  exact F8 (PySem.W.kitx_own (cl.get _) cl.hd ha hn htk hm) I.uA J e (λz=>nomatch z) h
end
end L2
namespace L2
open PySem PySem.Spec PyProof.Rows
structure kI(k:Nat)(A:Around):Prop where
 hd:A.handled=none
 dp:A.depth+3*k+5<recursionLimit
 un:A.units+16*k+200<cLine
theorem kI.mono{j k:Nat}{A:Around}(r:kI k A)(h:j≤k):kI j A:=⟨r.hd,by have:=r.dp;omega,by have:=r.un;omega⟩
theorem kI.deeper{k:Nat}{A:Around}(r:kI (k+1) A)(env:Env):kI k (A.deeper env):=
 ⟨r.hd,by have:=r.dp;show A.depth+1+3*k+5<_;omega,by have:=r.un;show A.units+3+16*k+200<_;omega⟩
theorem kI.depth{k:Nat}{A:Around}(r:kI k A):A.depth<recursionLimit:=by have:=r.dp;omega
theorem kI.units{k:Nat}{A:Around}(r:kI k A):A.units+64<cLine:=by have:=r.un;omega
def iM:TA:=λ_ H Q=>Q [] H
def bV(ta:TE)(tr:TA):TA:=λσ H Q=>ta σ H λx H1=>tr σ H1 λxs H2=>Q (x::xs) H2
section
variable{X:Cx}{e:Expr}{es:List Expr}{te:TE}{t:TA}{pos:Pos}
theorem bI:PA X [] iM:=λ_ _ _ _ H Q I h=>Calls.spliced_nil ⟨[],H,I,.nil,h⟩
theorem aV(ha:PE X e te)(hr:PA X es t)(hs:starEach (e::es) X.env=(false,eval e X.env)::starEach es X.env:=by rfl):PA X (e::es) (bV te t):=by
 intro pos pins s σ H Q I h
 rw[hs]
 show wpAny _ _ (spliced ((false,eval e X.env)::backTo pos (starEach es X.env))) _ _ s
 refine Calls.spliced_cons (eY (ha pins s σ H _ I h) λu s1 ⟨x,H1,I1,r1,q1⟩=>?_)
 exact eY (hr pos pins s1 σ H1 _ I1 q1) λus s2 ⟨xs,H2,I2,r2,q2⟩=>⟨x::xs,H2,I2,.cons r1 r2,q2⟩
def Uw(t:TA):TE:=λσ H Q=>t σ H λxs H1=>xs.length≤sizeLine∧∀p,H1 p=none→Q (.ref p) (upd H1 p (.tup xs))
def Rn(t:TA):TE:=λσ H Q=>t σ H λxs H1=>xs.length≤sizeLine∧∀p,H1 p=none→Q (.ref p) (upd H1 p (.lst xs))
theorem Et{x1}(h:PA X es t):PE X (.Tuple es x1 pos) (Uw t):=by
 intro pins s σ H Q I hq
 refine wpAny_Tuple_spliced (eY (h pos pins s σ H _ I hq) λus s1 ⟨xs,H1,I1,r,z,q⟩=>⟨by rw[←r.length];exact z,?_⟩)
 have hf:H1 s1.heap.objs.size=none:=I1.hok.fresh (D2 _)
 refine⟨.ref s1.heap.objs.size,upd H1 s1.heap.objs.size (.tup xs),I1.laid (t':=s1.toks) (λb u e=>Heap.get?_push_of_some _ e) (D2 _) ?_,rfl,q _ hf⟩
 exact⟨z,us,r,⟨_,Heap.get?_push_size _ rfl,rfl,_,rfl⟩⟩
theorem Lg(h:PA X es t):PE X (.List es pos) (Rn t):=by
 intro pins s σ H Q I hq
 refine wpAny_List_spliced (eY (h pos pins s σ H _ I hq) λus s1 ⟨xs,H1,I1,r,z,q⟩=>⟨by rw[←r.length];exact z,?_⟩)
 have hf:H1 s1.heap.objs.size=none:=I1.hok.fresh (D2 _)
 refine⟨.ref s1.heap.objs.size,upd H1 s1.heap.objs.size (.lst xs),I1.laid (t':=s1.toks) (λb u e=>Heap.get?_push_of_some _ e) (D2 _) ?_,rfl,q _ hf⟩
 exact⟨z,us,0,r,Heap.get?_push_size _ rfl⟩
end
abbrev Sp:=List V→Hp→VK→XK→Prop
abbrev Ku:=List Env→Hp→Shared→XK→Value→Shared→Prop
structure Zt(P:Program)(w:World)(K:aA)(mg:Str→Option Value)(base:Heap)(A:Around)(outer:List Env)(s:Shared)(H:Hp):Prop where
 frames:A.frames=some outer
 mod:Mod K mg base
 bs:∀b o,base.get? b=some o→s.heap.get? b=some o∧H b=none
 Uc:base.objs.size≤s.heap.objs.size
 rR:s.heap.FunFrames base outer
 Yz:∀b∈frs outer,H b=none
 hok:rQ P w H s.heap
 bare:AllBare s.gens
def CE(outer:List Env)(P:Program)(w:World)(H:Hp)(s:Shared)(Q:VK)(u:Value)(s':Shared):Prop:=
 ∃v H',s'.os=s.os∧AllBare s'.gens∧Un (frs outer) [] H H' s.heap s'.heap∧rQ P w H' s'.heap∧RelV v u∧Q v H'
def CR(CX:Ku)(outer:List Env)(P:Program)(w:World)(H:Hp)(s:Shared)(Q:VK)(E:XK)(r:Result)(s':Shared):Prop:=
 match r with
 | .ok (.ret u)=>CE outer P w H s Q u s'
 | .ok _=>False
 | .error e=>CX outer H s E e s'
structure uD(P:Program)(w:World)(K:aA)(mg:Str→Option Value)(base:Heap)(CX:Ku)(k:Nat)(f:Addr)(fd:FuncData)(ps:List Str)(sp:Sp):Prop where
 len:∀vs H Q E,sp vs H Q E→vs.length=ps.length
 run:∀(A:Around)(outer:List Env)(s:Shared)(H:Hp)(args:Args)(us:List Value)(vs:List V)(Q:VK)(E:XK),kI k A→Zt P w K mg base A outer s H→BindsTo s fd args (ps.zip us)→Vals vs us→sp vs H Q E →
  codeAny (model P w) A (.call (.ref f) args) (CR CX outer P w H s Q E) s
section
variable{X:Cx}{pins:List (Addr×Obj)}{σ:St}{H:Hp}{s s':Shared}
theorem Inv.env0(I:Inv X pins σ H s):Zt X.prog X.w X.K X.mg X.base X.A X.stack s H:=
 ⟨I.ok.frames,I.ok.mod,I.bs,F0 I.ok.Uc I.sz,I.stack,I.Eo,I.hok,I.bare⟩
theorem Inv.after{Q:VK}{u:Value}(I:Inv X pins σ H s)(h:CE X.stack X.prog X.w H s Q u s'):EP X pins σ Q u s':=by
 obtain⟨v,H',os,bare,un,hok,r,q⟩:=h
 obtain⟨hh,g,d,t,os'⟩:=s'
 obtain rfl:os'=s.os:=os
 exact⟨v,H',I.call (h':=hh) (g':=g) (d':=d) (t':=t) (ch:=[]) un hok bare (λb z=>absurd z (by simp)),r,q⟩
end
def Cq(sp:Sp)(Ro:List V)(E:XK)(t:TA):TE:=λσ H Q=>t σ H λvs H1=>sp (vs++Ro) H1 Q E
def Binds(K:aA)(fd:FuncData)(ps:List Str)(ds:List Value):Prop:=
 ∀(s:Shared)(us:List Value),K.In s.heap→(us++ds).length=ps.length→BindsTo s fd ⟨us,[]⟩ (ps.zip (us++ds))
theorem Binds.all{K:aA}{fd:FuncData}{ps:List Str}(h:∀us:List Value,us.length=ps.length→bindArgs fd ⟨us,[]⟩=pure (ps.zip us)):Binds K fd ps []:=λs us _ hl=>by
 rw[U1]at hl ⊢
 exact .of_eq (h us hl)
def Passes(CX:Ku)(X:Cx)(E:XK):Prop:=∀(pins:List (Addr×Obj))(σ:St)(H:Hp)(s:Shared)(e:Value)(s':Shared),Inv X pins σ H s→CX X.stack H s E e s'→X.xe e s'
section
variable{X:Cx}{CX:Ku}{k:Nat}{f C:Addr}{fd:FuncData}{ps:List Str}{sp:Sp}{Ro:List V}{ds:List Value}{E:XK}{x m:Str}{p pos apos:Pos}{e o:Expr}{es:List Expr}{ta:TE}{t:TA}
theorem SJ{pins:List (Addr×Obj)}{σ:St}{H:Hp}{s:Shared}{Q:VK}{us:List Value}{vs:List V}(F:uD X.prog X.w X.K X.mg X.base CX k f fd ps sp)(hr:kI k X.A)(hb:Binds X.K fd ps ds)(hd:Vals Ro ds)(hx:Passes CX X E)
  (I:Inv X pins σ H s) (r:Vals vs us) (h:sp (vs++Ro) H Q E):wpAny (model X.prog X.w) X.A (call (.ref f) us) (EP X pins σ Q) X.xe s:=by
 have r2:Vals (vs++Ro) (us++ds):=r.append hd
 have hl:(us++ds).length=ps.length:=by rw[←r2.length];exact F.len _ _ _ _ h
 refine wpAny_call (codeAny_mono (F.run X.A X.stack s H ⟨us,[]⟩ (us++ds) (vs++Ro) Q E hr I.env0 (hb s us I.uA hl) r2 h) λr s' hq=>?_)
 cases r with
 | error e=>exact hx pins σ H s e s' I hq
 | ok fl=>
  cases fl with
  | ret u=>exact I.after hq
  | next=>exact False.elim hq
  | brk=>exact False.elim hq
  | cont=>exact False.elim hq
theorem Zu(F:uD X.prog X.w X.K X.mg X.base CX k f fd ps sp)(hr:kI k X.A)(hg:Gl X x)(hm:X.mg x=some (.ref f))(hk:K6 X.K (.ref f)=true)(hb:Binds X.K fd ps ds)(hd:Vals Ro ds)(hx:Passes CX X E)
  (ha:PA X (e::es) t) (hdb:(x==("__debug__" : Str))=false:=by decide) (he:starEach (e::es) X.env=(false,eval e X.env)::starEach es X.env:=by rfl) (hpl:(backTo pos (starEach es X.env)).any (·.1)=false:=by rfl) :
  PE X (.Call (.Name x p) (e::es) [] pos) (Cq sp Ro E t):=by
 intro pins s σ H Q I h
 refine wpAny_Call_Name_kw (rA I hg hm ?_ hdb)
 refine V8 (h₀:=X.base) I.ok.mod.il hk (eY (ha pos pins s σ H _ I h) λus s1 ⟨vs,H1,I1,r,q⟩=>⟨I1.uA,?_⟩) he hpl
 exact SJ F hr hb hd hx I1 r q
structure Mk(K:aA)(C f:Addr):Prop where
 makes:PySem.W.makesIn K C=true
 init:J6 K (.ref C) "__init__" = some (some (.ref f))
 fn:Z6 K (.ref f)=true
 kp:K6 K (.ref C)=true
end
section
variable{X:Cx}{CX:Ku}{k:Nat}{f C:Addr}{fd:FuncData}{ps ks:List Str}{sp:Sp}{E:XK}{x m:Str}{p pos apos kpos:Pos}{e o:Expr}{es:List Expr}{kws:List Keyword}{te ta:TE}{t tk:TA}{nm:Option Str}
structure yo(K:aA)(fd:FuncData)(ps ks:List Str)(g:List Value→List Value→List Value)(gV:List V→List V→List V):Prop where
 to:∀(s:Shared)(us ws:List Value),K.In s.heap→(g us ws).length=ps.length→BindsTo s fd ⟨us,ks.zip ws⟩ (ps.zip (g us ws))
 rel:∀{vs:List V} {us:List Value} {zs:List V} {ws:List Value},Vals vs us→Vals zs ws→Vals (gV vs zs) (g us ws)
variable{g:List Value→List Value→List Value}{gV:List V→List V→List V}
end
structure bO(N P:List Str)(sc:Scope):Prop where
 kind:sc.kind=.function
 co:sc.isCoroutine=false
 gen:sc.isGenerator=false
 nd:N.Nodup
 pre:N.take P.length=P
 par:∀x∈P,sc.names.lookup x=some .local∨sc.names.lookup x=some .cell
 SM:∀y∈sc.names,y.2≠.free
theorem Cr{kindOf:Str→Option NameKind}{x:Str}:∀{binds:List (Str×Value)} {m:Str→Option Value},(∀v,(x,v)∉binds)→bindL kindOf binds m x=m x
 | [],_,_=>rfl
 | (n,v)::r,m,h=>by
  unfold bindL
  rw[Cr λw hw=>h w (C5 _ hw)]
  split
  ·have:x≠n:=by rintro rfl;exact h v D1
   simp[this]
  ·rfl
theorem Cu{kindOf:Str→Option NameKind}{x:Str}:∀{binds:List (Str×Value)} {m:Str→Option Value},(∀v,(x,v)∉binds)→bindC kindOf binds m x=m x
 | [],_,_=>rfl
 | (n,v)::r,m,h=>by
  unfold bindC
  rw[Cu λw hw=>h w (C5 _ hw)]
  split
  ·rfl
  ·have:x≠n:=by rintro rfl;exact h v D1
   simp[this]
theorem Cv{kindOf:Str→Option NameKind}{x:Str}{v:Value}:∀{P:List Str} {vs:List Value} {i:Nat} {m:Str→Option Value},P.Nodup→P[i]?=some x→vs[i]?=some v→kindOf x=some .local →
  bindL kindOf (P.zip vs) m x=some v
 | [],_,_,_,_,h,_,_=>by simp at h
 | _::_,[],_,_,_,_,h,_=>by simp at h
 | p::P,w::vs,0,m,nd,h1,h2,hk=>by
  simp at h1 h2;subst h1;subst h2
  show bindL kindOf ((p,w)::P.zip vs) m p=_
  unfold bindL
  rw[Cr λv hv=>(Q9.mp nd).1 (U2 hv).1,if_pos hk]
  simp
 | p::P,w::vs,i+1,m,nd,h1,h2,hk=>by
  show bindL kindOf ((p,w)::P.zip vs) m x=_
  unfold bindL
  exact Cv (i:=i) (Q9.mp nd).2 (by simpa using h1) (by simpa using h2) hk
theorem Cw{kindOf:Str→Option NameKind}{x:Str}{v:Value}:∀{P:List Str} {vs:List Value} {i:Nat} {m:Str→Option Value},P.Nodup→P[i]?=some x→vs[i]?=some v→kindOf x≠some .local →
  bindC kindOf (P.zip vs) m x=some v
 | [],_,_,_,_,h,_,_=>by simp at h
 | _::_,[],_,_,_,_,h,_=>by simp at h
 | p::P,w::vs,0,m,nd,h1,h2,hk=>by
  simp at h1 h2;subst h1;subst h2
  show bindC kindOf ((p,w)::P.zip vs) m p=_
  unfold bindC
  rw[Cu λv hv=>(Q9.mp nd).1 (U2 hv).1,if_neg hk]
  simp
 | p::P,w::vs,i+1,m,nd,h1,h2,hk=>by
  show bindC kindOf ((p,w)::P.zip vs) m x=_
  unfold bindC
  exact Cw (i:=i) (Q9.mp nd).2 (by simpa using h1) (by simpa using h2) hk
def start(N:List Str)(vs:List V):St:=vs.map some++B9 (N.length-vs.length) none
def jL(CX:Ku)(P:Program)(w:World)(K:aA)(mg:Str→Option Value)(base:Heap)(N:List Str)(qual:Str)(scope:Scope)(f:Addr)(cd:Value)(A:Around)(outer:List Env)(s:Shared)(H:Hp)(E:XK):Cx where
 prog:=P
 w:=w
 K:=K
 mg:=mg
 base:=base
 A:=A.deeper (envOfC qual scope s.heap.objs.size f cd)
 N:=N
 s₀:=s
 H₀:=H
 env:=envOfC qual scope s.heap.objs.size f cd
 outer:=outer
 stack:=envOfC qual scope s.heap.objs.size f cd::outer
 ex:=[]
 calm:=true
 fn:=λ_=>true
 pn:=[]
 xe:=λe s'=>wpAny (model P w) (A.deeper (envOfC qual scope s.heap.objs.size f cd)) (leaving (envOfC qual scope s.heap.objs.size f cd) e) (λ_ s''=>CX outer H s E e s'') (λe' s''=>CX outer H s E e' s'') s'
theorem Ih{sc:Scope}{n:Nat}{x:Str}(h:sc.names.lookup x=some .cell):∃c,(cellsFrom n sc.names []).lookup x=some c:=by
 have q:=U3 sc.names n [] (.inl h)
 exact O5.mp q
theorem Rp{CX:Ku}{P:Program}{w:World}{K:aA}{mg:Str→Option Value}{base:Heap}{N ps:List Str}{qual:Str}{scope:Scope}{f:Addr}{cd:Value}{A:Around}{outer:List Env}{s s1:Shared}{H:Hp}{E:XK}{us:List Value}{vs:List V}
  (S:bO N ps scope) (hd:A.handled=none) (e0:Zt P w K mg base A outer s H) (hl:vs.length=ps.length) (r:Vals vs us)
  (x:InCallC s s.heap.objs.size (bindL (envOfC qual scope s.heap.objs.size f cd).kindOf (ps.zip us) λ_=>none) (cellsFrom (s.heap.objs.size+1) scope.names []) (bindC (envOfC qual scope s.heap.objs.size f cd).kindOf (ps.zip us) λ_=>none) s1) :
  Inv (jL CX P w K mg base N qual scope f cd A outer s H E) [] (start N vs) H s1:=by
 have hpl:ps.length≤N.length:=by have:=congrArg W9 S.pre;rw[J9]at this;omega
 obtain⟨h1,tk,rfl,hk⟩:=x.done
 have jh:∀b:Addr,b∉(jL CX P w K mg base N qual scope f cd A outer s H E).ex:=λb z=>absurd (show b∈([]:List Addr)from z) (by simp)
 refine⟨⟨e0.mod,S.kind,rfl,rfl,D2 _,λy z c h1 h2=>?_,λy hy=>?_,λy c _ h=>?_,λ_=>hd,Around.frames_deeper e0.frames,.inr ⟨rfl,rfl⟩,λb z=>absurd z (jh b),e0.bs,e0.Uc,λb _ _=>jh b,λb z=>absurd z (jh b),e0.rR,e0.Yz⟩,
  rfl,e0.bare,Un.kept hk,⟨_,x.toInCall.ns,λi y v h1 h2 h3=>?_⟩,λy c h=>⟨_,x.cell y c h⟩,e0.hok.fresh (D2 _),λy c h=>?_,λp hp=>absurd (show p∈([]:List (Addr×Obj))from hp) (by simp),e0.hok.kept hk,?_⟩
 ·exact name_of_addr x.apart (K9 h1) (K9 h2)
 ·have hy:scope.names.lookup y=some .cell∨scope.names.lookup y=some .free:=hy
  rcases hy with hy | hy
  ·exact Ih hy
  ·exact absurd rfl (S.SM _ (K9 hy))
 ·exact V5 (x.above y c (K9 h))
 ·have hi:i<vs.length:=by
   unfold start at h2
   by_cases hi:i<vs.length
   ·exact hi
   ·rw[S4 (by simpa using hi)]at h2
    rw[P0]at h2
    split at h2<;>cases h2
  have ha:vs[i]?=some v:=by
   unfold start at h2
   rw[T0 (by simpa using hi),D5]at h2
   cases e:vs[i]? with
   | none=>rw[e]at h2;cases h2
   | some a=>rw[e]at h2;cases h2;rfl
  obtain⟨u,hu,rv⟩:=r.get ha
  have hp:ps[i]?=some y:=by
   rw[←S.pre,List.getElem?_take_of_lt (by omega)];exact h1
  have ndP:ps.Nodup:=by rw[←S.pre];exact S.nd.sublist (List.take_sublist _ _)
  refine⟨u,rv,?_⟩
  rcases S.par y (J0 hp)with k | k
  ·exact .inl ⟨k,Cv ndP hp hu k⟩
  ·obtain⟨c,e⟩:=Ih (n:=s.heap.objs.size+1) k
   refine .inr ⟨.inl k,c,e,?_⟩
   have q:=x.cell y c e
   rw[Cw ndP hp hu (by show scope.names.lookup y≠_;rw[k];decide)]at q
   exact q
 ·exact e0.hok.fresh (V5 (x.above y c (K9 h)))
 ·unfold start
  show _=N.length
  rw[C6,B3,K2]
  omega
theorem MF{CX:Ku}{P:Program}{w:World}{K:aA}{mg:Str→Option Value}{base:Heap}{k:Nat}{f:Addr}{name qual:Str}{params:Arguments}{body:List Stmt}{scope:Scope}{dV kV doc pm cdv ct oc:Value}{an od:Option Addr}
  {osl:Array (Option Value)} {N ps:List Str} {sp:Sp} (lk:K.lookup f=some ⟨oc,od,.func (G6 name qual params body scope dV kV doc pm an cdv ct),osl⟩) (hcd:N7 K cdv qual=true) (S:bO N ps scope)
  (len:∀vs H Q E,sp vs H Q E→vs.length=ps.length)
  (hbody:∀(A:Around)(outer:List Env)(s:Shared)(H:Hp)(vs:List V)(Q:VK)(E:XK),kI k (A.deeper (envOfC qual scope s.heap.objs.size f cdv))→sp vs H Q E →
   ∃t,Ce (jL CX P w K mg base N qual scope f cdv A outer s H E) body t∧t {nx:=λ_ H'=>Q .non H',rt:=Q} (start N vs) H) :
  uD P w K mg base CX (k+1) f (G6 name qual params body scope dV kV doc pm an cdv ct) ps sp:=by
 refine⟨len,λA outer s H args us vs Q E hr e0 hb r hsp=>?_⟩
 have hl:=len _ _ _ _ hsp
 have KX:K.In s.heap:=e0.mod.il.keeps λb o e=>(e0.bs b o e).1
 have lim:s.heap.NoLimit:=e0.mod.nolimit.keeps λb o e=>(e0.bs b o e).1
 have hkind:∀y∈ps.zip us,scope.names.lookup y.1=some .local∨(scope.names.lookup y.1=some .cell∧((cellsFrom (s.heap.objs.size+1) scope.names []).lookup y.1).isSome=true):=λ⟨n,v⟩ hy=>by
  rcases S.par n (U2 hy).1 with q | q
  ·exact .inl q
  ·exact .inr ⟨q,U3 _ _ _ (.inl q)⟩
 refine codeAny_call_function hr.depth (KX _ _ lk) rfl S.co S.gen rfl (PySem.W.codeRec_of KX hcd) (hb _ _ _ _ ?_)
 refine wpAny_newFunctionEnv_cells S.kind hkind λenv he s1 x=>?_
 subst he
 refine⟨lim.keeps x.toInCall.keep,codeAny_func ?_⟩
 obtain⟨t,ht,hq⟩:=hbody A outer s H vs Q E (hr.deeper _) hsp
 have I:Inv (jL CX P w K mg base N qual scope f cdv A outer s H E) [] (start N vs) H s1:=Rp S hr.hd e0 hl r x
 refine wpAny_mono (ht [] s1 (start N vs) H _ I hq) (λfl s' hs=>?_) λe s' hs=>hs
 have fin:∀{σ':St} {H':Hp} {v:V} {u:Value},Inv (jL CX P w K mg base N qual scope f cdv A outer s H E) [] σ' H' s'→RelV v u→Q v H'→CE outer P w H s Q u s':=
  λ{σ' H' v u} J rv q=>⟨v,H',J.os,J.bare,J.base,J.hok,rv,q⟩
 cases fl with
 | ret u=>
  obtain⟨v,σ',H',J,rv,q⟩:=hs
  exact fin J rv q
 | next=>
  obtain⟨σ',H',J,q⟩:=hs
  exact fin (v:=V.non) (u:=Value.none) J rfl q
 | brk=>
  obtain⟨_,_,_,q⟩:=hs
  exact False.elim q
 | cont=>
  obtain⟨_,_,_,q⟩:=hs
  exact False.elim q
end L2
namespace L2
open PySem PySem.Spec PyProof.Rows
section
variable{X:Cx}{x:Str}{p pos:Pos}{e:Expr}{es:List Expr}{t:TA}{id T:String}{r:List V→Hp→VK→Prop}
def Zv(r:List V→Hp→VK→Prop)(t:TA):TE:=λσ H Q=>t σ H λvs H1=>r vs H1 Q
theorem pM(hc:iV X (.builtin id) r)(hg:Gl X x)(hm:X.mg x=none)(hv:bootBuiltins x=some (.builtin id))(ha:PA X (e::es) t)(hn:x ≠ "__name__" := by decide) (hdb:(x==("__debug__" : Str))=false:=by decide)
  (he:starEach (e::es) X.env=(false,eval e X.env)::starEach es X.env:=by rfl) (hpl:(backTo pos (starEach es X.env)).any (·.1)=false:=by rfl):PE X (.Call (.Name x p) (e::es) [] pos) (Zv r t):=by
 intro pins s σ H Q I h
 refine wpAny_Call_Name_kw (Ep I hg hm hv ?_ hn hdb)
 exact PyProof.Rows.callWith_builtin1 (eY (ha pos pins s σ H _ I h) λus s1 ⟨vs,H1,I1,r1,q1⟩=>hc pins s1 σ H1 vs us Q I1 r1 q1) he hpl
theorem Rq(hc:iV X (.type T) r)(hg:Gl X x)(hm:X.mg x=none)(hv:bootBuiltins x=some (.type T))(ha:PA X (e::es) t)(hn:x ≠ "__name__" := by decide) (hdb:(x==("__debug__" : Str))=false:=by decide)
  (he:starEach (e::es) X.env=(false,eval e X.env)::starEach es X.env:=by rfl) (hpl:(backTo pos (starEach es X.env)).any (·.1)=false:=by rfl):PE X (.Call (.Name x p) (e::es) [] pos) (Zv r t):=by
 intro pins s σ H Q I h
 refine wpAny_Call_Name_kw (Ep I hg hm hv ?_ hn hdb)
 exact S2 (eY (ha pos pins s σ H _ I h) λus s1 ⟨vs,H1,I1,r1,q1⟩=>hc pins s1 σ H1 vs us Q I1 r1 q1) he hpl
end
end L2
namespace HT
open PySem PyProof.Rows
section
open PySem.SeqAt
open PySem.AutoSeq1 (wpAny_loadPart')
open PySem.MeetsSeq PySem.MeetsSeq2 PySem.MeetsSeq3
end
section
variable{prog:Program}{w:World}{A:Around}{E:Value→Shared→Prop}{s:Shared}
def pJ(n d:Nat):Option Int→Nat
 | none=>d
 | some v=>if v<0 then(v+(n:Int)).toNat else min v.toNat n
theorem Ux(n d:Nat):pJ n d none=d:=rfl
end
end HT
namespace L2
open PySem PySem.Spec PyProof.Rows
abbrev TO:=St→Hp→(Option Int→Hp→Prop)→Prop
def PO(X:Cx)(e:Option Expr)(t:TO):Prop:=
 ∀(pins:List (Addr×Obj))(s:Shared)(σ:St)(H:Hp)(Q:Option Int→Hp→Prop),Inv X pins σ H s→t σ H Q →
  wpAny (model X.prog X.w) X.A (evalPart e X.env) (λu s'=>∃o H',Inv X pins σ H' s'∧IsPart u o∧Q o H') X.xe s
def Oi:TO:=λ_ H Q=>Q none H
def MJ(t:TE):TO:=λσ H Q=>t σ H λx H1=>∃i,x=.int i∧Q (some i) H1
section
variable{X:Cx}{e:Expr}{te:TE}{lo hi:Option Expr}{tl th:TO}{pos p2:Pos}
theorem Zw:PO X none Oi:=by
 intro pins s σ H Q I h
 rw[evalPart_none]
 exact wpAny_pure ⟨none,H,I,.none,h⟩
theorem Zx(h:PE X e te):PO X (some e) (MJ te):=by
 intro pins s σ H Q I hw
 rw[evalPart_some]
 refine eY (h pins s σ H _ I hw) λu s1 ⟨x,H1,I1,r1,q1⟩=>?_
 obtain⟨i,rfl,q⟩:=q1
 obtain⟨t,rfl⟩:=r1
 exact⟨some i,H1,I1,.int i t,q⟩
def vo(X:Cx)(r:V→Option Int→Option Int→Hp→VK→Prop):Prop:=
 ∀(pins:List (Addr×Obj))(s:Shared)(σ:St)(H:Hp)(x:V)(v vl vu:Value)(lo hi:Option Int)(sl:Addr)(Q:VK),Inv X pins σ H s→RelV x v→s.heap.IsSliceOf sl vl vu .none→IsPart vl lo→IsPart vu hi→r x lo hi H Q →
  ∃T id,typeLookup (.type T) "__getitem__" = pure (some (.builtin id))∧s.TypeIs v T∧wpAny (model X.prog X.w) X.A (getItem v (.ref sl)) (EP X pins σ Q) X.xe s
def yp(r:V→Option Int→Option Int→Hp→VK→Prop)(te:TE)(tl th:TO):TE:=λσ H Q=>te σ H λx H1=>tl σ H1 λl H2=>th σ H2 λu H3=>r x l u H3 Q
theorem Ii{r:V→Option Int→Option Int→Hp→VK→Prop}(hr:vo X r)(he:PE X e te)(hl:PO X lo tl)(hu:PO X hi th):PE X (.Subscript e (.Slice lo hi none p2) pos) (yp r te tl th):=by
 intro pins s σ H Q I h
 refine Subscript_ (eY (he pins s σ H _ I h) λv s1 ⟨x,H1,I1,r1,q1⟩=>?_)
 refine wpAny_Slice (eY (hl pins s1 σ H1 _ I1 q1) λvl s2 ⟨l,H2,I2,pl,q2⟩=>eY (hu pins s2 σ H2 _ I2 q2) λvu s3 ⟨u,H3,I3,pu,q3⟩=>?_)
 rw[evalPart_none]
 refine wpAny_pure ?_
 have I4:Inv X pins σ H3 {s3 with heap:=s3.heap.push {cls:=.type "slice", data:=.fields #[vl,vu,.none]}}:=I3.kept (t':=s3.toks) λb ob q=>Heap.get?_push_of_some _ q
 obtain⟨T,id,hT,ht,hg⟩:=hr pins {s3 with heap:=s3.heap.push {cls:=.type "slice", data:=.fields #[vl,vu,.none]}} σ H3 x v vl vu l u s3.heap.objs.size Q I4 r1 (Heap.IsSliceOf.new ..) pl pu q3
 show wpAny (model X.prog X.w) X.A (subscriptTail e (.Slice lo hi none p2) v (.ref s3.heap.objs.size)) (EP X pins σ Q) X.xe {s3 with heap:=s3.heap.push {cls:=.type "slice", data:=.fields #[vl,vu,.none]}}
 exact tail_any (ops:=[.ref s3.heap.objs.size,v]) ht hT hg (by with_unfolding_all rfl)
def Lh(xs:List V)(lo hi:Option Int):List V:=(xs.drop (HT.pJ xs.length 0 lo)).take (HT.pJ xs.length xs.length hi-HT.pJ xs.length 0 lo)
theorem Ij(xs:List V)(lo hi:Option Int):(Lh xs lo hi).length≤xs.length:=by
 unfold Lh
 rw[J9,M4]
 omega
end
end L2
namespace L2
open PySem PySem.Spec PyProof.Rows
def Oj(n:Nat)(i:Int):Option Nat:=if 0≤i then(if i<n then some i.toNat else none)else if -(n:Int)≤i then some (i+n).toNat else none
def Ik{α:Type}(xs:List α)(i:Int):Option α:=(Oj xs.length i).bind λj=>xs[j]?
theorem Ol{n:Nat}{i:Int}{j:Nat}(h:Oj n i=some j):seqIndex? i n=some j∧j<n∧-(n:Int)≤i∧i<n:=by
 unfold Oj at h
 by_cases h0:0≤i
 ·rw[if_pos h0]at h
  by_cases h1:i<n
  ·rw[if_pos h1]at h
   have e:i.toNat=j:=G1 h
   exact⟨by rw[seqIndex_of h0 h1,e],by omega,by omega,h1⟩
  ·rw[if_neg h1]at h;cases h
 ·rw[if_neg h0]at h
  by_cases h1:-(n:Int)≤i
  ·rw[if_pos h1]at h
   have e:(i+n).toNat=j:=G1 h
   exact⟨by rw[seqIndex_neg (by omega) h1,e],by omega,h1,by omega⟩
  ·rw[if_neg h1]at h;cases h
theorem Eu{α:Type}{xs:List α}{i:Int}{v:α}(h:Ik xs i=some v):∃j,seqIndex? i xs.length=some j∧xs[j]?=some v∧j<xs.length∧-(xs.length:Int)≤i∧i<xs.length:=by
 unfold Ik at h
 cases e:Oj xs.length i with
 | none=>rw[e]at h;cases h
 | some j=>
  rw[e]at h
  obtain⟨h1,h2,h3,h4⟩:=Ol e
  exact⟨j,h1,h,h2,h3,h4⟩
theorem Zy{α:Type}{xs:List α}{j:Nat}{v:α}(h:xs[j]?=some v):Ik xs (j:Int)=some v:=by
 have hj:j<xs.length:=(C4.mp h).1
 have e:Oj xs.length (j:Int)=some j:=by
  unfold Oj
  rw[if_pos (by omega),if_pos (by omega)];simp
 unfold Ik;rw[e];exact h
def xR(b:Expr):Prop:=∀o i,subscripted b false o i=operate [o,i] (getItem o i)
def Za(X:Cx)(r:R2):Prop:=
 ∀(value slice:Expr)(pins:List (Addr×Obj))(s:Shared)(σ:St)(H:Hp)(x y:V)(v u:Value)(Q:VK),Inv X pins σ H s→RelV x v→RelV y u→r x y H Q →
  subscripted slice false v u=operate [v,u] (getItem v u)→wpAny (model X.prog X.w) X.A (subscriptTail value slice v u) (EP X pins σ Q) X.xe s
def ji(X:Cx)(id:String)(r:V→List V→Hp→VK→Prop):Prop:=
 ∀(pins:List (Addr×Obj))(s:Shared)(σ:St)(H:Hp)(x:V)(xs:List V)(v:Value)(us:List Value)(Q:VK),Inv X pins σ H s→RelV x v→Vals xs us→r x xs H Q →
  wpAny (model X.prog X.w) X.A (call (.builtin id) (v::us)) (EP X pins σ Q) X.xe s
section
variable{X:Cx}{a b:Expr}{ta tb:TE}{pos:Pos}
theorem Za.or{r r':R2}(h:Za X r)(h':Za X r'):Za X (λx y H Q=>r x y H Q∨r' x y H Q):=by
 intro value slice pins s σ H x y v u Q I rx ry q hs
 rcases q with q | q
 ·exact h value slice pins s σ H x y v u Q I rx ry q hs
 ·exact h' value slice pins s σ H x y v u Q I rx ry q hs
theorem Uy{r:R2}(hr:Za X r)(ha:PE X a ta)(hb:PE X b tb)(hs:xR b):PE X (.Subscript a b pos) (Ck r ta tb):=by
 intro pins s σ H Q I h
 exact Subscript_ (RL ha hb I h λv u s2 x y H2 I2 rx ry q=>hr a b pins s2 σ H2 x y v u Q I2 rx ry q (hs _ _))
def jj(K:aA):R2:=λx y H Q=>∃p xs i v,x=.ref p∧y=.int i∧mC K H p xs∧Ik xs i=some v∧Q v H
def jk(K:aA):R2:=λx y H Q=>∃p xs i v,x=.ref p∧y=.int i∧pI K H p xs∧Ik xs i=some v∧Q v H
def SN:R2:=λx y H Q=>∃z i c,x=.str z∧y=.int i∧z.length≤sizeLine∧Ik z.cps.toList i=some c∧Q (.str ⟨#[c]⟩) H
theorem Zz:Za X (jj X.K):=by
 intro value slice pins s σ H x y v u Q I rx ry h hs
 obtain⟨p,xs,i,z,rfl,rfl,hq,he,q⟩:=h
 cases rx
 obtain⟨t,rfl⟩:=ry
 obtain⟨its,r,pl,hz⟩:=I.list hq
 obtain⟨j,h1,h2,h3,h4,h5⟩:=Eu he
 obtain⟨w,ew,Li⟩:=r.get h2
 have hl:=r.length
 have hn:=vI
 have fin:EP X pins σ Q w s:=⟨z,H,I,Li,q⟩
 by_cases h0:0≤i
 ·have hj:i.toNat=j:=by
   rw[seqIndex_of h0 h5]at h1
   exact G1 h1
  exact item_listR pl.isList h0 (by omega) (by rw[hj];simpa using ew) fin hs
 ·have hj:(i+(its.toArray.size:Int)).toNat=j:=by
   rw[seqIndex_neg (by omega) h4]at h1
   rw[B7,←hl]
   exact G1 h1
  exact subscriptTail_builtinR (x:=w) pl.isList.typeIs slot_list_getitem.lookup
   (wpAny_getItem_list_neg (Q:=λr s'=>r=w∧EP X pins σ Q r s') pl.isList (by omega) (by rw[B7]<;>omega) (by omega) (by rw[hj];simpa using ew) ⟨rfl,fin⟩) hs
theorem SQ:Za X (jk X.K):=by
 intro value slice pins s σ H x y v u Q I rx ry h hs
 obtain⟨p,xs,i,z,rfl,rfl,hq,he,q⟩:=h
 cases rx
 obtain⟨t,rfl⟩:=ry
 obtain⟨its,r,pl,hz⟩:=I.tuple hq
 obtain⟨j,h1,h2,h3,h4,h5⟩:=Eu he
 obtain⟨w,ew,Li⟩:=r.get h2
 have hl:=r.length
 have hn:=vI
 have fin:EP X pins σ Q w s:=⟨z,H,I,Li,q⟩
 exact subscriptTail_builtinR (x:=w) pl.typeIs slot_tuple_getitem.lookup
  (getItem_tuple (j:=j) (Q:=λr s'=>r=w∧EP X pins σ Q r s') pl (by omega) (by omega) (by rw[B7,←hl];exact h1) (by simpa using ew) ⟨rfl,fin⟩) hs
theorem Uz:Za X SN:=by
 intro value slice pins s σ H x y v u Q I rx ry h hs
 obtain⟨z,i,c,rfl,rfl,hz,he,q⟩:=h
 obtain⟨t,rfl⟩:=rx
 obtain⟨t',rfl⟩:=ry
 obtain⟨j,h1,h2,h3,h4,h5⟩:=Eu he
 have hl:z.cps.toList.length=z.length:=by simp[Str.length]
 rw[hl]at h1 h4 h5
 have hn:=vI
 exact tail_any (typeIs_str s z t) slot_str_getitem.lookup (getItem_str (c:=c) (by
  have e1:decide (i < -(2 ^ 63:Int))=false:=decide_eq_false (by omega)
  have e2:decide (i≥2 ^ 63)=false:=decide_eq_false (by omega)
  rw[e1,e2,Bool.or_false]) (by rw[h1];simpa using h2) ⟨.str ⟨#[c]⟩,H,I.tok _,⟨_,rfl⟩,q⟩) hs
def vp(K:aA):R2:=λx y H Q=>jj K x y H Q∨jk K x y H Q∨SN x y H Q
theorem SX:Za X (vp X.K):=Zz.or (SQ.or Uz)
theorem Lj(its:List Value)(n j:Nat)(u:Value):Obj.mapSeq (·.setIfInBounds j u) {cls:=.type "list", data:=.seq its.toArray n}={cls:=.type "list", data:=.seq (its.set j u).toArray n}:=by
 simp[Obj.mapSeq]
theorem Inv.lst{pins:List (Addr×Obj)}{σ:St}{H:Hp}{s:Shared}{p:Addr}{xs:List V}(I:Inv X pins σ H s)(h:H p=some (.lst xs)) :
  ∃(its:List Value)(n:Nat),Vals xs its∧s.heap.get? p=some {cls:=.type "list", data:=.seq its.toArray n}∧xs.length≤sizeLine:=by
 obtain⟨z,its,n,r,e⟩:=I.hok p _ h
 exact⟨its,n,r,e,z⟩
theorem Inv.TF{pins:List (Addr×Obj)}{σ:St}{H:Hp}{s:Shared}{p:Addr}{xs ys:List V}{its its':List Value}{n n':Nat}{f:Obj→Obj}(I:Inv X pins σ H s)(h:H p=some (.lst xs))
  (ho:s.heap.get? p=some {cls:=.type "list", data:=.seq its.toArray n}) (hf:f {cls:=.type "list", data:=.seq its.toArray n}={cls:=.type "list", data:=.seq its'.toArray n'}) (r:Vals ys its') (hz:ys.length≤sizeLine) (t:Nat) :
  Inv X pins σ (upd H p (.lst ys)) {s with heap:=s.heap.update p f,toks:=t}:=by
 have e:(s.heap.update p f).get? p=some {cls:=.type "list", data:=.seq its'.toArray n'}:=by
  rw[Heap.get?_update_self f ho (by rw[hf]<;>rfl),hf]
 refine I.write (x:=p) (e:=p) (by rw[h];trivial) (.inl rfl) (λb u hb q=>(Heap.get?_update_other _ _ (Ne.symm hb)).trans q) ⟨_,e⟩ ?_
 exact⟨hz,its',n',r,e⟩
def Om:V→V→V→Hp→(Hp→Prop)→Prop:=λo i v H Q=>∃p xs k j,o=.ref p∧i=.int k∧H p=some (.lst xs)∧Oj xs.length k=some j∧Q (upd H p (.lst (xs.set j v)))
theorem set_list:jb X Om:=by
 intro pins s σ H o i v ov iv u Q I ro ri rv h
 obtain⟨p,xs,k,j,rfl,rfl,hp,hj,q⟩:=h
 cases ro
 obtain⟨t,rfl⟩:=ri
 obtain⟨its,n,r,ho,hz⟩:=I.lst hp
 obtain⟨h1,h2,h3,h4⟩:=Ol hj
 have hl:=r.length
 have hn:=vI
 have I':Inv X pins σ (upd H p (.lst (xs.set j v))) {s with heap:=s.heap.update p (Obj.mapSeq (·.setIfInBounds j u))}:=
  I.TF hp ho (Lj its n j u) (r.set rv j) (by rw[O3];exact hz) s.toks
 by_cases h0:0≤k
 ·have hk:k.toNat=j:=by
   rw[seqIndex_of h0 h4]at h1
   exact G1 h1
  exact PySem.W.ki_setAt ho h0 (by omega) (by rw[B7,←hl];exact h4) (by rw[hk];exact⟨_,I',q⟩)
 ·have hk:(k+(its.toArray.size:Int)).toNat=j:=by
   rw[seqIndex_neg (by omega) h3]at h1
   rw[B7,←hl]
   exact G1 h1
  exact PySem.W.ki_setBack ho (by omega) (by rw[B7,←hl];exact h3) (by omega) (by rw[hk];exact⟨_,I',q⟩)
theorem Ew(lo hi:Option Int)(n:Nat):(sliceBounds lo hi none n).1=((HT.pJ n 0 lo:Nat):Int)∧(sliceBounds lo hi none n).2.1=((HT.pJ n n hi:Nat):Int)∧(sliceBounds lo hi none n).2.2=1:=by
 refine⟨?_,?_,rfl⟩
 ·cases lo with
  | none=>simp[sliceBounds,HT.pJ]
  | some i=>
   simp only[sliceBounds,HT.pJ,X1,show (1:Int) > 0 by decide,if_true]
   by_cases h:i<0
   ·simp only[h,if_true]<;>omega
   ·simp only[h,if_false]<;>omega
 ·cases hi with
  | none=>simp[sliceBounds,HT.pJ]
  | some i=>
   simp only[sliceBounds,HT.pJ,X1,show (1:Int) > 0 by decide,if_true]
   by_cases h:i<0
   ·simp only[h,if_true]<;>omega
   ·simp only[h,if_false]<;>omega
theorem Bj(its:List Value)(lo hi:Option Int):slicePick its.toArray lo hi none=((its.drop (HT.pJ its.length 0 lo)).take (HT.pJ its.length its.length hi-HT.pJ its.length 0 lo)).toArray:=by
 obtain⟨h1,h2,h3⟩:=Ew lo hi its.toArray.size
 unfold slicePick
 rw[h1,h2,h3]
 simp only[sliceRange_one,pick_run,B7]<;>rfl
def TJ(K:aA):V→Option Int→Option Int→Hp→VK→Prop:=λx lo hi H Q=>∃a xs,x=.ref a∧mC K H a xs∧∀p,H p=none→Q (.ref p) (upd H p (.lst (Lh xs lo hi)))
theorem BJ:vo X (TJ X.K):=by
 intro pins s σ H x v vl vu lo hi sl Q I rx hs pl pu h
 obtain⟨a,xs,rfl,hx,q⟩:=h
 cases rx
 obtain⟨its,r,ht,hz⟩:=I.list hx
 have hlen:=r.length
 refine⟨"list", _,slot_list_getitem.lookup,ht.isList.typeIs,?_⟩
 refine wpAny_getItem_list_slice ht.isList hs pl pu .none (by simp) ?_ (by rw[B7]<;>omega)
 rw[Bj,←hlen]
 refine⟨.ref s.heap.objs.size,_,I.laid (t':=s.toks) (o:=.lst (Lh xs lo hi)) (λb ob q=>Heap.get?_push_of_some _ q) (D2 _) ?_,rfl,q _ (I.hok.fresh (D2 _))⟩
 exact⟨F0 (Ij xs lo hi) hz,_,0,(r.drop (HT.pJ xs.length 0 lo)).take (HT.pJ xs.length xs.length hi-HT.pJ xs.length 0 lo),Heap.get?_push_size _ rfl⟩
def pN:V→Bool
 | .non=>true
 | .bl _=>true
 | .int _=>true
 | .str _=>true
 | _=>false
def MK:V→V→Bool
 | .non,.non=>true
 | .bl a,.bl b=>a==b
 | .bl a,.int b=>(if a then 1 else 0)==b
 | .int a,.bl b=>a==(if b then 1 else 0)
 | .int a,.int b=>a==b
 | .str a,.str b=>a==b
 | _,_=>false
theorem TQ{A:Around}{s:Shared}{y x:V}{u v:Value}(ry:RelV y u)(rx:RelV x v)(fy:pN y=true)(fx:pN x=true):SeqAt.EqAt A s u v (MK y x):=by
 cases y with
 | non=>
  cases ry
  cases x with
  | non=>cases rx;exact SeqAt.EqAt.same _
  | bl b=>cases rx;exact SeqAt.EqAt.none_bool b
  | int b=>obtain⟨t,rfl⟩:=rx;exact SeqAt.EqAt.none_int b t
  | str b=>obtain⟨t,rfl⟩:=rx;exact SeqAt.EqAt.none_str b t
  | _=>exact absurd (show false=true from fx) B8
 | bl a=>
  cases ry
  cases x with
  | non=>cases rx;exact SeqAt.EqAt.bool_none a
  | bl b=>cases rx;exact SeqAt.EqAt.bool_bool a b
  | int b=>obtain⟨t,rfl⟩:=rx;exact SeqAt.EqAt.bool_int a b t
  | str b=>obtain⟨t,rfl⟩:=rx;exact SeqAt.EqAt.bool_str a b t
  | _=>exact absurd (show false=true from fx) B8
 | int a=>
  obtain⟨t',rfl⟩:=ry
  cases x with
  | non=>cases rx;exact SeqAt.EqAt.int_none a t'
  | bl b=>cases rx;exact SeqAt.EqAt.int_bool a t' b
  | int b=>obtain⟨t,rfl⟩:=rx;exact SeqAt.EqAt.int_int a t' b t
  | str b=>obtain⟨t,rfl⟩:=rx;exact SeqAt.EqAt.int_str a t' b t
  | _=>exact absurd (show false=true from fx) B8
 | str a=>
  obtain⟨t',rfl⟩:=ry
  cases x with
  | non=>cases rx;exact SeqAt.EqAt.str_none a t'
  | bl b=>cases rx;exact SeqAt.EqAt.str_bool a t' b
  | int b=>obtain⟨t,rfl⟩:=rx;exact SeqAt.EqAt.str_int a t' b t
  | str b=>obtain⟨t,rfl⟩:=rx;exact SeqAt.EqAt.str_str a t' b t
  | _=>exact absurd (show false=true from fx) B8
 | _=>exact absurd (show false=true from fy) B8
def BK(x:V)(u:Value):Bool:=match u with
 | .none=>MK .non x
 | .bool b=>MK (.bl b) x
 | .int i _=>MK (.int i) x
 | .str z _=>MK (.str z) x
 | _=>false
theorem Va{x y:V}{u:Value}(r:RelV y u)(f:pN y=true):BK x u=MK y x:=by
 cases y with
 | non=>cases r;rfl
 | bl b=>cases r;rfl
 | int i=>obtain⟨t,rfl⟩:=r;rfl
 | str z=>obtain⟨t,rfl⟩:=r;rfl
 | _=>exact absurd (show false=true from f) B8
theorem Ey{x:V}:∀{xs:List V} {us:List Value},Vals xs us→xs.all pN=true→us.any (BK x)=xs.any λy=>MK y x
 | _,_,.nil,_=>rfl
 | y::xs,u::us,.cons r t,f=>by
  rw[K3,B4]at f
  rw[Q1,Q1,Va r f.1,Ey t f.2]
theorem yN{A:Around}{s:Shared}{x:V}{v:Value}(rx:RelV x v)(fx:pN x=true):∀{xs:List V} {us:List Value},Vals xs us→xs.all pN=true→∀u∈us,SeqAt.EqAt A s u v (BK x u)
 | _,_,.nil,_=>λu hu=>by cases hu
 | y::xs,u::us,.cons r t,f=>λu' hu=>by
  rw[K3,B4]at f
  rcases G2.mp hu with rfl | hu
  ·rw[Va r f.1];exact TQ r rx f.1 fx
  ·exact yN rx fx t f.2 u' hu
def inV(x:V)(xs:List V):Bool:=xs.any λy=>MK y x
def yq(K:aA)(neg:Bool):R2:=λx y H Q=>∃p xs,y=.ref p∧(mC K H p xs∨pI K H p xs)∧pN x=true∧xs.all pN=true∧Q (.bl (if neg then !inV x xs else inV x xs)) H
theorem Rr:lQ X (compareOp .In) (yq X.K false):=by
 intro pins s σ H x y v u Q I rx ry h
 obtain⟨p,xs,rfl,hq,fx,fs,q⟩:=h
 cases ry
 rcases hq with hq | hq
 ·obtain⟨its,r,pl,hz⟩:=I.list hq
  refine SeqAt.in_listAt (BK x) pl.isList (λw hw=>yN rx fx r fs w (by simpa using hw)) ⟨.bl _,H,I,rfl,?_⟩
  rw[show its.toArray.any (BK x)=its.any (BK x) by simp,Ey r fs]
  exact q
 ·obtain⟨its,r,pl,hz⟩:=I.tuple hq
  refine SeqAt.in_tupleAt (BK x) pl (λw hw=>yN rx fx r fs w (by simpa using hw)) ⟨.bl _,H,I,rfl,?_⟩
  rw[show its.toArray.any (BK x)=its.any (BK x) by simp,Ey r fs]
  exact q
theorem Ez:iV X (.builtin "len") (λxs H Q=>∃p ys,xs=[.ref p]∧(mC X.K H p ys∨pI X.K H p ys)∧Q (.int ys.length) H):=by
 intro pins s σ H xs us Q I r h
 obtain⟨p,ys,rfl,hq,q⟩:=h
 obtain⟨u,rfl,rx⟩:=vals1 r
 cases rx
 have hn:=vI
 rcases hq with hq | hq
 ·obtain⟨its,r',pl,hz⟩:=I.list hq
  have hlen:=r'.length
  exact Calls.call_len_list pl.isList (by simp only[B7]<;>omega) ⟨.int ys.length,H,I.tok _,⟨s.toks+1,by rw[B7,hlen]⟩,q⟩
 ·obtain⟨its,r',pl,hz⟩:=I.tuple hq
  have hlen:=r'.length
  exact len_tuple pl (by simp only[B7]<;>omega) ⟨.int ys.length,H,I.tok _,⟨s.toks+1,by rw[B7,hlen]⟩,q⟩
theorem lG:iV X (.builtin "len") (λxs H Q=>∃z,xs=[.str z]∧z.length≤sizeLine∧Q (.int z.length) H):=by
 intro pins s σ H xs us Q I r h
 obtain⟨z,rfl,hz,q⟩:=h
 obtain⟨u,rfl,t,rfl⟩:=vals1 r
 have hn:=vI
 exact len_str (by omega) ⟨.int z.length,H,I.tok _,⟨_,rfl⟩,q⟩
theorem Bk:iV X (.type "tuple") (λxs H Q=>∃p ys,xs=[.ref p]∧((mC X.K H p ys∧∀l,H l=none→Q (.ref l) (upd H l (.tup ys)))∨(pI X.K H p ys∧Q (.ref p) H))):=by
 intro pins s σ H xs us Q I r h
 obtain⟨p,ys,rfl,h⟩:=h
 obtain⟨u,rfl,rx⟩:=vals1 r
 cases rx
 rcases h with ⟨hq,q⟩ | ⟨hq,q⟩
 ·obtain⟨its,r',pl,hz⟩:=I.list hq
  have hlen:=r'.length
  refine call_tuple_list pl.isList (λh' kp=>?_) (by simp only[B7]<;>omega)
  have I1:Inv X pins σ H {s with heap:=h'}:=I.kept (t':=s.toks) kp
  have I2:Inv X pins σ (upd H h'.objs.size (.tup ys)) {s with heap:=h'.push {cls:=.type "tuple", data:=.seq its.toArray}}:=
   I1.laid (t':=s.toks) (λb o e=>Heap.get?_push_of_some _ e) (D2 _) (show gY X.prog X.w _ _ _ (.tup ys)from⟨hz,its,r',IsTup.new _ _⟩)
  exact⟨.ref h'.objs.size,_,I2,rfl,q _ (I1.hok.fresh (D2 _))⟩
 ·obtain⟨its,r',pl,hz⟩:=I.tuple hq
  exact call_tuple_same pl ⟨.ref p,H,I,rfl,q⟩
def tyV(K:aA)(T:String)(x:V)(H:Hp):Prop:=match x with
 | .str _=>T = "str"
 | .int _=>T = "int"
 | .ref p=>(T = "list" ∧ ∃xs,mC K H p xs)∨(T = "tuple" ∧ ∃o,K.lookup p=some o∧o.cls=.type "tuple" ∧ o.dict=none) ∨
   (T = "dict" ∧ ((∃kvs,H p=some (.dK kvs))∨∃kvs,H p=some (.dT kvs)))∨(T = "set" ∧ ∃S n,H p=some (.set S n))
 | _=>False
theorem TV{pins:List (Addr×Obj)}{σ:St}{H:Hp}{s:Shared}{T:String}{x:V}{v:Value}(I:Inv X pins σ H s)(r:RelV x v)(ty:tyV X.K T x H) :
  s.TypeIs v T∧∀a,v=.ref a→∃ob,s.heap.get? a=some ob∧ob.dict=none:=by
 cases x with
 | str z=>
  obtain⟨t,rfl⟩:=r
  cases(show T = "str" from ty)
  exact⟨typeIs_str s z t,λ_ e=>nomatch e⟩
 | int i=>
  obtain⟨t,rfl⟩:=r
  cases(show T = "int" from ty)
  exact⟨typeIs_int s i t,λ_ e=>nomatch e⟩
 | ref p=>
  cases r
  rcases ty with ⟨rfl,xs,hq⟩ | ⟨rfl,o,hk,hc,hd⟩ | ⟨rfl,hk⟩ | ⟨rfl,S,n,hk⟩
  ·obtain⟨its,_,pl,_⟩:=I.list hq
   refine⟨pl.isList.typeIs,λa e=>?_⟩
   cases e
   obtain⟨o,n,e,c,hd,_⟩:=pl
   exact⟨o,e,hd⟩
  ·refine⟨⟨o,I.uA p o hk,hc⟩,λa e=>?_⟩
   cases e
   exact⟨o,I.uA _ o hk,hd⟩
  ·have z:∃o,s.heap.get? p=some o∧o.ExactDict:=by
    rcases hk with ⟨kvs,hk⟩ | ⟨kvs,hk⟩
    ·obtain⟨_,_,_,_,o,_,_,e,ex,_⟩:=I.hok p _ hk
     exact⟨o,e,ex⟩
    ·obtain⟨_,_,_,_,o,_,_,e,ex,_⟩:=I.hok p _ hk
     exact⟨o,e,ex⟩
   obtain⟨o,e,ex⟩:=z
   refine⟨⟨o,e,ex.1⟩,λa e2=>?_⟩
   cases e2
   exact⟨o,e,ex.2.1⟩
  ·obtain⟨o,_,_,_,e,ex,_⟩:=I.hok p _ hk
   refine⟨⟨o,e,ex.1⟩,λa e2=>?_⟩
   cases e2
   exact⟨o,e,ex.2.1⟩
 | _=>exact False.elim ty
def Bl(K:aA)(T:String)(r:V→List V→Hp→VK→Prop)(to:TE)(t:TA):TE:=λσ H Q=>to σ H λx H1=>tyV K T x H1∧t σ H1 λxs H2=>r x xs H2 Q
variable{o e:Expr}{es:List Expr}{to:TE}{t:TA}{name:Str}{apos cpos:Pos}{T id:String}{r:V→List V→Hp→VK→Prop}
theorem gD(pa:PlainAttrs T)(slot:Slot T name id)(hty:typeOf (.builtin id)=pure (.type "method_descriptor")) (hm:ji X id r) (ho:PE X o to) (ha:PA X (e::es) t)
  (hbase:attributeBase o name X.env (eval o X.env)=eval o X.env:=by rfl)
  (hfew:((backTo cpos (starEach (e::es) X.env)).all (λx=>!x.1)&&(backToKw cpos (keywordEach [] X.env)).all (λx=>x.1.isSome)
   && decide ((e::es).length+([]:List Keyword).length+(if([]:List Keyword).isEmpty then 0 else 1)<30))=true:=by rfl)
  (hline:(apos.endLine==cpos.line)=true:=by rfl) (hs:starEach (e::es) X.env=(false,eval e X.env)::starEach es X.env:=by rfl) (hplain:(backTo cpos (starEach es X.env)).any (·.1)=false:=by rfl) :
  PE X (.Call (.Attribute o name apos) (e::es) [] cpos) (Bl X.K T r to t):=by
 intro pins s σ H Q I h
 refine wpAny_Call_method_late hbase hfew hline rfl (eY (ho pins s σ H _ I h) λv s1 ⟨x,H1,I1,r1,ty,q1⟩=>?_)
 obtain⟨h1,h2⟩:=TV I1 r1 ty
 refine⟨T,id,pa,slot,hty,h1,h2,?_⟩
 have hA:=ha cpos pins s1 σ H1 _ I1 q1
 rw[hs]at hA ⊢
 refine Calls.callWith_builtin (by show (false||(backTo cpos (starEach es X.env)).any (·.1))=false;rw[hplain]<;>rfl) (Calls.evalArgs_plain ?_)
 exact eY hA λus s2 ⟨vs,H2,I2,r2,q2⟩=>hm pins s2 σ H2 x vs v us Q I2 r1 r2 q2
end
end L2
namespace L2
open PySem PySem.Spec PyProof.Rows
def yr(X:Cx)(id:String)(r:V→List V→Hp→VK→Prop):Prop:=
 ∀(pins:List (Addr×Obj))(s:Shared)(σ:St)(H:Hp)(x:V)(xs:List V)(v:Value)(us:List Value)(Q:VK),Inv X pins σ H s→RelV x v→Vals xs us→r x xs H Q →
  wpAny (model X.prog X.w) X.A (call (.builtin id) (v::us)) (EP X pins σ Q) X.xe s
theorem Vals.one:∀{x:V} {us:List Value},Vals [x] us→∃u,us=[u]∧RelV x u
 | _,_,.cons r .nil=>⟨_,rfl,r⟩
theorem Vals.two:∀{x y:V} {us:List Value},Vals [x,y] us→∃u v,us=[u,v]∧RelV x u∧RelV y v
 | _,_,_,.cons r (.cons q .nil)=>⟨_,_,rfl,r,q⟩
theorem Vals.eraseIdx:∀{xs:List V} {us:List Value} (i:Nat),Vals xs us→Vals (xs.eraseIdx i) (us.eraseIdx i)
 | _,_,_,.nil=>.nil
 | _,_,0,.cons _ t=>t
 | _,_,i+1,.cons r t=>.cons r (Vals.eraseIdx i t)
theorem Vals.rep{xs:List V}{us:List Value}(h:Vals xs us):∀k:Nat,Vals (B9 k xs).flatten (B9 k us).flatten
 | 0=>.nil
 | k+1=>by
  rw[G9,G9,M3,M3]
  exact Vals.append h (Vals.rep h k)
theorem Cy{α:Type}:∀(l:List α)(i:Nat),(l.eraseIdx i).length≤l.length
 | [],_=>D2 _
 | _::_,0=>P6 _
 | _::r,i+1=>Nat.succ_le_succ (Cy r i)
theorem foldl_rep(its:List Value):∀(k:Nat)(acc:List Value),
  X9 (λx1 x2=>x1++x2) acc.toArray (B9 k its.toArray)=(acc++(B9 k its).flatten).toArray
 | 0,acc=>by simp
 | k+1,acc=>by
  have e:acc.toArray++its.toArray=(acc++its).toArray:=by simp
  have e2:(acc++its)++(B9 k its).flatten=acc++(B9 (k+1) its).flatten:=by
   rw[G9,M3,W6]
  rw[←e2,←foldl_rep its k (acc++its),←e,G9,Y0]
section
variable{X:Cx}{pins:List (Addr×Obj)}{σ:St}{H:Hp}{s:Shared}{l b:Addr}{xs ys zs:List V}
theorem Inv.TX{its its':List Value}{n:Nat}{f:Array Value→Array Value}{t':Nat}(I:Inv X pins σ H s)(hH:H l=some (.lst xs))
  (e:s.heap.get? l=some {cls:=.type "list", data:=.seq its.toArray n}) (hf:f its.toArray=its'.toArray) (hv:Vals ys its') (hz:ys.length≤sizeLine) :
  Inv X pins σ (upd H l (.lst ys)) {s with heap:=s.heap.update l (Obj.mapSeq f),toks:=t'}:=by
 have q:=PySem.IsL.update e f
 rw[hf]at q
 refine I.write (x:=l) (e:=l) (by rw[hH];exact trivial) (.inl rfl) (λb' u hb hu=>(Heap.get?_update_other s.heap (Obj.mapSeq f) (Ne.symm hb)).trans hu) ⟨_,q⟩ ?_
 exact⟨hz,its',_,hv,q⟩
theorem Inv.Ru{its:List Value}{t':Nat}(I:Inv X pins σ H s)(hv:Vals ys its)(hz:ys.length≤sizeLine) :
  Inv X pins σ (upd H s.heap.objs.size (.lst ys)) {s with heap:=s.heap.push {cls:=.type "list", data:=.seq its.toArray},toks:=t'}:=
 I.laid (λ_ _ q=>Heap.get?_push_of_some _ q) (D2 _) ⟨hz,its,0,hv,Heap.get?_push_size _ rfl⟩
theorem Inv.fresh(I:Inv X pins σ H s):H s.heap.objs.size=none:=I.hok.fresh (D2 _)
theorem Inv.BL(I:Inv X pins σ H s)(hH:H l=some (.lst xs)):xs.length≤sizeLine∧∃(its:List Value)(n:Nat),Vals xs its∧xs.length=its.length∧s.heap.get? l=some {cls:=.type "list", data:=.seq its.toArray n}:=by
 obtain⟨z,its,n,r,e⟩:=I.hok l _ hH
 exact⟨z,its,n,r,r.length,e⟩
theorem Vb{n:Nat}(h:n≤sizeLine):Builtin.List.listTooLong n=false:=by
 unfold Builtin.List.listTooLong
 exact decide_eq_false (by omega)
end
section
variable{X:Cx}
def oO:V→List V→Hp→VK→Prop:=λx vs H Q=>∃l xs y,x=.ref l∧vs=[y]∧H l=some (.lst xs)∧xs.length<sizeLine∧Q .non (upd H l (.lst (xs++[y])))
theorem jM:yr X "list.append" oO:=by
 intro pins s σ H x vs v us Q I rx rv h
 obtain⟨l,xs,y,rfl,rfl,hH,hz,q⟩:=h
 cases rx
 obtain⟨u,rfl,ru⟩:=rv.one
 obtain⟨z,its,n,r,hl,e⟩:=I.BL hH
 refine call_meets F.slot_list_append ⟨_,e,rfl⟩ F.entry_list_append (F.args_list_append_2 _ _) (PySem.list_append l its.toArray n u (by rw[B7];omega)) ⟨e,?_⟩
 refine⟨.non,_,I.TX (its':=its++[u]) hH e (by simp) (r.append (.cons ru .nil)) ?_,rfl,q⟩
 rw[C6,D8]
 omega
def Fb:V→List V→Hp→VK→Prop:=λx vs H Q=>∃l xs i k y,x=.ref l∧vs=[.int i]∧H l=some (.lst xs)∧-(2 ^ 63)≤i∧i<2 ^ 63∧seqIndex? i xs.length=some k∧xs[k]?=some y∧Q y (upd H l (.lst (xs.eraseIdx k)))
theorem Vc:yr X "list.pop" Fb:=by
 intro pins s σ H x vs v us Q I rx rv h
 obtain⟨l,xs,i,k,y,rfl,rfl,hH,h1,h2,hk,hy,q⟩:=h
 cases rx
 obtain⟨u,rfl,ru⟩:=rv.one
 obtain⟨t,rfl⟩:=ru
 obtain⟨z,its,n,r,hl,e⟩:=I.BL hH
 obtain⟨w,hw,Li⟩:=r.get hy
 refine call_meets F.slot_list_pop ⟨_,e,rfl⟩ F.entry_list_pop (F.args_list_pop_2 _ _)
  (MeetsSeq.list_pop_at l its.toArray n i t k w (fitsIndex_both h1 h2) (by rw[B7,←hl];exact hk) (by rw[←U7];exact hw) (by rw[B7];omega)) ⟨e,?_⟩
 refine⟨y,_,I.TX (its':=its.eraseIdx k) hH e ?_ (r.eraseIdx k) ?_,Li,q⟩
 ·show its.toArray.eraseIdxIfInBounds k=(its.eraseIdx k).toArray
  rw[List.eraseIdxIfInBounds_toArray]
 ·have:=Cy xs k
  omega
def jl:R2:=λx y H Q=>∃l k xs,x=.ref l∧y=.int k∧H l=some (.lst xs)∧-(2 ^ 63)≤k∧k<2 ^ 63∧xs.length*k.toNat≤sizeLine ∧
 ∀p,H p=none→Q (.ref p) (upd H p (.lst (B9 k.toNat xs).flatten))
theorem len_rep{α:Type}(xs:List α)(k:Nat):(B9 k xs).flatten.length=k*xs.length:=by
 induction k with
 | zero=>simp
 | succ k ih=>rw[G9,M3,C6,ih,Nat.succ_mul,Nat.add_comm]
theorem TY:lQ X (binaryOp .Mult) jl:=by
 intro pins s σ H x y v u Q I rx ry h
 obtain⟨l,k,xs,rfl,rfl,hH,h1,h2,hz,q⟩:=h
 cases rx
 obtain⟨t,rfl⟩:=ry
 obtain⟨z,its,n,r,hl,e⟩:=I.BL hH
 have hlen:its.toArray.size*k.toNat≤sizeLine:=by rw[B7,←hl];exact hz
 have yu:¬its.toArray.size*k.toNat > (2 ^ 63-1)/8:=by
  have:(sizeLine:Nat)≤(2 ^ 63-1)/8:=by decide
  omega
 have hfit:¬(!Builtin.List.listFitsIndex k)=true:=by
  rw[fitsIndex_both h1 h2]
  exact B8
 have jm:¬Builtin.List.listTooLong (its.toArray.size*k.toNat)=true:=by
  rw[Vb hlen]
  exact B8
 have hnew:X9 (λx1 x2=>x1++x2) #[] (B9 (if its.toArray.isEmpty=true then 0 else k.toNat) its.toArray)=(B9 k.toNat its).flatten.toArray:=by
  have f0:∀m:Nat,X9 (λx1 x2=>x1++x2) #[] (B9 m its.toArray)=(B9 m its).flatten.toArray:=λm=>by
   have:=foldl_rep its m []
   rw[O4]at this
   exact this
  rw[f0]
  cases its with
  | nil=>simp
  | cons a r'=>rw[if_neg (by simp)]
 refine wpAny_binaryOp_repeat_ref (T := "list") (U := "int") (by decide) ⟨_,e,rfl⟩ (λs'=>typeIs_int s' k t) noFill_list_mul F.fills_int_mul F.slot_int_rmul repeat_list F.slot_int_index.lookup
  (call_meets F.slot_int_rmul (typeIs_int s k t) F.entry_int_rmul (F.args_int_rmul_2 _ _) (int___rmul___int_list k t l its.toArray n)
   ⟨e,rfl,⟨_,e,rfl⟩,call_meets F.slot_list_mul ⟨_,e,rfl⟩ F.entry_list_mul (F.args_list_mul_2 _ _) (AutoListH.list___mul___list_int_3 l its.toArray n k t hfit yu jm) ⟨e,?_⟩⟩)
 rw[hnew]
 exact⟨.ref _,_,I.Ru (t':=s.toks) (r.rep k.toNat) (by rw[len_rep,Nat.mul_comm];exact hz),rfl,q _ I.fresh⟩
end
section
variable{prog:Program}{w:World}{A:Around}{E:Value→Shared→Prop}{s:Shared}
end
section
variable{X:Cx}
end
end L2
namespace L2
open PySem PySem.Spec PyProof.Rows
section
variable{κ:Type} [DecidableEq κ]
def Rw(kvs:List (κ×V))(k:κ):Option V:=(kvs.find? λkv=>decide (kv.1=k)).map (·.2)
def putK(kvs:List (κ×V))(k:κ)(v:V):List (κ×V):=
 if(kvs.any λkv=>decide (kv.1=k))=true then kvs.map (λkv=>if kv.1=k then(kv.1,v)else kv)else kvs++[(k,v)]
def aAz(kvs:List (κ×V))(k:κ):List (κ×V):=kvs.filter λkv=>decide (kv.1≠k)
end
abbrev KT(H:Hp):List (List Key×V)→List (List Key×Addr×Value)→Prop:=Paired λp q=>p.1=q.1∧H q.2.1=some (.tup (p.1.map kV))∧RelV p.2 q.2.2
section
variable{P:Program}{w:World}{H:Hp}{h:Heap}{a:Addr}
theorem jo{u:HO}(ok:rQ P w H h)(e:Rd H a u):gY P w H h a u:=e.ok ok
theorem jq{kvs:List (Key×V)}(ok:rQ P w H h)(e:Rd H a (.dK kvs)):kvs.length≤sizeLine∧(a==sysModules)=false∧∃vs,KV kvs vs∧h.DictOf (El P w) a vs:=
 show gY P w H h a (.dK kvs)from jo ok e
end
def aAQ(H:Hp)(a:Addr)(y:V)(r:Option V):Prop:=
 (∃kvs k,Rd H a (.dK kvs)∧y=kV k∧r=Rw kvs k)∨∃kvs k b,Rd H a (.dT kvs)∧y=.ref b∧H b=some (.tup (k.map kV))∧r=Rw kvs k
def aAR(H:Hp)(a:Addr)(y v:V)(H':Hp):Prop:=
 (∃kvs k,H a=some (.dK kvs)∧y=kV k∧kvs.length<sizeLine∧H'=upd H a (.dK (putK kvs k v))) ∨
 ∃kvs k b,H a=some (.dT kvs)∧y=.ref b∧H b=some (.tup (k.map kV))∧kvs.length<sizeLine∧H'=upd H a (.dT (putK kvs k v))
section
variable{X:Cx}{pins:List (Addr×Obj)}{σ:St}{H:Hp}{s:Shared}{a:Addr}{y v:V}{u r:Value}{o:Option V}{A:Around}{E:Value→Shared→Prop}
end
section
variable{X:Cx}{pins:List (Addr×Obj)}{σ:St}{H:Hp}{s:Shared}{a:Addr}{kvs:List (Key×V)}{k:Key}{u:Value}{A:Around}{E:Value→Shared→Prop}
end
section
variable{X:Cx}{o i e value:Expr}{pos pos' tpos:Pos}{td ty tv:TE}
end
section
variable{X:Cx}{pos:Pos}
end
def Lk:List (TE×TE)→St→Hp→(List (V×V)→Hp→Prop)→Prop
 | [],_,H,Q=>Q [] H
 | (tk,tv)::r,σ,H,Q=>tk σ H λx H1=>tv σ H1 λy H2=>Lk r σ H2 λps H3=>Q ((x,y)::ps) H3
abbrev VV:List (V×V)→List (Value×Value)→Prop:=Paired λp q=>RelV p.1 q.1∧RelV p.2 q.2
def PPs(X:Cx)(pos:Pos)(keys:List (Option Expr))(values:List Expr)(trs:List (TE×TE)):Prop:=
 ∀(pins:List (Addr×Obj))(s:Shared)(σ:St)(H:Hp)(Q:List (V×V)→Hp→Prop),Inv X pins σ H s→Lk trs σ H Q →
  wpAny (model X.prog X.w) X.A (evalPairs (pairTrees keys values X.env pos)) (λvs s'=>∃ps H',Inv X pins σ H' s'∧VV ps vs∧Q ps H') X.xe s
structure M1(X:Cx)(o:Expr)(m:Str)(apos:Pos)(e:Expr)(cpos:Pos):Prop where
 base:attributeBase o m X.env (eval o X.env)=eval o X.env
 few:((backTo cpos (starEach [e] X.env)).all (λx=>!x.1)&&(backToKw cpos (keywordEach [] X.env)).all (λx=>x.1.isSome)
  && decide (([e]:List Expr).length+([]:List Keyword).length+(if([]:List Keyword).isEmpty then 0 else 1)<30))=true
 line:(apos.endLine==cpos.line)=true
 trees:backTo cpos (starEach [e] X.env)=[(false,eval e X.env)]
structure M2(X:Cx)(o:Expr)(m:Str)(apos:Pos)(e f:Expr)(cpos:Pos):Prop where
 base:attributeBase o m X.env (eval o X.env)=eval o X.env
 few:((backTo cpos (starEach [e,f] X.env)).all (λx=>!x.1)&&(backToKw cpos (keywordEach [] X.env)).all (λx=>x.1.isSome)
  && decide (([e,f]:List Expr).length+([]:List Keyword).length+(if([]:List Keyword).isEmpty then 0 else 1)<30))=true
 line:(apos.endLine==cpos.line)=true
 trees:backTo cpos (starEach [e,f] X.env)=[(false,eval e X.env),(false,eval f X.env)]
section
variable{X:Cx}{pins:List (Addr×Obj)}{σ:St}{H:Hp}{s:Shared}{a:Addr}{y d:V}{u r:Value}{o:Option V}{A:Around}{E:Value→Shared→Prop}
end
section
variable{X:Cx}{o e f:Expr}{apos cpos:Pos}{td ty tx:TE}
end
section
variable{X:Cx}{pins:List (Addr×Obj)}{σ:St}{H:Hp}{s:Shared}{a:Addr}{kvs:List (Key×V)}{A:Around}{E:Value→Shared→Prop}
end
section
variable{X:Cx}{pins:List (Addr×Obj)}{σ:St}{H:Hp}{s:Shared}{a:Addr}{y:V}{u:Value}{A:Around}{E:Value→Shared→Prop}
end
end L2
namespace Att
open PySem PySem.W PySem.Calls PyProof.Rows
theorem xJ{P:Params}{h:Heap}:∀(ns:List Int)(vs:List Value),WellAll P h vs (ns.map WData.int)→IntsAre vs ns:=by
 intro ns
 induction ns with
 | nil=>
  intro vs w
  rw[J7]at w
  cases w
  exact .nil
 | cons n ns ih=>
  intro vs w
  rw[D7]at w
  cases w with
  | cons a b=>
   cases a
   exact .cons _ _ (ih _ b)
theorem Rx{l:OpenLaw}{n:Nat}(hn:l.most=some n){P:Params}{h:Heap}{args:List WData}{vals:List Value}
  (hpre:l.row.toRowW.claim.pre args=true) (hwl:WellAll P h vals args) :
  ∃a vs ns,vals=[Value.ref a]∧args=[WData.list (ns.map WData.int)]∧h.get? a=some {cls:=.type "list", data:=.seq vs.toArray}∧IntsAre vs ns∧ns.length≤n:=by
 have hsh:WShape.hasAll [] args [.list .int]=true:=(pre_splitW hpre).1
 have hc:l.pre.holds [] {args:=args}=true:=(pre_splitW hpre).2
 obtain⟨d,r,rfl,h1,h2⟩:=hasAllW_cons hsh
 obtain rfl:=hasAllW_nil h2
 obtain⟨xs,rfl,h3⟩:=hasW_list h1
 obtain⟨ns,rfl⟩:=items_int h3
 have hlen:ns.length≤n:=by
  unfold OpenLaw.pre at hc
  have h4:(WTm.not (.lt (.lit (.int (n:Int))) (.len (.arg 0)))).holds [] {args:=[.list (ns.map .int)]}=true:=by
   have h4:=(holds_andW hc).1
   rw[hn]at h4
   exact h4
  have h5:=condW_of h4 (w_not (w_lt w_lit (w_len_list (w_arg rfl))))
  rw[B3]at h5
  refine Nat.le_of_not_lt λq=>?_
  have q':(n:Int)<((ns.length:Nat):Int):=by omega
  first
   | (rw[decide_eq_true q']at h5;exact absurd h5 (by decide))
   | (simp at h5;omega)
 cases hwl with
 | cons w1 w2=>
  cases w2
  cases w1 with
  | list ho hall=>exact⟨_,_,ns,rfl,rfl,ho,xJ ns _ hall,hlen⟩
theorem Ry(l:OpenLaw)(args:List WData):l.row.toRowW.claim.post args (.bool true) args=true:=
 postW_of (r:=l.row.toRowW) (X:=(true==true))
  (show WShape.has [] (.bool true) .bool=true by first | rfl | decide | simp[WShape.has,WShape.arms,WShape.armsAll])
  (show (WTm.eq .res (.lit (.bool true))).value [] {args:=args,res:=some (.bool true),after:=args}=some (.bool (true==true))from w_eq_bool (w_res rfl) w_lit) rfl
section
variable{prog:Program}{w:World}{A:Around}{E:Value→Shared→Prop}{s:Shared}{K:Frag}
end
end Att
namespace L2
open PySem PySem.Spec PyProof.Rows
theorem Cz:∀{vs:List Value} {ns:List Int},IntsAre vs ns→Vals (ns.map V.int) vs
 | _,_,.nil=>.nil
 | _,_,.cons n t h=>.cons ⟨t,rfl⟩ (Cz h)
def Only(H:Hp):Prop:=∀b,H b=none∨∃o xs,H b=some (.tZ o (.lst xs))
theorem Vd{P:Program}{w:World}{K:aA}{mg mb:Str→Option Value}{CX:Ku}{k:Nat}{fa a:Addr}{fd:FuncData}{x:Str}{sp:Sp}{s₁:Shared}{vs:List Value}{ns:List Int}
  (KX:K.In s₁.heap) (hns:s₁.heap.Ns mainGlobals mg) (hb:s₁.heap.Ns builtinsNs mb) (hbb:∀x:Str,x ≠ "__name__" → mb x=bootBuiltins x) (hlim:s₁.heap.NoLimit) (hg:s₁.gens=#[])
  (ha:s₁.heap.get? a=some {cls:=.type "list", data:=.seq vs.toArray}) (hi:IntsAre vs ns) (hl:ns.length≤sizeLine) (hr:kI k callerA)
  (F:∀base:Heap,K.In base→base.Ns mainGlobals mg→uD P w K mg base CX k fa fd [x] sp) (hbind:∀(s:Shared)(u:Value),BindsTo s fd ⟨[u],[]⟩ [(x,u)])
  (hsp:∀H:Hp,Only H→mC K H a (ns.map V.int)→sp [.ref a] H (λv _=>v=.bl true) λ_ _ _=>False)
  (yw:∀H e s',CX [] H s₁ (λ_ _ _=>False) e s'→False) :
  codeAny (model P w) callerA (.call (.ref fa) ⟨[.ref a],[]⟩) (λr s'=>r=.ok (.ret (.bool true))∧OldK s₁.heap s'.heap∧s'.os=s₁.os∧AllBare s'.gens) s₁:=by
 have rv:=Cz hi
 have lenV:=hi.length
 have core:∀H:Hp,Only H→mC K H a (ns.map V.int)→rQ P w H s₁.heap→(∀b,H b≠none→b=a)→(H a≠none→K.lookup a=none) →
   codeAny (model P w) callerA (.call (.ref fa) ⟨[.ref a],[]⟩) (λr s'=>r=.ok (.ret (.bool true))∧OldK s₁.heap s'.heap∧s'.os=s₁.os∧AllBare s'.gens) s₁:=by
  intro H hO hS hok hA hK
  have Oo:∀{b:Addr} {o:Obj},s₁.heap.get? b=some o→H b=none→(Em s₁.heap H).get? b=some o:=λe n=>Uk e n
  have jh:∀{b:Addr} {o:Obj} {es:Array DictEntry} {ep:Nat},s₁.heap.get? b=some o→o.data=.dict es ep→H b=none:=λ{b o es ep} e d=>by
   cases q:H b with
   | none=>rfl
   | some u=>
    have e':b=a:=hA b (by rw[q];simp)
    subst e'
    rw[ha]at e;cases e
    have d':Data.seq vs.toArray _=Data.dict es ep:=d
    cases d'
  have vq:∀{b:Addr} {m:Str→Option Value},s₁.heap.Ns b m→(Em s₁.heap H).Ns b m:=λ{b m} ⟨o,es,ep,e,d,r⟩=>⟨o,es,ep,Oo e (jh e d),d,r⟩
  have hKb:K.In (Em s₁.heap H):=λb o e=>Oo (KX b o e) (by
   cases q:H b with
   | none=>rfl
   | some u=>
    have e':b=a:=hA b (by rw[q];simp)
    subst e'
    rw[hK (by rw[q];simp)]at e;cases e)
  have hM:Mod K mg (Em s₁.heap H):=⟨hKb,vq hns,⟨mb,vq hb,hbb⟩,let ⟨mc,h1,h2⟩:=hlim;⟨mc,vq h1,h2⟩⟩
  have e0:Zt P w K mg (Em s₁.heap H) callerA [] s₁ H:=⟨rfl,hM,λb o e=>Zf e,Nat.le_of_eq (Rc _ _),trivial,λb hb=>absurd (show b∈([]:List Addr)from hb) (by simp),hok,.of_eq hg⟩
  refine codeAny_mono ((F _ hKb (vq hns)).run callerA [] s₁ H ⟨[.ref a],[]⟩ [.ref a] [.ref a] _ _ hr e0 (hbind s₁ (.ref a)) (.cons rfl .nil) (hsp H hO hS)) λr s' h=>?_
  cases r with
  | error e=>exact(yw H e s' h).elim
  | ok fl=>
   cases fl with
   | next=>exact False.elim h
   | brk=>exact False.elim h
   | cont=>exact False.elim h
   | ret u=>
    obtain⟨v,H',os,bare,un,hok',r',q⟩:=h
    have q':v=.bl true:=q
    subst q'
    obtain rfl:u=Value.bool true:=r'
    refine⟨rfl,OldK.of_keep λb o e=>?_,os,bare⟩
    cases q:H b with
    | none=>exact un.keep b o e q (by intro z;exact absurd (show b∈([]:List Addr)from z) (by simp)) (by simp)
    | some u=>
     rcases hO b with z | ⟨ob,xs,z⟩
     ·rw[q]at z;cases z
     ·have z2:=un.xF b ob _ z
      obtain⟨e1,_⟩:=hok b _ z
      obtain⟨e2,_⟩:=hok' b _ z2
      rw[e]at e1;cases e1
      exact e2
 cases hk:K.lookup a with
 | some o=>
  have e:=KX a o hk
  rw[ha]at e
  cases e
  refine core (λ_=>none) (λ_=>.inl rfl) (.inr ⟨_,vs.toArray,_,hk,rfl,rfl,rfl,by rw[B7,lenV];exact hl,by simpa using rv⟩) (λb u z=>by have z':(none:Option HO)=some u:=z;cases z') (λb z=>absurd rfl z) λz=>absurd rfl z
 | none=>
  refine core (λb=>if b=a then some (.tZ {cls:=.type "list", data:=.seq vs.toArray} (.lst (ns.map V.int)))else none) (λb=>?_) (.inl (.inr ⟨{cls:=.type "list", data:=.seq vs.toArray},if_pos rfl⟩)) (λb u z=>?_) (λb z=>?_) λ_=>hk
  ·by_cases hb:b=a
   ·exact .inr ⟨_,_,if_pos hb⟩
   ·exact .inl (if_neg hb)
  ·by_cases hb:b=a
   ·have z':=(if_pos hb).symm.trans z
    cases z'
    subst hb
    exact⟨ha,by rw[B3];exact hl,vs,_,rv,ha⟩
   ·have z':=(if_neg hb).symm.trans z
    cases z'
  ·by_cases hb:b=a
   ·exact hb
   ·exact absurd (if_neg hb) z
end L2
namespace L2
open PySem PySem.Spec PyProof.Rows
end L2
namespace L2
open PySem PySem.Spec PyProof.Rows
def fV(s:Stmt):Arguments:=match s with
 | .FunctionDef _ a _ _ _ _ _ _ _ _=>a
 | _=>{posonlyargs:=[],args:=[],vararg:=none,kwonlyargs:=[],kw_defaults:=[],kwarg:=none,defaults:=[]}
def cQ(s:Stmt):List Stmt:=match s with
 | .FunctionDef _ _ b _ _ _ _ _ _ _=>b
 | _=>[]
def aM(s:Stmt):Scope:=match s with
 | .FunctionDef _ _ _ _ _ _ sc _ _ _=>sc
 | _=>{kind:=.function,names:=[],isGenerator:=false,isCoroutine:=false}
abbrev Ue:Ku:=λ_ _ _ _ _ _=>False
abbrev E0:XK:=λ_ _ _=>False
theorem jt{X:Cx}:Passes Ue X E0:=λ_ _ _ _ _ _ _ h=>h.elim
structure Zb(K:aA)(x qual:Str)(st:Stmt)(f:Addr)(fd:FuncData):Prop where
 ex:∃(oc:Value)(od:Option Addr)(kV doc pm:Value)(an:Option Addr)(cdv ct:Value)(osl:Array (Option Value)),
  fd=G6 x qual (fV st) (cQ st) (aM st) .none kV doc pm an cdv ct∧K.lookup f=some ⟨oc,od,.func fd,osl⟩∧N7 K cdv qual=true
 kp:K6 K (.ref f)=true
section
variable{P:Program}{w:World}{K:aA}{mg:Str→Option Value}{base:Heap}
theorem Zb.ok{x qual:Str}{st:Stmt}{f:Addr}{fd:FuncData}{N ps:List Str}{k:Nat}{sp:Sp}(F:Zb K x qual st f fd)(S:bO N ps (aM st))(len:∀vs H Q E,sp vs H Q E→vs.length=ps.length)
  (hbody:∀(cdv:Value)(A:Around)(outer:List Env)(s:Shared)(H:Hp)(vs:List V)(Q:VK)(E:XK),kI k (A.deeper (envOfC qual (aM st) s.heap.objs.size f cdv))→sp vs H Q E →
   ∃t,Ce (jL Ue P w K mg base N qual (aM st) f cdv A outer s H E).RC (cQ st) t∧t {nx:=λ_ H'=>Q .non H',rt:=Q} (start N vs) H):uD P w K mg base Ue (k+1) f fd ps sp:=by
 obtain⟨oc,od,kV,doc,pm,an,cdv,ct,osl,rfl,lk,hcd⟩:=F.ex
 refine MF lk hcd S len λA outer s H vs Q E hr hsp=>?_
 obtain⟨t,h,q⟩:=hbody cdv A outer s H vs Q E hr hsp
 exact⟨t,h.RC,q⟩
theorem Zb.binds{x qual:Str}{st:Stmt}{f:Addr}{fd:FuncData}{ps:List Str}(F:Zb K x qual st f fd)
  (h:∀(kV doc pm:Value)(an:Option Addr)(cdv ct:Value)(us:List Value),us.length=ps.length→bindArgs (G6 x qual (fV st) (cQ st) (aM st) .none kV doc pm an cdv ct) ⟨us,[]⟩=pure (ps.zip us)):Binds K fd ps []:=by
 obtain⟨oc,od,kV,doc,pm,an,cdv,ct,osl,rfl,lk,hcd⟩:=F.ex
 exact .all (h kV doc pm an cdv ct)
theorem UG{x qual:Str}{st:Stmt}{f:Addr}{oc:Value}{od an:Option Addr}{osl:Array (Option Value)}{kV doc pm cdv ct:Value}(l:K.lookup f=some ⟨oc,od,.func (G6 x qual (fV st) (cQ st) (aM st) .none kV doc pm an cdv ct),osl⟩)
  (c:N7 K cdv qual=true) (k:K6 K (.ref f)=true):Zb K x qual st f (G6 x qual (fV st) (cQ st) (aM st) .none kV doc pm an cdv ct):=⟨⟨oc,od,kV,doc,pm,an,cdv,ct,osl,rfl,l,c⟩,k⟩
end
theorem iC{A:Around}{k:Nat}(hr:kI k A):A.units+1<cLine:=Nat.lt_of_le_of_lt (Nat.add_le_add_left (by decide:1≤64) _) hr.units
section
variable{X:Cx}
theorem pv(i:Nat){x:Str}{pos:Pos}(hN:X.N[i]?=some x:=by rfl)(hv:uz X.env.scope x:=by first | exact D4 rfl | exact D3 (D4 rfl) | exact D3 (D3 rfl))(hd:(x==("__debug__" : Str))=false:=by decide)
  (hcd:(x==("__classdict__" : Str))=false:=by decide):PE X (.Name x pos) (jF i):=QJ hN hv hd hcd
end
def aN(H H':Hp):Prop:=∀b o,H b=some o→H' b=some o
theorem aN.refl(H:Hp):aN H H:=λ_ _ h=>h
theorem aN.trans{H H1 H2:Hp}(a:aN H H1)(b:aN H1 H2):aN H H2:=λc o h=>b c o (a c o h)
theorem aN.free{H H':Hp}(e:aN H H'){l:Addr}(h:H' l=Z8):H l=Z8:=by
 cases q:H l with
 | none=>rfl
 | some o=>
  rw[e l o q]at h
  cases h
theorem aN.seq{K:aA}{H H':Hp}{a:Addr}{xs:List V}(e:aN H H')(h:mC K H a xs):mC K H' a xs:=by
 rcases h with (h | ⟨o,h⟩) | h
 ·exact .inl (.inl (e _ _ h))
 ·exact .inl (.inr ⟨o,e _ _ h⟩)
 ·exact .inr h
section
variable{κ:Type} [DecidableEq κ]
end
end L2


namespace L2
open PySem PySem.Spec PyProof.Rows
theorem sY(env:Env):∀(names:List (Str×NameKind))(acc:List (Str×Addr)),(∀x∈names,x.2=.free→∃c,env.cells.lookup x.1=some c) →
    ∃cl:List (Str×Addr),(forIn names acc (λ(x:Str×NameKind) (r:List (Str×Addr))=>(match x with
      | (name,kind)=>if(kind==.free)=true then do let c ←cellOf env name;pure (ForInStep.yield ((name,c)::r))else pure (ForInStep.yield r):Sem (ForInStep (List (Str×Addr))))))=pure cl ∧
      (∀x c,cl.lookup x=some c→(∃k,(x,k)∈names∧k=.free∧env.cells.lookup x=some c)∨acc.lookup x=some c) ∧
      (∀x,(x,NameKind.free)∈names→∃c,cl.lookup x=some c)∧(∀x c,acc.lookup x=some c→∃c',cl.lookup x=some c')
  | [],acc,_=>⟨acc,rfl,λx c h=>.inr h,λx h=>by simp at h,λx c h=>⟨c,h⟩⟩
  | (n,k)::r,acc,h=>by
    rw[List.forIn_cons]
    by_cases hk:k=.free
    · subst hk
      obtain⟨c,hc⟩:=h (n,.free) D1 rfl
      obtain⟨cl,e,h1,h2,h3⟩:=sY env r ((n,c)::acc) λx hx=>h x (C5 _ hx)
      refine⟨cl,?_,λx d hd=>?_,λx hx=>?_,λx d hd=>?_⟩
      · have e0:cellOf env n=pure c:=by unfold cellOf;rw[hc]
        simp only[beq_self_eq_true,if_true,e0,pure_bind]
        exact e
      · rcases h1 x d hd with ⟨k',m,q⟩ | q
        · exact .inl ⟨k',C5 _ m,q⟩
        · rw[Q3]at q
          by_cases e:x==n
          · rw[e]at q
            have e':=eq_of_beq e
            subst e'
            cases q
            exact .inl ⟨.free,D1,rfl,hc⟩
          · have e':(x==n)=false:=by simpa using e
            rw[e']at q
            exact .inr q
      · rcases G2.mp hx with q | q
        · cases q
          exact h3 n c (by simp)
        · exact h2 x q
      · by_cases e:x==n
        · exact h3 x c (by rw[Q3,e])
        · have e':(x==n)=false:=by simpa using e
          exact h3 x d (by rw[Q3,e'];exact hd)
    · obtain⟨cl,e,h1,h2,h3⟩:=sY env r acc λx hx=>h x (C5 _ hx)
      have hb:(k==NameKind.free)=false:=by simpa using hk
      refine⟨cl,?_,λx d hd=>?_,λx hx=>?_,h3⟩
      · simp only[hb,V9,if_false,pure_bind]
        exact e
      · rcases h1 x d hd with ⟨k',m,q⟩ | q
        · exact .inl ⟨k',C5 _ m,q⟩
        · exact .inr q
      · rcases G2.mp hx with q | q
        · cases q
          exact absurd rfl hk
        · exact h2 x q
theorem nA(scope:Scope)(env:Env)(h:∀x∈scope.names,x.2=.free→∃c,env.cells.lookup x.1=some c) :
    ∃cl,closureFor scope env=pure cl∧(∀x c,cl.lookup x=some c→(x,NameKind.free)∈scope.names∧env.cells.lookup x=some c)∧∀x,(x,NameKind.free)∈scope.names→∃c,cl.lookup x=some c:=by
  obtain⟨cl,e,h1,h2,_⟩:=sY env scope.names [] h
  refine⟨cl,?_,λx c hx=>?_,h2⟩
  · unfold closureFor
    exact(congrArg (λt=>t >>= pure) e).trans (pure_bind _ _)
  · rcases h1 x c hx with ⟨k,m,rfl,q⟩ | q
    · exact⟨m,q⟩
    · simp at q
theorem Fd{scope:Scope}{env:Env}(hcell:∀y∈scope.names,y.2≠.cell){x:Str}(h:(relabel scope env).names.lookup x=some .cell∨(relabel scope env).names.lookup x=some .free):(x,NameKind.free)∈scope.names:=by
 have m:(x,NameKind.cell)∈(relabel scope env).names∨(x,NameKind.free)∈(relabel scope env).names:=by
  rcases h with h | h
  ·exact .inl (K9 h)
  ·exact .inr (K9 h)
 unfold relabel at m
 rcases m with m | m
 all_goals
  obtain⟨⟨n,k⟩,hm,e⟩:=M7.mp m
  dsimp only at e
  split at e
  ·rename_i hc
   simp only[B4,beq_iff_eq]at hc
   cases e
   first
    | (rw[hc.1.1]at hm;exact hm)
    | skip
  ·cases e
   first
    | exact hm
    | exact absurd rfl (hcell _ hm)
def bR(X:Cx)(scope:Scope)(N:List Str)(cl:List (Str×Addr))(fp:List Addr)(s:Shared)(H:Hp)(C:Addr):Cx where
 prog:=X.prog
 w:=X.w
 K:=X.K
 mg:=X.mg
 base:=X.base
 A:=X.A
 N:=N
 s₀:=s
 H₀:=H
 env:=compEnvC scope cl C X.env
 outer:=X.stack
 stack:=X.stack
 ex:=fp
 calm:=X.calm
 fn:=λ_=>false
 pn:=[]
 xe:=λ_ _=>False
def Fe(σ:St)(fr:List Nat):St:=fr.map λi=>σ.getD i none
def blk(k:Nat)(σ:St)(fr:List Nat):St:=B9 k none++Fe σ fr
def Kp(k:Nat)(σ:St)(fr:List Nat)(σ2:St):Prop:=σ2.length=(blk k σ fr).length∧∀(j:Nat) v,(blk k σ fr)[j]?=some (some v)→σ2[j]?=some (some v)
def fu(X:Cx)(ifs:List Expr)(t:TT):Prop:=
 ∀(pins:List (Addr×Obj))(s:Shared)(σ:St)(H:Hp)(Q:Bool→Hp→Prop),Inv X pins σ H s→t σ H Q →
  wpAny (model X.prog X.w) X.A (forIn ifs true λc r=>if r=true then do let ok ←isTrue c X.env (eval c X.env);pure (ForInStep.yield ok)else pure (ForInStep.yield r)) (TP X pins σ Q) X.xe s
def ju:TT:=λ_ H Q=>Q true H
theorem BP{X:Cx}:fu X [] ju:=λ_ _ _ H _ I h=>wpAny_tests_nil ⟨H,I,h⟩
theorem rT{prog:Program}{w:World}{A:Around}{R:Result→Shared→Prop}{s:Shared}{elt target iter:Expr}{ifs:List Expr}{scope:Scope}{pos:Pos}{it acc:Value}{env:Env}(I:Nat→Shared→Prop)
  (turn:∀n s,I n s→wpAny (model prog w) A (pyNext it) (λr s₁=>match r with
   | none=>R (.ok .next) s₁
   | some v=>wpAny (model prog w) A (letOwnedTupleGo target it v) (λ_ s₀=>wpAny (model prog w) A (assign target env v) (λ_ s₂=>
     wpAny (model prog w) A (forIn ifs true λc r=>if r=true then do let ok ←isTrue c env (eval c env);pure (ForInStep.yield ok)else pure (ForInStep.yield r)) (λok s₃=>
      if ok=true then wpAny (model prog w) A (eval elt env) (λx s₄=>
       wpAny (model prog w) A (call (.builtin "list.append") [acc,x]) (λ_ s₅=>∃m,m<n∧I m s₅) (λ_ _=>False) s₄) (λ_ _=>False) s₃
      else ∃m,m<n∧I m s₃) (λ_ _=>False) s₂) (λ_ _=>False) s₀) (λ_ _=>False) s₁) (λ_ _=>False) s)
  (n:Nat) (h:I n s) :
  codeAny (model prog w) A (.compLoop (.ListComp elt [⟨target,iter,ifs,0⟩] scope pos) 0 it acc env) R s:=by
 refine codeAny_loop rfl I (λn s hI=>?_) n h
 show wpAny _ A ((compTurn (.ListComp elt [⟨target,iter,ifs,0⟩] scope pos) 0 it acc env).onRaise (λx=>do noteFrame x env;theTreesLotGoes x)) _ _ s
 refine wpAny_noted ?_
 rw[compTurn_list]
 refine wpAny_mono (E:=λ_ _=>False) ?_ (λ_ _ q=>q) λ_ _ x=>x.elim
 refine wpAny_bind (wpAny_standAt (wpAny_bind (wpAny_mono (turn n s hI) (λr s₁ h₁=>?_) λ_ _ h'=>h')))
 cases r with
 | none=>exact wpAny_pure h₁
 | some v=>
  refine wpAny_bind (wpAny_mono h₁ (λ_ s₀ h₀=>?_) λ_ _ h'=>h')
  refine wpAny_bind (wpAny_mono h₀ (λ_ s₂ h₂=>wpAny_bind (wpAny_mono h₂ (λok s₃ h₃=>?_) λ_ _ h'=>h')) λ_ _ h'=>h')
  cases ok with
  | false=>exact wpAny_pure ⟨rfl,h₃⟩
  | true=>
   exact wpAny_bind (wpAny_bind (wpAny_mono h₃ (λx s₄ h₄=>wpAny_bind (wpAny_mono h₄ (λ_ s₅ h₅=>wpAny_pure (wpAny_pure ⟨rfl,h₅⟩)) λ_ _ h'=>h')) λ_ _ h'=>h'))
def MN(J:It)(k:Nat)(fr:List Nat)(g:TG)(tc:TT)(te:TE)(σ:St)(H1:Hp)(Q:VK)(D:Addr):Prop:=∃W:Nat→Nat→List V→Hp→Prop,(∃m,W 0 m [] (upd H1 D (.lst []))) ∧
 ∀i m ys H,W i m ys H→H D=some (.lst ys)∧((J.stop i H∧Q (.ref D) H)∨(J.go i H∧∀x H',J.fj i H x H'→g x (blk k σ fr) H' λσ2 H2=>Kp k σ fr σ2∧tc σ2 H2 λok H3=>if ok=true then
  te σ2 H3 λy H4=>H4 D=some (.lst ys)∧ys.length<sizeLine∧∃m',m'<m∧W (i+1) m' (ys++[y]) (upd H4 D (.lst (ys++[y])))else ∃m',m'<m∧W (i+1) m' ys H3))
def Il(wi:TI)(k:Nat)(fr:List Nat)(g:TG)(tc:TT)(te:TE):TE:=λσ H Q=>wi σ H λJ H1=>∀D,H1 D=none→MN J k fr g tc te σ H1 Q D
def pO(scope Hv:Scope):Scope:=
 {scope with names:=scope.names.map λ(n,k)=>if(k==.free&&Hv.kind==.function&&Hv.names.lookup n==some .cell)then(n,.cell)else(n,k)}
structure dC(Hv scope:Scope)(oN N:List Str)(k:Nat)(fr:List Nat):Prop where
 kind:scope.kind=.function
 cell:∀y∈scope.names,y.2≠.cell
 loc:∀y∈scope.names,y.2=.local→scope.names.lookup y.1=some .local
 free:∀y∈scope.names,y.2=.free→Hv.names.lookup y.1=some .cell∨Hv.names.lookup y.1=some .free
 len:N.length=k+fr.length
 slots:∀j∈K4 fr.length,oN[fr.getD j 0]?=N[k+j]?
 from_:∀x∈N.drop k,(x,NameKind.free)∈scope.names∧((pO scope Hv).names.lookup x=some .cell∨(pO scope Hv).names.lookup x=some .free)
def Ve(Hv scope:Scope)(oN N:List Str)(k:Nat)(fr:List Nat):Bool:=
 decide (scope.kind=.function)&&decide (∀y∈scope.names,y.2≠.cell)&&decide (∀y∈scope.names,y.2=.local→scope.names.lookup y.1=some .local) &&
 decide (∀y∈scope.names,y.2=.free→Hv.names.lookup y.1=some .cell∨Hv.names.lookup y.1=some .free)&&decide (N.length=k+fr.length) &&
 decide (∀j∈K4 fr.length,oN[fr.getD j 0]?=N[k+j]?) &&
 decide (∀x∈N.drop k,(x,NameKind.free)∈scope.names∧((pO scope Hv).names.lookup x=some .cell∨(pO scope Hv).names.lookup x=some .free))
theorem dC.of{Hv scope:Scope}{oN N:List Str}{k:Nat}{fr:List Nat}(h:Ve Hv scope oN N k fr=true):dC Hv scope oN N k fr:=by
 unfold Ve at h
 simp only[B4,decide_eq_true_eq]at h
 obtain⟨⟨⟨⟨⟨⟨h1,h2⟩,h3⟩,h4⟩,h5⟩,h6⟩,h7⟩:=h
 exact⟨h1,h2,h3,h4,h5,h6,h7⟩
section
variable{X:Cx}
theorem BR{k:Nat}{σ:St}{fr:List Nat}{i:Nat}{v:V}(h:(blk k σ fr)[i]?=some (some v)):∃j o,i=k+j∧fr[j]?=some o∧σ[o]?=some (some v):=by
 unfold blk at h
 by_cases hi:i<k
 ·rw[T0 (by simpa using hi),P0]at h
  rw[if_pos hi]at h
  cases h
 ·rw[S4 (by simpa using hi),K2]at h
  unfold Fe at h
  rw[D5]at h
  cases e:fr[i-k]? with
  | none=>rw[e]at h;cases h
  | some o=>
   rw[e]at h
   refine⟨i-k,o,by omega,e,?_⟩
   have h:some (σ.getD o none)=some (some v):=h
   have h:=G1 h
   rw[F1]at h
   cases e2:σ[o]? with
   | none=>rw[e2]at h;cases h
   | some z=>rw[e2]at h;exact congrArg some h
theorem yO{pins:List (Addr×Obj)}{σ:St}{H:Hp}{s:Shared}{scope:Scope}{N:List Str}{k:Nat}{fr:List Nat}{cl:List (Str×Addr)}{fp:List Addr}{h₁:Heap}{tk:Nat}{m:Str→Option Value}
    (I:Inv X pins σ H s) (B:dC X.env.scope scope X.N N k fr) (hf:∀b∈fp,xG X pins H b) (hfo:∀b∈fp,b<s.heap.objs.size)
    (hcl:∀x c,cl.lookup x=some c→(x,NameKind.free)∈scope.names∧X.env.cells.lookup x=some c) (Rz:∀x,(x,NameKind.free)∈scope.names→∃c,cl.lookup x=some c)
    (hn:h₁.Ns (s.heap.objs.size+1) m) (hs:Heap.SameBut (s.heap.objs.size+1) ((s.heap.push {cls:=.type "list", data:=.seq ([]:List Value).toArray}).push {cls:=.type "dict", data:=.dict #[]}) h₁) :
    Inv (bR X scope N cl fp s H (s.heap.objs.size+1)) [] (blk k σ fr) (upd H s.heap.objs.size (.lst [])) {s with heap:=h₁,toks:=tk}:=by
  have I3:=I.Ru (ys:=[]) (its:=[]) (t':=tk) .nil (O1 _)
  have hD:H s.heap.objs.size=none:=I.fresh
  have hC:H (s.heap.objs.size+1)=none:=I.hok.fresh (P6 _)
  have dz:∀b o,(s.heap.push {cls:=.type "list", data:=.seq ([]:List Value).toArray}).get? b=some o→b≠s.heap.objs.size+1:=λb o e=>by
    have:=Heap.lt_size e
    rw[Heap.size_push]at this
    exact F2 this
  have MP:∀b o,(s.heap.push {cls:=.type "list", data:=.seq ([]:List Value).toArray}).get? b=some o→h₁.get? b=some o:=λb o e=>
    hs.extBut b o (dz b o e) (Heap.get?_push_of_some _ e)
  have kept:∀b o,s.heap.get? b=some o→h₁.get? b=some o:=λb o e=>MP b o (Heap.get?_push_of_some _ e)
  refine⟨⟨I.ok.mod,B.kind,I.ok.glob,I.ok.blt,P6 _,λx y c h1 h2=>I.ok.inj x y c (hcl x c h1).2 (hcl y c h2).2,λx hx=>Rz x (Fd B.cell hx),λx c h _=>(nomatch h),
      I.ok.hd,I.ok.frames,.inl rfl,λb hb=>⟨?_,λx c e=>(hf b hb).2.2.2.2.1 x c (hcl x c e).2⟩,λb o e=>I.bs b o e,F0 I.ok.Uc I.sz,λb o e hb=>?_,λb hb hb2=>?_,I.stack,I.Eo⟩,
    rfl,I.bare,Un.laid kept (D2 _) hD,⟨m,hn,λi x v h1 h2 h3=>?_⟩,λx c e=>?_,?_,λx c e=>?_,λp hp=>absurd (show p∈([]:List (Addr×Obj))from hp) (by simp),?_,?_⟩
  · exact F2 (N5 (hfo b hb))
  · rcases(hf b hb).2.2.2.1 with z | z
    · exact I.ok.En b o e z
    · exact absurd (C3 (Heap.lt_size e) (F0 I.ok.Uc z)) (G3 _)
  · rcases G2.mp (I.sW b hb2)with z | z
    · exact(hf b hb).2.1 z
    · exact(hf b hb).2.2.1 z
  · obtain⟨j,o,rfl,h4,h5⟩:=BR h2
    have h1:N[k+j]?=some x:=h1
    have hj:j<fr.length:=(C4.mp h4).1
    have hx:X.N[o]?=some x:=by
      have q:=B.slots j (N1.mpr hj)
      rw[F1,h4]at q
      exact q.trans h1
    obtain⟨hfr,hre⟩:=B.from_ x (J0 (i:=j) (by rw[List.getElem?_drop];exact h1))
    have hk:=B.free _ hfr rfl
    obtain⟨m0,hn0,hl0⟩:=I.loc
    have hv:uz X.env.scope x:=by
      rcases hk with q | q
      · exact .inr (.inl q)
      · exact .inr (.inr q)
    obtain⟨u,r,l⟩:=hl0 o x v hx h5 hv
    refine⟨u,r,.inr ?_⟩
    rcases l with ⟨q,_⟩ | ⟨_,c,e,z⟩
    · rcases hk with q' | q'
      · exact absurd (q.symm.trans q') (by intro z;cases z)
      · exact absurd (q.symm.trans q') (by intro z;cases z)
    · obtain⟨c',e'⟩:=Rz x hfr
      have e2:=(hcl x c' e').2
      rw[e]at e2
      cases e2
      refine⟨hre,c,e',?_⟩
      obtain⟨oc,hoc,hd⟩:=z
      exact⟨oc,kept c oc hoc,hd⟩
  · obtain⟨v,oc,hoc,hd⟩:=I.cell x c (hcl x c e).2
    exact⟨v,oc,kept c oc hoc,hd⟩
  · show upd H s.heap.objs.size (.lst []) (s.heap.objs.size+1)=none
    rw[bH (N6 (X2 _))]
    exact hC
  · have hc:=(hcl x c e).2
    obtain⟨v,oc,hoc,hd⟩:=I.cell x c hc
    show upd H s.heap.objs.size (.lst []) c=none
    rw[bH (F2 (Heap.lt_size hoc))]
    exact I.lF x c hc
  · exact rQ.kept I3.hok MP
  · show (blk k σ fr).length=N.length
    rw[B.len]
    unfold blk Fe
    simp
theorem Im{tg elt iter:Expr}{ifs:List Expr}{scope:Scope}{pos:Pos}{N:List Str}{k:Nat}{fr:List Nat}{g:TG}{tc:TT}{te:TE}{cl:List (Str×Addr)}{pins:List (Addr×Obj)}{σ:St}{H:Hp}{s:Shared}{it:Addr}{fp:List Addr}{tn:Nat→Heap→Prop}{J:It}{Q:VK}
    {RR:Value→Addr→Result→Shared→Prop} {E:Value→Shared→Prop} (hcalm:X.calm=true) (I:Inv X pins σ H s) (T:Turn X.prog X.w X.K tg J fp it tn) (st:tn 0 s.heap) (hf:∀b∈fp,xG X pins H b) (B:dC X.env.scope scope X.N N k fr)
    (hcl:∀x c,cl.lookup x=some c→(x,NameKind.free)∈scope.names∧X.env.cells.lookup x=some c) (Rz:∀x,(x,NameKind.free)∈scope.names→∃c,cl.lookup x=some c)
    (hg:∀cl fp s H C,PG (bR X scope N cl fp s H C) tg g) (hc:∀cl fp s H C,fu (bR X scope N cl fp s H C) ifs tc) (he:∀cl fp s H C,PE (bR X scope N cl fp s H C) elt te)
    (hw:∀D,H D=none→MN J k fr g tc te σ H Q D)
    (hRR:∀D C m s' H',s'.heap.Ns C m→s.heap.objs.size≤C→H' C=none→C≠D→Inv X pins σ H' s'→Q (.ref D) H'→RR (.ref D) C (.ok .next) s') :
    wpAny (model X.prog X.w) X.A (newList []) (λacc s₃=>wpAny (model X.prog X.w) X.A (newFunctionEnv scope X.env.globals cl [] X.env.qual none .none (some X.env)) (λcenv s₄=>
      codeAny (model X.prog X.w) X.A (.compStart (.ListComp elt [⟨tg,iter,ifs,0⟩] scope pos) 0 (.ref it) acc {cenv with scope:=relabel scope X.env}) (RR acc cenv.locals) s₄) E s₃) E s:=by
  refine wpAny_newObj_type (wpAny_newFunctionEnv B.cell (by intro y hy;simp at hy) (λh₁ hns₁ hsb₁=>?_) B.kind)
  dsimp only at hns₁ hsb₁ ⊢
  rw[Heap.size_push]at hns₁ hsb₁ ⊢
  have hfo:∀b∈fp,b<s.heap.objs.size:=λb hb=>by
    obtain⟨o,e,_⟩:=T.obj 0 _ st b hb
    exact Heap.lt_size e
  have I4:=yO (tk:=s.toks+([]:List (Str×Value)).length) I B hf hfo hcl Rz hns₁ hsb₁
  generalize hD:s.heap.objs.size=D at *
  have yx:H D=none:=by rw[←hD];exact I.fresh
  obtain⟨W,⟨m0,w0⟩,turn⟩:=hw D yx
  have st1:tn 0 h₁:=T.keep 0 _ _ st λb hb o e=>hsb₁.extBut b o (F2 (N5 (by have:=hfo b hb;exact this))) (Heap.get?_push_of_some _ (Heap.get?_push_of_some _ e))
  have yz:∀b∈fp,(upd H D (.lst [])) b=none:=λb hb=>by
    rw[bH (F2 (hfo b hb))]
    exact(hf b hb).1
  generalize hX':bR X scope N cl fp s H (D+1)=X' at I4
  have stat:∀{H':Hp},(∀b∈fp,H' b=none)→∀b∈fp,xG X' [] H' b:=λ{H'} hn b hb=>by
    subst hX'
    refine⟨hn b hb,?_,λz=>?_,.inl hb,λx c e=>(hf b hb).2.2.2.2.1 x c (hcl x c e).2,λp hp=>absurd (show p∈([]:List (Addr×Obj))from hp) (by simp)⟩
    · exact F2 (N5 (hfo b hb))
    · rcases G2.mp (I.sW b z)with z | z
      · exact(hf b hb).2.1 z
      · exact(hf b hb).2.2.1 z
  have loop:∀s₃:Shared,s₃={s with heap:=h₁,toks:=s.toks+([]:List (Str×Value)).length} →
      codeAny (model X.prog X.w) X.A (.compLoop (.ListComp elt [⟨tg,iter,ifs,0⟩] scope pos) 0 (.ref it) (.ref D) (compEnvC scope cl (D+1) X.env)) (RR (.ref D) (D+1)) s₃:=by
    rintro s₃ rfl
    refine rT (λn s'=>∃i ys H',Inv X' [] (blk k σ fr) H' s'∧tn i s'.heap∧(∀b∈fp,H' b=none)∧W i n ys H') ?_ m0 ⟨0,[],_,I4,st1,yz,w0⟩
    rintro n s5 ⟨i,ys,H5,I5,st5,fr5,w5⟩
    obtain⟨hys,way⟩:=turn i n ys H5 w5
    have e1:X'.prog=X.prog:=by rw[←hX'];rfl
    have e2:X'.w=X.w:=by rw[←hX'];rfl
    have e3:X'.K=X.K:=by rw[←hX'];rfl
    have e4:X'.A=X.A:=by rw[←hX'];rfl
    have e5:X'.calm=true:=by rw[←hX'];exact hcalm
    have e6:X'.env=compEnvC scope cl (D+1) X.env:=by rw[←hX'];rfl
    have e7:X'.xe=λ_ _=>False:=by rw[←hX'];rfl
    rcases way with ⟨stop,q⟩ | ⟨go,step⟩
    · have d:=T.done X' e1 e2 e3 e5 i [] s5 _ H5 (λ_ _=>False) I5 (stat fr5) st5 stop
      rw[e4]at d
      refine eY d λr s6 ⟨hr,I6⟩=>?_
      subst hr
      subst hX'
      obtain⟨m6,hn6,_⟩:=I6.loc
      refine hRR D (D+1) m6 s6 H5 hn6 (P6 _) I6.free (N6 (X2 _)) ?_ q
      exact I.call' I6.os I6.base I6.hok I6.bare λb hb=>⟨(hf b hb).2.2.2.1,(hf b hb).2.1,(hf b hb).2.2.2.2.1,(hf b hb).2.2.2.2.2⟩
    · have d:=T.item X' e1 e2 e3 e5 i [] s5 _ H5 (λ_ _=>False) I5 (stat fr5) st5 go
      rw[e4]at d
      refine eY d λr s6 ⟨u,hr,h6⟩=>?_
      subst hr
      refine eY h6 λ_ s7 ⟨x,H7,I7,r7,y7,st7,fr7⟩=>?_
      have zb:=I7.pinned (stat fr7) (T.obj _ _ st7)
      have hg':PG X' tg g:=by rw[←hX'];exact hg _ _ _ _ _
      have hc':fu X' ifs tc:=by rw[←hX'];exact hc _ _ _ _ _
      have he':PE X' elt te:=by rw[←hX'];exact he _ _ _ _ _
      have a1:=hg' _ s7 _ H7 x u _ zb r7 (step x H7 y7)
      rw[e1,e2,e4,e6,e7]at a1
      refine eY a1 λ_ s8 ⟨σ8,H8,I8,⟨kl,kk⟩,q8⟩=>?_
      have a2:=hc' _ s8 σ8 H8 _ I8 q8
      rw[e1,e2,e4,e6,e7]at a2
      refine eY a2 λok s9 ⟨H9,I9,q9⟩=>?_
      have again:∀{Ha:Hp} {ya:List V} {sa:Shared},Inv X' ([]++sX fp s7.heap) σ8 Ha sa→(∃m',m'<n∧W (i+1) m' ya Ha) →
          ∃m,m<n∧∃i ys H',Inv X' [] (blk k σ fr) H' sa∧tn i sa.heap∧(∀b∈fp,H' b=none)∧W i m ys H':=λ{Ha ya sa} Ia ⟨m',hm,w'⟩=>by
        refine⟨m',hm,i+1,ya,Ha,(Ia.weak kl.symm kk).pL,T.keep _ _ _ st7 λb hb o e=>(Ia.pin (b,o) (C9 _ (C9 _ (jK hb e)))).1,λb hb=>?_,w'⟩
        obtain⟨o,e,d⟩:=T.obj _ _ st7 b hb
        exact(Ia.pin (b,o) (C9 _ (C9 _ (jK hb e)))).2.1
      cases ok with
      | false=>exact again I9 q9
      | true=>
        have a3:=he' _ s9 σ8 H9 _ I9 q9
        rw[e1,e2,e4,e6,e7]at a3
        show wpAny _ _ _ _ _ s9
        refine eY a3 λv zc ⟨y,H10,I10,r10,hD10,hz,q10⟩=>?_
        have a4:=jM (X:=X') _ zc σ8 H10 (.ref D) [y] (.ref D) [v] (λ_ jw=>jw=upd H10 D (.lst (ys++[y]))) I10 rfl (.cons r10 .nil) ⟨D,ys,y,rfl,rfl,hD10,hz,rfl⟩
        rw[e1,e2,e4,e7]at a4
        refine eY a4 λ_ s11 ⟨_,jw,I11,_,e11⟩=>?_
        subst e11
        exact again I11 q10
  exact codeAny_compStart_list (loop _ rfl) (T.self _ 0 _ _ _ st1 (loop _ rfl))
theorem BV{tg elt iter:Expr}{ifs:List Expr}{scope:Scope}{pos:Pos}{wi:TI}{g:TG}{tc:TT}{te:TE}(N:List Str)(k:Nat)(fr:List Nat)(hcalm:X.calm=true)(B:dC X.env.scope scope X.N N k fr)(hi:PI X tg iter wi)
  (hg:∀cl fp s H C,PG (bR X scope N cl fp s H C) tg g) (hc:∀cl fp s H C,fu (bR X scope N cl fp s H C) ifs tc) (he:∀cl fp s H C,PE (bR X scope N cl fp s H C) elt te)
  (hs:∀x,foldedSetIterable iter X.env x=pure x:=by intro _;rfl):PE X (.ListComp elt [⟨tg,iter,ifs,0⟩] scope pos) (Il wi k fr g tc te):=by
 intro pins s σ H Q I h
 obtain⟨cl,e,h1,h2⟩:=nA scope X.env λy hy hk=>I.ok.has y.1 (B.free y hy hk)
 rw[eval_ListComp]
 refine wpAny_comprehension_free (use:=none) rfl hs e B.kind B.loc (wpAny_mono (hi pins s σ H _ I h) (λxv s₁ q₁=>wpAny_mono q₁ (λitv s₂ q₂=>?_) λ_ _ x=>x) λ_ _ x=>x)
 obtain⟨it,fp,tn,J,H2,rfl,I2,T,st2,f2,hw⟩:=q₂
 refine Im (Q:=Q) (RR:=λacc C=>compPost (model X.prog X.w) X.A X.xe none (EP X pins σ Q) acc C) hcalm I2 T st2 f2 B h1 h2 hg hc he hw ?_
 intro D C m s' H' hn hC hf hne I' q
 refine⟨m,hn,λh' hs'=>⟨.ref D,H',?_,rfl,q⟩⟩
 exact I'.turned (t':=s'.toks) (λb o hb eb=>(hs'.2 b hb).trans eb) hf (N6 (C3 I2.lt hC)) (.inr (F0 I2.sz hC)) (λx c ec z=>by
  obtain⟨v,q⟩:=I2.cell x c ec
  exact absurd (C3 q.lt (by rw[z];exact hC)) (G3 _)) λp hp z=>absurd (C3 (Heap.lt_size (I2.pin p hp).1) (by rw[z];exact hC)) (G3 _)
theorem BW{tg elt iter:Expr}{ifs:List Expr}{scope:Scope}{pos spos py:Pos}{y:Str}{i:Nat}{wi:TI}{g:TG}{tc:TT}{te:TE}(N:List Str)(k:Nat)(fr:List Nat)(hcalm:X.calm=true)(B:dC X.env.scope scope X.N N k fr)(hN:X.N.Nodup)(hy:X.N[i]?=some y)(hx:Loc X.env.scope y)(hi:PI X tg iter wi)
  (hg:∀cl fp s H C,PG (bR X scope N cl fp s H C) tg g) (hc:∀cl fp s H C,fu (bR X scope N cl fp s H C) ifs tc) (he:∀cl fp s H C,PE (bR X scope N cl fp s H C) elt te)
  (hsw:swapsWith (.ListComp elt [⟨tg,iter,ifs,0⟩] scope pos) (some (.Name y py)) spos.line X.env=pure true:=by rfl)
  (hs:∀x,foldedSetIterable iter X.env x=pure x:=by intro _;rfl) (hf:X.fn y=true∨X.env.scope.names.lookup y=some .local:=by first | exact .inl rfl | exact .inr rfl | assumption) :
  PS X (.Assign [.Name y py] (.ListComp elt [⟨tg,iter,ifs,0⟩] scope pos) spos) (nO (Il wi k fr g tc te) (cB i)):=by
 intro pins s σ H D I h
 obtain⟨cl,e,h1,h2⟩:=nA scope X.env λy hy hk=>I.ok.has y.1 (B.free y hy hk)
 rw[exec_Assign_Name_used _ _ _ _ hsw]
 refine wpAny_bind (wpAny_standAt (wpAny_bind ?_))
 show wpAny _ X.A (do let _ ←comprehension (.ListComp elt [⟨tg,iter,ifs,0⟩] scope pos) scope X.env _ (newList []) false (eval iter X.env) (some (assign (.Name y py) X.env))) _ _ s
 refine wpAny_bind (wpAny_mono (wpAny_comprehension_free (use:=some (assign (.Name y py) X.env)) (Q:=λ_ s'=>SP X pins D .next s') rfl hs e B.kind B.loc
  (wpAny_mono (hi pins s σ H _ I h) (λxv s₁ q₁=>wpAny_mono q₁ (λitv s₂ q₂=>?_) λ_ _ x=>x) λ_ _ x=>x)) (λ_ s' hq=>wpAny_pure (wpAny_pure hq)) λ_ _ x=>x)
 obtain⟨it,fp,tn,J,H2,rfl,I2,T,st2,f2,hw⟩:=q₂
 refine Im (Q:=λx H1=>cB i x σ H1 D.nx) (RR:=λacc C=>compPost (model X.prog X.w) X.A X.xe (some (assign (.Name y py) X.env)) (λ_ s'=>SP X pins D .next s') acc C) hcalm I2 T st2 f2 B h1 h2 hg hc he hw ?_
 intro E C m s' H' hn hC hfr hne I' q
 show wpAny _ X.A (assign (.Name y py) X.env (.ref E)) _ _ _
 have Oc:∀x c,X.env.cells.lookup x=some c→c≠C:=λx c ec z=>by
  obtain⟨v,q⟩:=I2.cell x c ec
  exact absurd (C3 q.lt (by rw[z];exact hC)) (G3 _)
 refine wpAny_assign_Name (Cd I' hN hy hx (show RelV (.ref E) (.ref E)from rfl) (λs6 I6 ⟨a,hsb,ha⟩=>?_) hf)
 have neA:C≠a:=by
  rcases ha with z | z
  ·rw[z];exact N6 (C3 I2.lt hC)
  ·exact λq=>Oc _ _ z q.symm
 refine⟨m,hn.sameBut hsb neA,λh'' hs''=>⟨_,H',?_,q⟩⟩
 exact I6.turned (t':=s6.toks) (λb o hb eb=>(hs''.2 b hb).trans eb) hfr (N6 (C3 I2.lt hC)) (.inr (F0 I2.sz hC)) Oc
  λp hp z=>absurd (C3 (Heap.lt_size (I2.pin p hp).1) (by rw[z];exact hC)) (G3 _)
end
end L2


set_option maxHeartbeats 4000000
namespace L2
open PySem PySem.Spec PyProof.Rows
def UJ(J:It)(P:Hp→Prop)(xs:List V):Prop:=
 ∀i H,P H→(i<xs.length→J.go i H)∧(∀x H',J.fj i H x H'→H'=H∧(i<xs.length→xs[i]?=some x))∧(xs.length≤i→J.stop i H)
theorem Io{K:aA}{a:Addr}{xs:List V}:UJ (yf K a) (λH=>mC K H a xs) xs:=λi H hq=>
 ⟨λh=>⟨xs,xs[i],hq,by simp[h]⟩,λx H' ⟨e,y⟩=>⟨e,λ_=>y xs hq⟩,λh=>⟨xs,hq,h⟩⟩
theorem BX{K:aA}{a:Addr}{xs:List V}:UJ (yg K a) (λH=>pI K H a xs) xs:=λi H hq=>
 ⟨λh=>⟨xs,xs[i],hq,by simp[h]⟩,λx H' ⟨e,y⟩=>⟨e,λ_=>y xs hq⟩,λh=>⟨xs,hq,h⟩⟩
theorem Dc{lo:Int}{n:Nat}:UJ (vh lo n) (λ_=>True) ((K4 n).map λi:Nat=>V.int (lo+(i:Int))):=λi H _=>
 ⟨λh=>show i<n by simpa using h,λx H' ⟨e,y⟩=>⟨e,λh=>by
  have h:i<n:=by simpa using h
  subst y
  simp[h]⟩,λh=>show n≤i by simpa using h⟩
section
variable{X:Cx}
theorem eN{scope:Scope}{N:List Str}{x:Str}{pos:Pos}(hN:N.Nodup)(hi:N[0]?=some x)(hx:(pO scope X.env.scope).names.lookup x=some .local) :
  ∀cl fp s H C,PG (bR X scope N cl fp s H C) (.Name x pos) (cB 0):=λ_ _ _ _ _=>jA hN hi (D4 hx) (D3 hx)
theorem Ff{J:It}{P:Hp→Prop}{xs:List V}(hJ:UJ J P xs){g:TG}{tb:TS}{D:Ends}{σ:St}{H:Hp}(Pv:Nat→St→Hp→Prop)(h0:Pv 0 σ H)(hl:∀i σ H,i≤xs.length→Pv i σ H→P H)
  (hs:∀i x σ H,xs[i]?=some x→Pv i σ H→g x σ H λσ2 H2=>tb {D with nx:=Pv (i+1),ct:=Pv (i+1),bk:=D.nx} σ2 H2) (hd:∀σ H,Pv xs.length σ H→D.nx σ H) :
  ∃W:Nat→Nat→St→Hp→Prop,(∃m,W 0 m σ H)∧∀i m σ H,W i m σ H →
   (J.stop i H∧D.nx σ H)∨(J.go i H∧∃N:St→Hp→Prop,(∀σ' H',N σ' H'→∃m',m'<m∧W (i+1) m' σ' H')∧∀x H',J.fj i H x H'→g x σ H' λσ2 H2=>tb {D with nx:=N,ct:=N,bk:=D.nx} σ2 H2):=by
 refine⟨λi m σ H=>m=xs.length-i∧i≤xs.length∧Pv i σ H,⟨xs.length,by simp,O1 _,h0⟩,?_⟩
 rintro i m σ H ⟨rfl,hi,p⟩
 obtain⟨j1,j2,j3⟩:=hJ i H (hl i σ H hi p)
 by_cases hlt:i<xs.length
 ·refine .inr ⟨j1 hlt,Pv (i+1),λσ' H' p'=>⟨xs.length-(i+1),by omega,rfl,hlt,p'⟩,λx H' y=>?_⟩
  obtain⟨e,ex⟩:=j2 x H' y
  subst e
  exact hs i x σ _ (ex hlt) p
 ·have e:i=xs.length:=by omega
  subst e
  exact .inl ⟨j3 (D2 _),hd σ H p⟩
end
end L2


namespace L2
open PySem PySem.Spec PyProof.Rows
section
variable{X:Cx}
theorem wO:∀{bs:List Bool} {us:List Value},Vals (bs.map V.bl) us→us=bs.map Value.bool
 | [],us,r=>by rw[J7]at r;cases r;rfl
 | b::bs,us,r=>by
  rw[D7]at r
  cases r with
  | cons r1 r2=>
   cases(show _=Value.bool b from r1)
   rw[wO r2]
   rfl
theorem Ln(bs:List Bool):((K4 bs.length).all λi=>(bs[i]?).getD true)=bs.all id:=by
 rw[F7,D9,D9]
 constructor
 ·intro h b hb
  obtain⟨i,hi,rfl⟩:=V3 hb
  have:=h i (N1.mpr hi)
  simpa[hi]using this
 ·intro h i hi
  have hi':=N1.mp hi
  simp only[B6 hi',X3]
  exact h _ (X4 hi')
theorem BZ{s:Shared}{h':Heap}{o:Obj}(hk:∀b x,b∉[s.heap.objs.size]→(s.heap.push o).get? b=some x→h'.get? b=some x):∀b x,s.heap.get? b=some x→h'.get? b=some x:=
 λb x e=>hk b x (λhm=>by rw[F6.mp hm]at e;exact G3 _ (Heap.lt_size e)) (Heap.get?_push_of_some _ e)
theorem Vf(hc:X.calm=true):iV X (.builtin "all") (λxs H Q=>∃(p:Addr)(bs:List Bool),xs=[.ref p]∧mC X.K H p (bs.map V.bl)∧Q (.bl (bs.all id)) H):=by
 intro pins s σ H xs us Q I r h
 obtain⟨p,bs,rfl,hq,q⟩:=h
 obtain⟨u,rfl,rx⟩:=vals1 r
 cases rx
 obtain⟨its,rv,pl,hz⟩:=I.list hq
 have hb:=wO rv
 subst hb
 have hl:=pl.isList
 have hlt:p<s.heap.objs.size:=by obtain⟨_,e,_⟩:=hl;exact Heap.lt_size e
 refine call_all_walk (wpAny_pyIter_list hl ?_)
 refine⟨s.heap.objs.size,[s.heap.objs.size,p],[s.heap.objs.size],_,_,_,λi=>(bs[i]?).getD true,rfl,Walks.list (A:=X.A.in1) (I.ok.hd hc) _ p (F2 hlt) _,
  ⟨⟨_,Heap.get?_push_size _ rfl,rfl,rfl⟩,hl.push _⟩,λi v s' Q' E' hP hQ=>?_,λh' tk hk=>?_⟩
 ·have e:(bs.map Value.bool)[i]?=some v:=by simpa using hP
  rw[D5]at e
  cases e2:bs[i]? with
  | none=>rw[e2]at e;cases e
  | some b=>
   rw[e2]at e
   cases e
   simp only[e2,X3]at hQ
   exact wpAny_truthy_bool hQ
 ·have e:((K4 (bs.map Value.bool).toArray.size).all λi=>(bs[i]?).getD true)=bs.all id:=by
   rw[B7,B3];exact Ln bs
  rw[e]
  exact⟨.bl _,H,I.kept (BZ hk),rfl,q⟩
end
inductive DV where
  | int (i:Int) | non | lst (ds:List DV) | tup (ds:List DV)
mutual
def Reads(K:aA)(H:Hp):DV→V→Prop
 | .int i,x=>x=.int i
 | .non,x=>x=.non
 | .lst ds,x=>∃a xs,x=.ref a∧mC K H a xs∧bT K H ds xs
 | .tup ds,x=>∃a xs,x=.ref a∧pI K H a xs∧bT K H ds xs
def bT(K:aA)(H:Hp):List DV→List V→Prop
 | [],xs=>xs=[]
 | d::ds,xs=>∃y ys,xs=y::ys∧Reads K H d y∧bT K H ds ys
end
mutual
def DV.depth:DV→Nat
 | .int _=>0
 | .non=>0
 | .lst ds=>cY ds+1
 | .tup ds=>cY ds+1
def cY:List DV→Nat
 | []=>0
 | d::ds=>max d.depth (cY ds)
end
theorem bT.length{K:aA}{H:Hp}:∀{ds:List DV} {xs:List V},bT K H ds xs→xs.length=ds.length
 | [],xs,h=>by
  unfold bT at h
  rw[h]
  rfl
 | d::ds,xs,h=>by
  unfold bT at h
  obtain⟨y,ys,rfl,_,h2⟩:=h
  simp[bT.length h2]
theorem bT.get{K:aA}{H:Hp}:∀{ds:List DV} {xs:List V} {i:Nat} {d:DV},bT K H ds xs→ds[i]?=some d→∃x,xs[i]?=some x∧Reads K H d x
 | [],xs,i,d,h,e=>by simp at e
 | d'::ds,xs,0,d,h,e=>by
  unfold bT at h
  obtain⟨y,ys,rfl,h1,_⟩:=h
  simp at e
  subst e
  exact⟨y,rfl,h1⟩
 | d'::ds,xs,i+1,d,h,e=>by
  unfold bT at h
  obtain⟨y,ys,rfl,_,h2⟩:=h
  obtain⟨x,e1,e2⟩:=bT.get h2 (by simpa using e)
  exact⟨x,by simpa using e1,e2⟩
theorem yP:∀{ds:List DV} {i:Nat} {d:DV},ds[i]?=some d→d.depth≤cY ds
 | [],i,d,e=>by simp at e
 | d'::ds,0,d,e=>by
  simp at e
  subst e
  unfold cY
  exact Nat.le_max_left _ _
 | d'::ds,i+1,d,e=>by
  have:=yP (ds:=ds) (i:=i) (d:=d) (by simpa using e)
  unfold cY
  exact F0 this (Nat.le_max_right _ _)
theorem Lp(A:Around):A.in1.units=A.units+1:=rfl
section
open SeqAt
open Classical in
noncomputable def pP(d e:DV):Bool:=decide (d=e)
theorem nP{d e:DV}:pP d e=true↔d=e:=by unfold pP;simp
theorem pQ(d:DV):pP d d=true:=nP.mpr rfl
theorem eO{d e:DV}(h:d≠e):pP d e=false:=by unfold pP;simp[h]
theorem CG(a b:Int):pP (.int a) (.int b)=(a==b):=by
 by_cases h:a=b
 ·subst h;simp[pQ]
 ·rw[eO (by simpa using h)];simp[h]
open Classical in
theorem jX{ds es:List DV}(hl:ds.length=es.length):((K4 ds.length).all λi=>match ds[i]?,es[i]? with | some d,some e=>pP d e | _,_=>true)=decide (ds=es):=by
 rw[F7,D9,decide_eq_true_iff]
 constructor
 ·intro h
  apply X5 hl
  intro i h1 h2
  have:=h i (N1.mpr h1)
  simp only[B6 h1,B6 h2]at this
  exact nP.mp this
 ·rintro rfl i hi
  have hi':=N1.mp hi
  simp only[B6 hi']
  exact pQ _
variable{X:Cx}{pins:List (Addr×Obj)}{σ:St}{H:Hp}{s:Shared}
open Classical in
theorem Oq(ds es:List DV):pP (.lst ds) (.lst es)=decide (ds=es):=by
 by_cases h:ds=es
 ·subst h;simp[pQ]
 ·rw[eO (by intro z;cases z;exact h rfl)];simp[h]
open Classical in
theorem Ot(ds es:List DV):pP (.tup ds) (.tup es)=decide (ds=es):=by
 by_cases h:ds=es
 ·subst h;simp[pQ]
 ·rw[eO (by intro z;cases z;exact h rfl)];simp[h]
theorem De(I:Inv X pins σ H s):∀(n:Nat)(d e:DV)(x:V),d.depth≤n→Reads X.K H d x→Reads X.K H e x→d=e:=by
 have lists:∀(n:Nat),(∀(d e:DV)(x:V),d.depth≤n→Reads X.K H d x→Reads X.K H e x→d=e)→∀(ds es:List DV)(xs:List V),cY ds≤n→bT X.K H ds xs→bT X.K H es xs→ds=es:=by
  intro n ih ds
  induction ds with
  | nil=>
   intro es xs _ h1 h2
   have l1:=h1.length
   have l2:=h2.length
   cases es with
   | nil=>rfl
   | cons _ _=>rw[l1]at l2;simp at l2
  | cons d ds ihl=>
   intro es xs hd h1 h2
   have hd1:d.depth≤n:=by unfold cY at hd;omega
   have hd2:cY ds≤n:=by unfold cY at hd;omega
   unfold bT at h1
   obtain⟨y,ys,rfl,a1,a2⟩:=h1
   cases es with
   | nil=>have:=h2.length;simp at this
   | cons e es=>
    unfold bT at h2
    obtain⟨y',ys',q,b1,b2⟩:=h2
    cases q
    rw[ih d e y hd1 a1 b1,ihl es ys hd2 a2 b2]
 have kinds:∀{a:Addr} {xs ys:List V},mC X.K H a xs→pI X.K H a ys→False:=λ{a xs ys} h1 h2=>by
  obtain⟨_,_,p1,_⟩:=I.list h1
  obtain⟨_,_,p2,_⟩:=I.tuple h2
  exact ne_of_list_tuple p1.isList (show s.heap.IsTuple a _ from p2) rfl
 intro n
 induction n with
 | zero=>
  intro d e x hd h1 h2
  cases d with
  | int i=>
   unfold Reads at h1
   subst h1
   cases e with
   | int j=>unfold Reads at h2;cases h2;rfl
   | non=>unfold Reads at h2;cases h2
   | lst es=>unfold Reads at h2;obtain⟨_,_,q,_⟩:=h2;cases q
   | tup es=>unfold Reads at h2;obtain⟨_,_,q,_⟩:=h2;cases q
  | non=>
   unfold Reads at h1
   subst h1
   cases e with
   | non=>rfl
   | int j=>unfold Reads at h2;cases h2
   | lst es=>unfold Reads at h2;obtain⟨_,_,q,_⟩:=h2;cases q
   | tup es=>unfold Reads at h2;obtain⟨_,_,q,_⟩:=h2;cases q
  | lst ds=>unfold DV.depth at hd;omega
  | tup ds=>unfold DV.depth at hd;omega
 | succ n ih=>
  intro d e x hd h1 h2
  cases d with
  | int i=>
   unfold Reads at h1
   subst h1
   cases e with
   | int j=>unfold Reads at h2;cases h2;rfl
   | non=>unfold Reads at h2;cases h2
   | lst es=>unfold Reads at h2;obtain⟨_,_,q,_⟩:=h2;cases q
   | tup es=>unfold Reads at h2;obtain⟨_,_,q,_⟩:=h2;cases q
  | non=>
   unfold Reads at h1
   subst h1
   cases e with
   | non=>rfl
   | int j=>unfold Reads at h2;cases h2
   | lst es=>unfold Reads at h2;obtain⟨_,_,q,_⟩:=h2;cases q
   | tup es=>unfold Reads at h2;obtain⟨_,_,q,_⟩:=h2;cases q
  | lst ds=>
   unfold Reads at h1
   obtain⟨a,xs,rfl,hq,r⟩:=h1
   cases e with
   | int j=>unfold Reads at h2;cases h2
   | non=>unfold Reads at h2;cases h2
   | lst es=>
    unfold Reads at h2
    obtain⟨b,ys,q,hq2,r2⟩:=h2
    cases q
    have:=I.Hy hq hq2
    subst this
    rw[lists n ih ds es xs (by unfold DV.depth at hd;omega) r r2]
   | tup es=>
    unfold Reads at h2
    obtain⟨b,ys,q,hq2,r2⟩:=h2
    cases q
    exact(kinds hq hq2).elim
  | tup ds=>
   unfold Reads at h1
   obtain⟨a,xs,rfl,hq,r⟩:=h1
   cases e with
   | int j=>unfold Reads at h2;cases h2
   | non=>unfold Reads at h2;cases h2
   | lst es=>
    unfold Reads at h2
    obtain⟨b,ys,q,hq2,r2⟩:=h2
    cases q
    exact(kinds hq2 hq).elim
   | tup es=>
    unfold Reads at h2
    obtain⟨b,ys,q,hq2,r2⟩:=h2
    cases q
    have:=I.Cg hq hq2
    subst this
    rw[lists n ih ds es xs (by unfold DV.depth at hd;omega) r r2]
theorem Vg(I:Inv X pins σ H s)(i:Int)(e:DV)(y:V)(u v:Value)(A:Around)(hu:A.units<cLine)(r2:Reads X.K H e y)(rx:RelV (.int i) u)(ry:RelV y v):RcAt A s u v (pP (.int i) e)∧EqAt A s u v (pP (.int i) e):=by
 obtain⟨t,rfl⟩:=rx
 cases e with
 | int j=>
  unfold Reads at r2
  subst r2
  obtain⟨t',rfl⟩:=ry
  rw[CG]
  exact⟨RcAt.int_int _ _ _ _,EqAt.int_int _ _ _ _⟩
 | non=>
  unfold Reads at r2
  subst r2
  cases ry
  rw[eO (by intro z;cases z)]
  exact⟨RcAt.int_none _ _,EqAt.int_none _ _⟩
 | lst es=>
  unfold Reads at r2
  obtain⟨b,ys,rfl,hq,_⟩:=r2
  cases ry
  obtain⟨its,_,pl,_⟩:=I.list hq
  rw[eO (by intro z;cases z)]
  exact⟨RcAt.int_list _ _ pl.isList (hu),EqAt.int_list _ _ pl.isList (hu)⟩
 | tup es=>
  unfold Reads at r2
  obtain⟨b,ys,rfl,hq,_⟩:=r2
  cases ry
  obtain⟨its,_,pl,_⟩:=I.tuple hq
  rw[eO (by intro z;cases z)]
  exact⟨RcAt.int_tuple _ _ pl (hu),EqAt.int_tuple _ _ pl (hu)⟩
theorem Vh(I:Inv X pins σ H s)(e:DV)(y:V)(u v:Value)(A:Around)(hu:A.units<cLine)(r2:Reads X.K H e y)(rx:RelV .non u)(ry:RelV y v):RcAt A s u v (pP .non e)∧EqAt A s u v (pP .non e):=by
 cases rx
 cases e with
 | non=>
  unfold Reads at r2
  subst r2
  cases ry
  rw[pQ]
  exact⟨RcAt.none_none,EqAt.same _⟩
 | int j=>
  unfold Reads at r2
  subst r2
  obtain⟨t',rfl⟩:=ry
  rw[eO (by intro z;cases z)]
  exact⟨RcAt.none_int _ _,EqAt.none_int _ _⟩
 | lst es=>
  unfold Reads at r2
  obtain⟨b,ys,rfl,hq,_⟩:=r2
  cases ry
  obtain⟨its,_,pl,_⟩:=I.list hq
  rw[eO (by intro z;cases z)]
  exact⟨RcAt.none_list pl.isList hu,EqAt.none_list pl.isList hu⟩
 | tup es=>
  unfold Reads at r2
  obtain⟨b,ys,rfl,hq,_⟩:=r2
  cases ry
  obtain⟨its,_,pl,_⟩:=I.tuple hq
  rw[eO (by intro z;cases z)]
  exact⟨RcAt.none_tuple pl hu,EqAt.none_tuple pl hu⟩
theorem yQ(I:Inv X pins σ H s):∀(n:Nat)(A:Around),(∀(d e:DV)(x y:V)(u v:Value)(A:Around),d.depth≤n→A.units+n<cLine→Reads X.K H d x→Reads X.K H e y→RelV x u→RelV y v→RcAt A s u v (pP d e)∧EqAt A s u v (pP d e)) →
  ∀(ds es:List DV)(xs ys:List V)(us vs:List Value),cY ds≤n→A.units+(n+1)<cLine→bT X.K H ds xs→bT X.K H es ys→Vals xs us→Vals ys vs →
  ∀j (h1:j<us.toArray.size) (h2:j<vs.toArray.size),EqAt A.in1 s us.toArray[j] vs.toArray[j] (match ds[j]?,es[j]? with | some d,some e=>pP d e | _,_=>true):=by
 intro n A ih ds es xs ys us vs hd hu r1 r2 v1 v2 j h1 h2
 have l1:j<ds.length:=by rw[←r1.length,v1.length];simpa using h1
 have l2:j<es.length:=by rw[←r2.length,v2.length];simpa using h2
 obtain⟨x,ex,rx⟩:=r1.get (i:=j) (d:=ds[j]) (by simp)
 obtain⟨y,ey,ry⟩:=r2.get (i:=j) (d:=es[j]) (by simp)
 obtain⟨u,eu,ru⟩:=v1.get ex
 obtain⟨v,ev,rv⟩:=v2.get ey
 have e1:us.toArray[j]=u:=by
  rw[C4]at eu
  obtain⟨_,eu⟩:=eu
  simpa using eu
 have e2:vs.toArray[j]=v:=by
  rw[C4]at ev
  obtain⟨_,ev⟩:=ev
  simpa using ev
 rw[e1,e2]
 simp only[B6 l1,B6 l2]
 exact(ih _ _ x y u v A.in1 (F0 (yP (i:=j) (by simp)) hd) (by rw[Lp];omega) rx ry ru rv).2
theorem Fg(I:Inv X pins σ H s):∀(n:Nat)(d e:DV)(x y:V)(u v:Value)(A:Around),d.depth≤n→A.units+n<cLine→Reads X.K H d x→Reads X.K H e y→RelV x u→RelV y v→RcAt A s u v (pP d e)∧EqAt A s u v (pP d e):=by
 have items:=yQ I
 have seqs:∀(n:Nat)(A:Around),(∀(d e:DV)(x y:V)(u v:Value)(A:Around),d.depth≤n→A.units+n<cLine→Reads X.K H d x→Reads X.K H e y→RelV x u→RelV y v→RcAt A s u v (pP d e)∧EqAt A s u v (pP d e)) →
   ∀(d e:DV)(x y:V)(u v:Value),d.depth≤n+1→A.units+(n+1)<cLine→Reads X.K H d x→Reads X.K H e y→RelV x u→RelV y v→RcAt A s u v (pP d e)∧EqAt A s u v (pP d e):=by
  intro n A ih d e x y u v hd hu r1 r2 rx ry
  have of_same:∀{a b:Addr} {k:Bool},(a=b→k=true)→RcAt A s (.ref a) (.ref b) k→EqAt A s (.ref a) (.ref b) k:=λ{a b k} hk h=>by
   by_cases hab:a=b
   ·subst hab
    rw[hk rfl]
    exact EqAt.same _
   ·exact EqAt.of_refs hab h
  cases d with
  | int i=>
   unfold Reads at r1
   subst r1
   exact Vg I i e y u v A (by omega) r2 rx ry
  | non=>
   unfold Reads at r1
   subst r1
   exact Vh I e y u v A (by omega) r2 rx ry
  | lst ds=>
   unfold Reads at r1
   obtain⟨a,xs,rfl,hq1,Sd⟩:=r1
   cases rx
   obtain⟨xK,v1,xT,_⟩:=I.list hq1
   have hd':cY ds≤n:=by unfold DV.depth at hd;omega
   cases e with
   | int j=>
    unfold Reads at r2
    subst r2
    obtain⟨t',rfl⟩:=ry
    rw[eO (by intro z;cases z)]
    exact⟨RcAt.list_int _ _ xT.isList (by omega),EqAt.list_int _ _ xT.isList (by omega)⟩
   | non=>
    unfold Reads at r2
    subst r2
    cases ry
    rw[eO (by intro z;cases z)]
    exact⟨RcAt.list_none xT.isList (by omega),EqAt.list_none xT.isList (by omega)⟩
   | lst es=>
    unfold Reads at r2
    obtain⟨b,ys,rfl,hq2,Lq⟩:=r2
    cases ry
    obtain⟨its2,v2,Df,_⟩:=I.list hq2
    have e1:xK.toArray.size=ds.length:=by rw[B7,←v1.length,Sd.length]
    have e2:its2.toArray.size=es.length:=by rw[B7,←v2.length,Lq.length]
    have rc:RcAt A s (.ref a) (.ref b) (pP (.lst ds) (.lst es)):=by
     by_cases hl:ds.length=es.length
     ·have q:=RcAt.lists (A:=A) (s:=s) xT.isList Df.isList (by rw[e1,e2];exact hl) (by omega) (items n A ih ds es xs ys xK its2 hd' hu Sd Lq v1 v2)
      rw[e1,jX hl]at q
      rw[Oq]
      exact q
     ·rw[eO (by intro z;cases z;exact hl rfl)]
      exact RcAt.lists_lengths xT.isList Df.isList (by rw[e1,e2];simpa using hl) (by omega)
    exact⟨rc,of_same (λhab=>by
     subst hab
     refine nP.mpr (De I (n+1) _ _ (.ref a) hd ?_ ?_)
     ·unfold Reads
      exact⟨a,xs,rfl,hq1,Sd⟩
     ·unfold Reads
      exact⟨a,ys,rfl,hq2,Lq⟩) rc⟩
   | tup es=>
    unfold Reads at r2
    obtain⟨b,ys,rfl,hq2,Lq⟩:=r2
    cases ry
    obtain⟨its2,v2,Df,_⟩:=I.tuple hq2
    rw[eO (by intro z;cases z)]
    exact⟨RcAt.list_tuple xT.isList Df (by omega),EqAt.list_tuple xT.isList Df (by omega)⟩
  | tup ds=>
   unfold Reads at r1
   obtain⟨a,xs,rfl,hq1,Sd⟩:=r1
   cases rx
   obtain⟨xK,v1,xT,_⟩:=I.tuple hq1
   have hd':cY ds≤n:=by unfold DV.depth at hd;omega
   cases e with
   | int j=>
    unfold Reads at r2
    subst r2
    obtain⟨t',rfl⟩:=ry
    rw[eO (by intro z;cases z)]
    exact⟨RcAt.tuple_int _ _ xT (by omega),EqAt.tuple_int _ _ xT (by omega)⟩
   | non=>
    unfold Reads at r2
    subst r2
    cases ry
    rw[eO (by intro z;cases z)]
    exact⟨RcAt.tuple_none xT (by omega),EqAt.tuple_none xT (by omega)⟩
   | lst es=>
    unfold Reads at r2
    obtain⟨b,ys,rfl,hq2,Lq⟩:=r2
    cases ry
    obtain⟨its2,v2,Df,_⟩:=I.list hq2
    rw[eO (by intro z;cases z)]
    exact⟨RcAt.tuple_list xT Df.isList (by omega),EqAt.tuple_list xT Df.isList (by omega)⟩
   | tup es=>
    unfold Reads at r2
    obtain⟨b,ys,rfl,hq2,Lq⟩:=r2
    cases ry
    obtain⟨its2,v2,Df,_⟩:=I.tuple hq2
    have e1:xK.toArray.size=ds.length:=by rw[B7,←v1.length,Sd.length]
    have e2:its2.toArray.size=es.length:=by rw[B7,←v2.length,Lq.length]
    have rc:RcAt A s (.ref a) (.ref b) (pP (.tup ds) (.tup es)):=by
     have q:=RcAt.tuples (A:=A) (s:=s) (l:=a) (b:=b) xT Df (by omega) (items n A ih ds es xs ys xK its2 hd' hu Sd Lq v1 v2)
     rw[e1,e2]at q
     by_cases hl:ds.length=es.length
     ·rw[←hl,Nat.min_self,jX hl]at q
      rw[Ot]
      simpa using q
     ·rw[eO (by intro z;cases z;exact hl rfl)]
      have z:(ds.length==es.length)=false:=by simpa using hl
      rw[z,Y3]at q
      exact q
    exact⟨rc,of_same (λhab=>by
     subst hab
     refine nP.mpr (De I (n+1) _ _ (.ref a) hd ?_ ?_)
     ·unfold Reads
      exact⟨a,xs,rfl,hq1,Sd⟩
     ·unfold Reads
      exact⟨a,ys,rfl,hq2,Lq⟩) rc⟩
 intro n
 induction n with
 | zero=>
  intro d e x y u v A hd hu r1 r2 rx ry
  cases d with
  | int i=>
   unfold Reads at r1
   subst r1
   exact Vg I i e y u v A (by omega) r2 rx ry
  | non=>
   unfold Reads at r1
   subst r1
   exact Vh I e y u v A (by omega) r2 rx ry
  | lst ds=>unfold DV.depth at hd;omega
  | tup ds=>unfold DV.depth at hd;omega
 | succ n ih=>
  intro d e x y u v A hd hu r1 r2 rx ry
  exact seqs n A ih d e x y u v hd hu r1 r2 rx ry
end
section
variable{X:Cx}
def UL(K:aA)(neg:Bool):R2:=λx y H Q=>∃d e,Reads K H d x∧Reads K H e y∧d.depth≤32∧Q (.bl (if neg then !pP d e else pP d e)) H
theorem UT(hu:X.A.units+64<cLine):lQ X (compareOp .Eq) (UL X.K false):=by
 intro pins s σ H x y v u Q I rx ry h
 obtain⟨d,e,r1,r2,hd,q⟩:=h
 exact(Fg I 32 d e x y v u X.A hd (by omega) r1 r2 rx ry).1 X.prog X.w X.xe _ ⟨.bl _,H,I,rfl,q⟩
open SeqAt in
theorem UW(hu:X.A.units+64<cLine):lQ X (compareOp .NotEq) (λx y H Q=>∃ds es,Reads X.K H (.lst ds) x∧Reads X.K H (.lst es) y∧cY ds≤32∧Q (.bl (!pP (.lst ds) (.lst es))) H):=by
 intro pins s σ H x y v u Q I rx ry h
 obtain⟨ds,es,r1,r2,hd,q⟩:=h
 unfold Reads at r1 r2
 obtain⟨a,xs,rfl,hq1,Sd⟩:=r1
 obtain⟨b,ys,rfl,hq2,Lq⟩:=r2
 cases rx
 cases ry
 obtain⟨xK,v1,xT,_⟩:=I.list hq1
 obtain⟨its2,v2,Df,_⟩:=I.list hq2
 have e1:xK.toArray.size=ds.length:=by rw[B7,←v1.length,Sd.length]
 have e2:its2.toArray.size=es.length:=by rw[B7,←v2.length,Lq.length]
 have rc:RcNeAt X.A s (.ref a) (.ref b) (!pP (.lst ds) (.lst es)):=by
  by_cases hl:ds.length=es.length
  ·have z:=RcNeAt.lists (A:=X.A) (s:=s) xT.isList Df.isList (by rw[e1,e2];exact hl) (by omega) (yQ I 32 X.A (λd e x y u v A a1 a2 a3 a4 a5 a6=>Fg I 32 d e x y u v A a1 a2 a3 a4 a5 a6) ds es xs ys xK its2 hd (by omega) Sd Lq v1 v2)
   rw[e1,jX hl]at z
   rw[Oq]
   exact z
  ·rw[eO (by intro z;cases z;exact hl rfl)]
   exact RcNeAt.lists_lengths xT.isList Df.isList (by rw[e1,e2];simpa using hl) (by omega)
 exact rc X.prog X.w X.xe _ ⟨.bl _,H,I,rfl,q⟩
end
end L2


namespace L2
open PySem PySem.Spec PyProof.Rows
structure Raw(K:aA)(mg:Str→Option Value)(x:Str)(st:Stmt):Prop where
 ex:∃f fd,Zb K x x st f fd∧mg x=some (.ref f)
theorem VB{K:aA}{h:Heap}{mg:Str→Option Value}{x:Str}{st:Stmt}{f:Addr}{oc:Value}{od an:Option Addr}{osl:Array (Option Value)}{kV doc pm cdv ct:Value}(X:K.In h)(G:h.Ns mainGlobals mg)
  (a:G7 K mainGlobals x=some (some (.ref f))) (l:K.lookup f=some ⟨oc,od,.func (G6 x x (fV st) (cQ st) (aM st) .none kV doc pm an cdv ct),osl⟩)
  (c:N7 K cdv x=true) (k:K6 K (.ref f)=true):Raw K mg x st:=⟨⟨f,_,UG l c k,G4 X G a⟩⟩
structure mG(P:Program)(w:World)(K:aA)(mg:Str→Option Value)(base:Heap)(x:Str)(k:Nat)(n:Nat)(sp:Sp):Prop where
 ex:∃f fd ps,ps.length=n∧uD P w K mg base Ue k f fd ps sp∧Binds K fd ps []∧K6 K (.ref f)=true∧mg x=some (.ref f)
theorem Raw.cal{P:Program}{w:World}{K:aA}{mg:Str→Option Value}{base:Heap}{x:Str}{st:Stmt}{N ps:List Str}{k:Nat}{sp:Sp}(R:Raw K mg x st)(S:bO N ps (aM st))(len:∀vs H Q E,sp vs H Q E→vs.length=ps.length)
  (hb:∀(kV doc pm:Value)(an:Option Addr)(cdv ct:Value)(us:List Value),us.length=ps.length→bindArgs (G6 x x (fV st) (cQ st) (aM st) .none kV doc pm an cdv ct) ⟨us,[]⟩=pure (ps.zip us))
  (hbody:∀(f:Addr)(cdv:Value)(A:Around)(outer:List Env)(s:Shared)(H:Hp)(vs:List V)(Q:VK)(E:XK),kI k (A.deeper (envOfC x (aM st) s.heap.objs.size f cdv))→sp vs H Q E →
   ∃t,Ce (jL Ue P w K mg base N x (aM st) f cdv A outer s H E).RC (cQ st) t∧t {nx:=λ_ H'=>Q .non H',rt:=Q} (start N vs) H):mG P w K mg base x (k+1) ps.length sp:=by
 obtain⟨f,fd,F,m⟩:=R.ex
 exact⟨f,fd,ps,rfl,F.ok S len λcdv A outer s H vs Q E hr h=>hbody f cdv A outer s H vs Q E hr h,F.binds hb,F.kp,m⟩
theorem VD{X:Cx}{x:Str}{k n:Nat}{sp:Sp}{e:Expr}{es:List Expr}{p pos:Pos}{t:TA}(C:mG X.prog X.w X.K X.mg X.base x k n sp)(hr:kI k X.A)(hg:Gl X x)
  (ha:PA X (e::es) t) (hdb:(x==("__debug__" : Str))=false:=by decide) (he:starEach (e::es) X.env=(false,eval e X.env)::starEach es X.env:=by rfl) (hpl:(backTo pos (starEach es X.env)).any (·.1)=false:=by rfl) :
  PE X (.Call (.Name x p) (e::es) [] pos) (Cq sp [] E0 t):=by
 obtain⟨f,fd,ps,_,F,hb,hk,hm⟩:=C.ex
 exact Zu F hr hg hm hk hb .nil jt ha hdb he hpl
theorem call_of{sp:Sp}{E:XK}{t:TA}{σ:St}{H:Hp}{Q:VK}(h:t σ H λvs H1=>sp vs H1 Q E):Cq sp [] E t σ H Q:=by
 unfold Cq
 have e:(λ(vs:List V) (H1:Hp)=>sp (vs++[]) H1 Q E)=λvs H1=>sp vs H1 Q E:=by funext vs H1;rw[U1]
 rw[e]
 exact h
theorem cM{H:Hp}{p:Addr}(h:H p=none)(o:HO):aN H (upd H p o):=λb u q=>by rw[bH (gC q h)];exact q
theorem aN.tup{K:aA}{H H':Hp}{a:Addr}{xs:List V}(e:aN H H')(h:pI K H a xs):pI K H' a xs:=by
 rcases h with (h | ⟨o,h⟩) | h
 ·exact .inl (.inl (e _ _ h))
 ·exact .inl (.inr ⟨o,e _ _ h⟩)
 ·exact .inr h
mutual
theorem aN.reads{K:aA}{H H':Hp}(e:aN H H'):∀(d:DV)(x:V),Reads K H d x→Reads K H' d x
 | .int i,x,h=>by unfold Reads at h ⊢;exact h
 | .non,x,h=>by unfold Reads at h ⊢;exact h
 | .lst ds,x,h=>by
  unfold Reads at h ⊢
  obtain⟨a,xs,r,hq,l⟩:=h
  exact⟨a,xs,r,e.seq hq,aN.Lr e ds xs l⟩
 | .tup ds,x,h=>by
  unfold Reads at h ⊢
  obtain⟨a,xs,r,hq,l⟩:=h
  exact⟨a,xs,r,e.tup hq,aN.Lr e ds xs l⟩
theorem aN.Lr{K:aA}{H H':Hp}(e:aN H H'):∀(ds:List DV)(xs:List V),bT K H ds xs→bT K H' ds xs
 | [],xs,h=>by unfold bT at h ⊢;exact h
 | d::ds,xs,h=>by
  unfold bT at h ⊢
  obtain⟨y,ys,r,h1,h2⟩:=h
  exact⟨y,ys,r,aN.reads e d y h1,aN.Lr e ds ys h2⟩
end
theorem sZ:∀ns:List Int,cY (ns.map DV.int)=0
 | []=>by rw[J7];unfold cY;rfl
 | n::ns=>by rw[D7];unfold cY DV.depth;rw[sZ ns];rfl
theorem Ip{ns ms:List Int}:ns.map DV.int=ms.map DV.int↔ns=ms:=by
 constructor
 ·intro h
  have:∀(a b:Int),DV.int a=DV.int b→a=b:=λa b e=>by cases e;rfl
  exact(List.map_inj_right this).mp h
 ·rintro rfl;rfl
theorem zf{xs:List V}{k:Int}{v:V}(h0:0≤k)(h:xs[k.toNat]?=some v):Ik xs k=some v:=by
 have ek:k=((k.toNat:Nat):Int):=by omega
 rw[ek]
 exact Zy h
def mk(ns:List Int):List (Key×V):=ns.foldl (λkvs n=>putK kvs (R9 n) (V.bl true)) []
end L2
namespace L2
theorem dC.at{scope:PySem.Scope}{N:List PySem.Str}{k:Nat}{fr:List Nat}(Hv:PySem.Scope)(oN:List PySem.Str)(h:Ve Hv scope oN N k fr=true):dC Hv scope oN N k fr:=dC.of h
end L2
namespace L2
open PySem PySem.Spec PyProof.Rows
def uE(H:Hp)(p:Addr):Prop:=(∀xs,H p≠some (.tup xs))∧∀o xs,H p≠some (.tZ o (.tup xs))
theorem rC{H:Hp}{p:Addr}{xs:List V}(h:H p=some (.lst xs)):uE H p:=⟨λys e=>(by rw[h]at e;cases e),λo ys e=>(by rw[h]at e;cases e)⟩
theorem Vi{H:Hp}{p:Addr}{kvs:List (Key×V)}(h:H p=some (.dK kvs)):uE H p:=⟨λys e=>(by rw[h]at e;cases e),λo ys e=>(by rw[h]at e;cases e)⟩
theorem pI.upd{K:aA}{H:Hp}{a p:Addr}{xs:List V}{o:HO}(h:pI K H a xs)(n:uE H p):pI K (upd H p o) a xs:=by
 rcases h with (h | ⟨u,h⟩) | h
 ·exact .inl (.inl (by rw[bH (λz=>n.1 xs (by rw[←z];exact h))];exact h))
 ·exact .inl (.inr ⟨u,by rw[bH (λz=>n.2 u xs (by rw[←z];exact h))];exact h⟩)
 ·exact .inr h
mutual
def eX:DV→Bool
 | .int _=>true
 | .non=>true
 | .lst _=>false
 | .tup ds=>cT ds
def cT:List DV→Bool
 | []=>true
 | d::ds=>eX d&&cT ds
end
mutual
theorem Sg{K:aA}{H:Hp}{p:Addr}{o:HO}(n:uE H p):∀(d:DV)(x:V),eX d=true→Reads K H d x→Reads K (upd H p o) d x
 | .int i,x,_,h=>by unfold Reads at h ⊢;exact h
 | .non,x,_,h=>by unfold Reads at h ⊢;exact h
 | .lst ds,x,hi,h=>by unfold eX at hi;cases hi
 | .tup ds,x,hi,h=>by
  unfold eX at hi
  unfold Reads at h ⊢
  obtain⟨a,xs,r,hq,l⟩:=h
  exact⟨a,xs,r,hq.upd n,yR n ds xs hi l⟩
theorem yR{K:aA}{H:Hp}{p:Addr}{o:HO}(n:uE H p):∀(ds:List DV)(xs:List V),cT ds=true→bT K H ds xs→bT K (upd H p o) ds xs
 | [],xs,_,h=>by unfold bT at h ⊢;exact h
 | d::ds,xs,hi,h=>by
  unfold cT at hi
  rw[B4]at hi
  unfold bT at h ⊢
  obtain⟨y,ys,r,h1,h2⟩:=h
  exact⟨y,ys,r,Sg n d y hi.1 h1,yR n ds ys hi.2 h2⟩
end
end L2
namespace L2
open PySem PySem.Spec PyProof.Rows
section
variable{X:Cx}
end
end L2
namespace L2
open PySem PySem.Spec PyProof.Rows
end L2
namespace L2
open PySem PySem.Spec PyProof.Rows
section
variable{X:Cx}
end
end L2


namespace L2
open PySem PySem.Spec PyProof.Rows
section
variable{X:Cx}
open SeqAt in
theorem VF(hu:X.A.units+64<cLine):lQ X (compareOp .NotEq) (λx y H Q=>∃ds es,Reads X.K H (.tup ds) x∧Reads X.K H (.tup es) y∧cY ds≤32∧Q (.bl (!pP (.tup ds) (.tup es))) H):=by
 intro pins s σ H x y v u Q I rx ry h
 obtain⟨ds,es,r1,r2,hd,q⟩:=h
 unfold Reads at r1 r2
 obtain⟨a,xs,rfl,hq1,Sd⟩:=r1
 obtain⟨b,ys,rfl,hq2,Lq⟩:=r2
 cases rx
 cases ry
 obtain⟨xK,v1,xT,_⟩:=I.tuple hq1
 obtain⟨its2,v2,Df,_⟩:=I.tuple hq2
 have e1:xK.toArray.size=ds.length:=by rw[B7,←v1.length,Sd.length]
 have e2:its2.toArray.size=es.length:=by rw[B7,←v2.length,Lq.length]
 have rc:RcNeAt X.A s (.ref a) (.ref b) (!pP (.tup ds) (.tup es)):=by
  have z:=RcNeAt.tuples (A:=X.A) (s:=s) (l:=a) (b:=b) xT Df (by omega) (yQ I 32 X.A (λd e x y u v A a1 a2 a3 a4 a5 a6=>Fg I 32 d e x y u v A a1 a2 a3 a4 a5 a6) ds es xs ys xK its2 hd (by omega) Sd Lq v1 v2)
  rw[e1,e2]at z
  by_cases hl:ds.length=es.length
  ·rw[←hl,Nat.min_self,jX hl]at z
   rw[Ot]
   simpa using z
  ·rw[eO (by intro z;cases z;exact hl rfl)]
   have zz:(ds.length==es.length)=false:=by simpa using hl
   rw[zz,Y3]at z
   exact z
 exact rc X.prog X.w X.xe _ ⟨.bl _,H,I,rfl,q⟩
end
end L2


namespace L2
open PySem PySem.Spec PyProof.Rows
inductive D where
  | non | bl (b:Bool) | int (i:Int) | str (x:Str)
  | lst (ds:List D) | tup (ds:List D)
  | dk (ks:List Key) (ds:List D)
  | dt (ks:List (List Key)) (ds:List D)
  | ins (C:Addr) (nm:List Str) (ds:List D)
abbrev Fp:=Addr→Prop
def Apart(A B:Fp):Prop:=∀x,A x→¬B x
def Is(A B:Fp):Prop:=∀x,A x↔B x
def None(A:Fp):Prop:=∀x,¬A x
abbrev gZ(A B:Fp):Fp:=λx=>A x∨B x
mutual
def Rv(K:aA)(H:Hp):D→V→Prop
 | .non,v=>v=.non
 | .bl b,v=>v=.bl b
 | .int i,v=>v=.int i
 | .str x,v=>v=.str x
 | .lst ds,v=>∃a xs,v=.ref a∧mC K H a xs∧cC K H ds xs
 | .tup ds,v=>∃a xs,v=.ref a∧pI K H a xs∧cC K H ds xs
 | .dk ks ds,v=>∃a xs,v=.ref a∧Rd H a (.dK (ks.zip xs))∧ks.length=xs.length∧cC K H ds xs
 | .dt ks ds,v=>∃a xs,v=.ref a∧Rd H a (.dT (ks.zip xs))∧ks.length=xs.length∧cC K H ds xs
 | .ins C nm ds,v=>∃a dx xs,v=.ref a∧H a=some (.ins C dx (nm.zip xs))∧nm.length=xs.length∧cC K H ds xs
def cC(K:aA)(H:Hp):List D→List V→Prop
 | [],xs=>xs=[]
 | d::ds,xs=>∃y ys,xs=y::ys∧Rv K H d y∧cC K H ds ys
end
theorem aN.rd{H H':Hp}(e:aN H H'){a:Addr}{u:HO}(h:Rd H a u):Rd H' a u:=by
 rcases h with h | ⟨o,h⟩
 ·exact .inl (e _ _ h)
 ·exact .inr ⟨o,e _ _ h⟩
mutual
theorem aN.rv{K:aA}{H H':Hp}(e:aN H H'):∀(d:D)(v:V),Rv K H d v→Rv K H' d v
 | .non,v,h=>by unfold Rv at h ⊢;exact h
 | .bl _,v,h=>by unfold Rv at h ⊢;exact h
 | .int _,v,h=>by unfold Rv at h ⊢;exact h
 | .str _,v,h=>by unfold Rv at h ⊢;exact h
 | .lst ds,v,h=>by unfold Rv at h ⊢;obtain⟨a,xs,r,hq,l⟩:=h;exact⟨a,xs,r,e.seq hq,aN.Ou e ds xs l⟩
 | .tup ds,v,h=>by unfold Rv at h ⊢;obtain⟨a,xs,r,hq,l⟩:=h;exact⟨a,xs,r,e.tup hq,aN.Ou e ds xs l⟩
 | .dk ks ds,v,h=>by unfold Rv at h ⊢;obtain⟨a,xs,r,hq,hl,l⟩:=h;exact⟨a,xs,r,e.rd hq,hl,aN.Ou e ds xs l⟩
 | .dt ks ds,v,h=>by unfold Rv at h ⊢;obtain⟨a,xs,r,hq,hl,l⟩:=h;exact⟨a,xs,r,e.rd hq,hl,aN.Ou e ds xs l⟩
 | .ins C nm ds,v,h=>by unfold Rv at h ⊢;obtain⟨a,dx,xs,r,hq,hl,l⟩:=h;exact⟨a,dx,xs,r,e _ _ hq,hl,aN.Ou e ds xs l⟩
theorem aN.Ou{K:aA}{H H':Hp}(e:aN H H'):∀(ds:List D)(xs:List V),cC K H ds xs→cC K H' ds xs
 | [],xs,h=>by unfold cC at h ⊢;exact h
 | d::ds,xs,h=>by unfold cC at h ⊢;obtain⟨y,ys,r,h1,h2⟩:=h;exact⟨y,ys,r,aN.rv e d y h1,aN.Ou e ds ys h2⟩
end
theorem cC.length{K:aA}{H:Hp}:∀{ds:List D} {xs:List V},cC K H ds xs→xs.length=ds.length
 | [],xs,h=>by unfold cC at h;subst h;rfl
 | d::ds,xs,h=>by unfold cC at h;obtain⟨y,ys,rfl,_,h2⟩:=h;rw[G8,G8,cC.length h2]
theorem cC.get{K:aA}{H:Hp}:∀{ds:List D} {xs:List V} {i:Nat} {d:D},cC K H ds xs→ds[i]?=some d→∃x,xs[i]?=some x∧Rv K H d x
 | [],xs,i,d,h,e=>by simp at e
 | d'::ds,xs,0,d,h,e=>by unfold cC at h;obtain⟨y,ys,rfl,h1,_⟩:=h;simp at e;subst e;exact⟨y,rfl,h1⟩
 | d'::ds,xs,i+1,d,h,e=>by
  unfold cC at h
  obtain⟨y,ys,rfl,_,h2⟩:=h
  obtain⟨x,e1,e2⟩:=cC.get (i:=i) (d:=d) h2 (by simpa using e)
  exact⟨x,by simpa using e1,e2⟩
theorem cC.of{K:aA}{H:Hp}:∀{ds:List D} {xs:List V},xs.length=ds.length→(∀(i:Nat)(d:D)(x:V),ds[i]?=some d→xs[i]?=some x→Rv K H d x)→cC K H ds xs
 | [],xs,hl,_=>by unfold cC;exact List.eq_nil_of_length_eq_zero hl
 | d::ds,[],hl,_=>by simp at hl
 | d::ds,x::xs,hl,h=>by
  unfold cC
  exact⟨x,xs,rfl,h 0 d x rfl rfl,cC.of (by simpa using hl) λi e y h1 h2=>h (i+1) e y (by simpa using h1) (by simpa using h2)⟩
def gA{α β:Type}(R:α→Fp→β→Prop):List α→Fp→List β→Prop
 | [],A,ys=>None A∧ys=[]
 | d::ds,A,ys=>∃y yt A1 A2,ys=y::yt∧Apart A1 A2∧Is A (gZ A1 A2)∧R d A1 y∧gA R ds A2 yt
section
variable{α β:Type}{R R':α→Fp→β→Prop}
theorem gA.congr:∀{ds:List α} {A A':Fp} {ys:List β},gA R ds A ys→Is A A'→gA R ds A' ys
 | [],A,A',ys,h,e=>⟨λx q=>h.1 x ((e x).mpr q),h.2⟩
 | d::ds,A,A',ys,⟨y,yt,A1,A2,h1,h2,h3,h4⟩,e=>⟨y,yt,A1,A2,h1,h2,λx=>((e x).symm).trans (h3 x),h4⟩
theorem gA.mono:∀{ds:List α} {A:Fp} {ys:List β},gA R ds A ys→(∀e B z,(∀x,B x→A x)→R e B z→R' e B z)→gA R' ds A ys
 | [],A,ys,h,_=>h
 | d::ds,A,ys,⟨y,yt,A1,A2,h1,h2,h3,h4,h5⟩,m=>
  ⟨y,yt,A1,A2,h1,h2,h3,m _ _ _ (λx q=>(h3 x).mpr (.inl q)) h4,h5.mono λe B z hb=>m e B z λx q=>(h3 x).mpr (.inr (hb x q))⟩
theorem gA.len:∀{ds:List α} {A:Fp} {ys:List β},gA R ds A ys→ys.length=ds.length
 | [],A,ys,h=>by rw[h.2];rfl
 | d::ds,A,ys,⟨y,yt,A1,A2,h1,h2,h3,h4,h5⟩=>by rw[h1,G8,G8,h5.len]
theorem gA.focus:∀{ds:List α} {A:Fp} {ys:List β} {i:Nat} {d:α},gA R ds A ys→ds[i]?=some d→∃y A1 C,ys[i]?=some y∧Apart A1 C∧Is A (gZ A1 C)∧R d A1 y ∧
    ∀(R':α→Fp→β→Prop),(∀e B z,(∀x,B x→C x)→R e B z→R' e B z)→∀d' y' Zc,Apart Zc C→R' d' Zc y'→gA R' (ds.set i d') (gZ Zc C) (ys.set i y')
  | [],A,ys,i,d,h,e=>by simp at e
  | d0::ds,A,ys,0,d,⟨y,yt,A1,A2,h1,h2,h3,h4,h5⟩,e=>by
    simp at e
    subst e h1
    exact⟨y,A1,A2,rfl,h2,h3,h4,λR' m d' y' Zc ap r=>⟨y',yt,Zc,A2,rfl,ap,λx=>Iff.rfl,r,h5.mono m⟩⟩
  | d0::ds,A,ys,i+1,d,⟨y,yt,A1,A2,h1,h2,h3,h4,h5⟩,e=>by
    subst h1
    obtain⟨z,B1,C,e1,ap,hA,r,k⟩:=gA.focus (i:=i) (d:=d) h5 (by simpa using e)
    refine⟨z,B1,gZ A1 C,by simpa using e1,?_,?_,r,λR' m d' y' Zc ap' r'=>?_⟩
    · intro x hx hc
      rcases hc with hc | hc
      · exact h2 x hc ((hA x).mpr (.inl hx))
      · exact ap x hx hc
    · intro x
      rw[h3 x]
      constructor
      · rintro(q | q)
        · exact .inr (.inl q)
        · rcases(hA x).mp q with q | q
          · exact .inl q
          · exact .inr (.inr q)
      · rintro(q | q | q)
        · exact .inr ((hA x).mpr (.inl q))
        · exact .inl q
        · exact .inr ((hA x).mpr (.inr q))
    · refine⟨y,_,A1,gZ Zc C,rfl,?_,?_,m _ _ _ (λx q=>.inl q) h4,k R' (λe B z hb=>m e B z λx q=>.inr (hb x q)) d' y' Zc (λx q q'=>ap' x q (.inr q')) r'⟩
      · intro x q q'
        rcases q' with q' | q'
        · exact ap' x q' (.inl q)
        · exact h2 x q ((hA x).mpr (.inr q'))
      · intro x
        show (Zc x∨A1 x∨C x)↔(A1 x∨Zc x∨C x)
        constructor
        · rintro(q | q | q)
          · exact .inr (.inl q)
          · exact .inl q
          · exact .inr (.inr q)
        · rintro(q | q | q)
          · exact .inr (.inl q)
          · exact .inl q
          · exact .inr (.inr q)
theorem gA.snoc:∀{ds:List α} {A A1:Fp} {ys:List β} {d:α} {y:β},gA R ds A ys→R d A1 y→Apart A A1→gA R (ds++[d]) (gZ A A1) (ys++[y])
 | [],A,A1,ys,d,y,h,r,ap=>by
  rw[h.2]
  exact⟨y,[],A1,λ_=>False,rfl,λ_ _ z=>z,λx=>⟨λq=>q.elim (λq=>absurd q (h.1 x)) .inl,λq=>q.elim .inr False.elim⟩,r,λ_ z=>z,rfl⟩
 | d0::ds,A,A1,ys,d,y,⟨y0,yt,B1,B2,h1,h2,h3,h4,h5⟩,r,ap=>by
  subst h1
  refine⟨y0,yt++[y],B1,gZ B2 A1,rfl,?_,?_,h4,gA.snoc h5 r λx q=>ap x ((h3 x).mpr (.inr q))⟩
  ·intro x q q'
   rcases q' with q' | q'
   ·exact h2 x q q'
   ·exact ap x ((h3 x).mpr (.inl q)) q'
  ·intro x
   show (A x∨A1 x)↔(B1 x∨B2 x∨A1 x)
   rw[h3 x]
   exact or_assoc
end
mutual
def Ow(K:aA)(H:Hp):D→Fp→V→Prop
 | .non,A,v=>None A∧v=.non
 | .bl b,A,v=>None A∧v=.bl b
 | .int i,A,v=>None A∧v=.int i
 | .str x,A,v=>None A∧v=.str x
 | .lst ds,A,v=>∃a xs B,v=.ref a∧H a=some (.lst xs)∧¬B a∧Is A (gZ (·=a) B)∧gB K H ds B xs
 | .tup ds,A,v=>∃a xs,v=.ref a∧pI K H a xs∧gB K H ds A xs
 | .dk ks ds,A,v=>∃a xs B,v=.ref a∧H a=some (.dK (ks.zip xs))∧ks.length=xs.length∧¬B a∧Is A (gZ (·=a) B)∧gB K H ds B xs
 | .dt ks ds,A,v=>∃a xs B,v=.ref a∧H a=some (.dT (ks.zip xs))∧ks.length=xs.length∧¬B a∧Is A (gZ (·=a) B)∧gB K H ds B xs
 | .ins C nm ds,A,v=>∃a dx xs B,v=.ref a∧H a=some (.ins C dx (nm.zip xs))∧H dx=some (.own a)∧nm.length=xs.length∧¬B a∧¬B dx∧Is A (gZ (λx=>x=a∨x=dx) B)∧gB K H ds B xs
def gB(K:aA)(H:Hp):List D→Fp→List V→Prop
 | [],A,ys=>None A∧ys=[]
 | d::ds,A,ys=>∃y yt A1 A2,ys=y::yt∧Apart A1 A2∧Is A (gZ A1 A2)∧Ow K H d A1 y∧gB K H ds A2 yt
end
theorem fW{K:aA}{H:Hp}:∀{ds:List D} {A:Fp} {ys:List V},gB K H ds A ys↔gA (Ow K H) ds A ys
 | [],A,ys=>by unfold gB gA;exact Iff.rfl
 | d::ds,A,ys=>by
  unfold gB gA
  constructor
  ·rintro⟨y,yt,A1,A2,h1,h2,h3,h4,h5⟩;exact⟨y,yt,A1,A2,h1,h2,h3,h4,fW.mp h5⟩
  ·rintro⟨y,yt,A1,A2,h1,h2,h3,h4,h5⟩;exact⟨y,yt,A1,A2,h1,h2,h3,h4,fW.mpr h5⟩
def vJ(K:aA)(H H':Hp):Prop:=∀a xs,pI K H a xs→pI K H' a xs
theorem aN.tk{K:aA}{H H':Hp}(e:aN H H'):vJ K H H':=λ_ _ h=>e.tup h
theorem Ow.congr{K:aA}{H:Hp}{d:D}{A A':Fp}{v:V}(h:Ow K H d A v)(e:Is A A'):Ow K H d A' v:=by
 cases d with
 | non=>unfold Ow at h ⊢;exact⟨λx q=>h.1 x ((e x).mpr q),h.2⟩
 | bl b=>unfold Ow at h ⊢;exact⟨λx q=>h.1 x ((e x).mpr q),h.2⟩
 | int b=>unfold Ow at h ⊢;exact⟨λx q=>h.1 x ((e x).mpr q),h.2⟩
 | str b=>unfold Ow at h ⊢;exact⟨λx q=>h.1 x ((e x).mpr q),h.2⟩
 | lst ds=>unfold Ow at h ⊢;obtain⟨a,xs,B,h1,h2,h3,h4,h5⟩:=h;exact⟨a,xs,B,h1,h2,h3,λx=>(e x).symm.trans (h4 x),h5⟩
 | tup ds=>unfold Ow at h ⊢;obtain⟨a,xs,h1,h2,h3⟩:=h;exact⟨a,xs,h1,h2,fW.mpr ((fW.mp h3).congr e)⟩
 | dk ks ds=>unfold Ow at h ⊢;obtain⟨a,xs,B,h1,h2,h2',h3,h4,h5⟩:=h;exact⟨a,xs,B,h1,h2,h2',h3,λx=>(e x).symm.trans (h4 x),h5⟩
 | dt ks ds=>unfold Ow at h ⊢;obtain⟨a,xs,B,h1,h2,h2',h3,h4,h5⟩:=h;exact⟨a,xs,B,h1,h2,h2',h3,λx=>(e x).symm.trans (h4 x),h5⟩
 | ins C nm ds=>unfold Ow at h ⊢;obtain⟨a,dx,xs,B,h1,h2,h2',h3,h3',h3'',h4,h5⟩:=h;exact⟨a,dx,xs,B,h1,h2,h2',h3,h3',h3'',λx=>(e x).symm.trans (h4 x),h5⟩
mutual
theorem Ow.frame{K:aA}{H H':Hp}(t:vJ K H H'):∀(d:D)(A:Fp)(v:V),Ow K H d A v→(∀a,A a→H' a=H a)→Ow K H' d A v
 | .non,A,v,h,f=>by unfold Ow at h ⊢;exact h
 | .bl _,A,v,h,f=>by unfold Ow at h ⊢;exact h
 | .int _,A,v,h,f=>by unfold Ow at h ⊢;exact h
 | .str _,A,v,h,f=>by unfold Ow at h ⊢;exact h
 | .lst ds,A,v,h,f=>by
  unfold Ow at h ⊢
  obtain⟨a,xs,B,h1,h2,h3,h4,h5⟩:=h
  exact⟨a,xs,B,h1,(f a ((h4 a).mpr (.inl rfl))).trans h2,h3,h4,gB.frame t ds B xs h5 λb q=>f b ((h4 b).mpr (.inr q))⟩
 | .tup ds,A,v,h,f=>by unfold Ow at h ⊢;obtain⟨a,xs,h1,h2,h3⟩:=h;exact⟨a,xs,h1,t _ _ h2,gB.frame t ds A xs h3 f⟩
 | .dk ks ds,A,v,h,f=>by
  unfold Ow at h ⊢
  obtain⟨a,xs,B,h1,h2,h2',h3,h4,h5⟩:=h
  exact⟨a,xs,B,h1,(f a ((h4 a).mpr (.inl rfl))).trans h2,h2',h3,h4,gB.frame t ds B xs h5 λb q=>f b ((h4 b).mpr (.inr q))⟩
 | .dt ks ds,A,v,h,f=>by
  unfold Ow at h ⊢
  obtain⟨a,xs,B,h1,h2,h2',h3,h4,h5⟩:=h
  exact⟨a,xs,B,h1,(f a ((h4 a).mpr (.inl rfl))).trans h2,h2',h3,h4,gB.frame t ds B xs h5 λb q=>f b ((h4 b).mpr (.inr q))⟩
 | .ins C nm ds,A,v,h,f=>by
  unfold Ow at h ⊢
  obtain⟨a,dx,xs,B,h1,h2,h2',h3,h3',h3'',h4,h5⟩:=h
  exact⟨a,dx,xs,B,h1,(f a ((h4 a).mpr (.inl (.inl rfl)))).trans h2,(f dx ((h4 dx).mpr (.inl (.inr rfl)))).trans h2',h3,h3',h3'',h4,gB.frame t ds B xs h5 λb q=>f b ((h4 b).mpr (.inr q))⟩
theorem gB.frame{K:aA}{H H':Hp}(t:vJ K H H'):∀(ds:List D)(A:Fp)(ys:List V),gB K H ds A ys→(∀a,A a→H' a=H a)→gB K H' ds A ys
 | [],A,ys,h,f=>by unfold gB at h ⊢;exact h
 | d::ds,A,ys,h,f=>by
  unfold gB at h ⊢
  obtain⟨y,yt,A1,A2,h1,h2,h3,h4,h5⟩:=h
  exact⟨y,yt,A1,A2,h1,h2,h3,Ow.frame t d A1 y h4 λb q=>f b ((h3 b).mpr (.inl q)),gB.frame t ds A2 yt h5 λb q=>f b ((h3 b).mpr (.inr q))⟩
end
mutual
theorem Ow.rv{K:aA}{H:Hp}:∀(d:D)(A:Fp)(v:V),Ow K H d A v→Rv K H d v
 | .non,A,v,h=>by unfold Ow at h;unfold Rv;exact h.2
 | .bl _,A,v,h=>by unfold Ow at h;unfold Rv;exact h.2
 | .int _,A,v,h=>by unfold Ow at h;unfold Rv;exact h.2
 | .str _,A,v,h=>by unfold Ow at h;unfold Rv;exact h.2
 | .lst ds,A,v,h=>by unfold Ow at h;unfold Rv;obtain⟨a,xs,B,h1,h2,h3,h4,h5⟩:=h;exact⟨a,xs,h1,mC.of h2,gB.rv ds B xs h5⟩
 | .tup ds,A,v,h=>by unfold Ow at h;unfold Rv;obtain⟨a,xs,h1,h2,h3⟩:=h;exact⟨a,xs,h1,h2,gB.rv ds A xs h3⟩
 | .dk ks ds,A,v,h=>by unfold Ow at h;unfold Rv;obtain⟨a,xs,B,h1,h2,h2',h3,h4,h5⟩:=h;exact⟨a,xs,h1,.inl h2,h2',gB.rv ds B xs h5⟩
 | .dt ks ds,A,v,h=>by unfold Ow at h;unfold Rv;obtain⟨a,xs,B,h1,h2,h2',h3,h4,h5⟩:=h;exact⟨a,xs,h1,.inl h2,h2',gB.rv ds B xs h5⟩
 | .ins C nm ds,A,v,h=>by unfold Ow at h;unfold Rv;obtain⟨a,dx,xs,B,h1,h2,h2',h3,h3',h3'',h4,h5⟩:=h;exact⟨a,dx,xs,h1,h2,h3,gB.rv ds B xs h5⟩
theorem gB.rv{K:aA}{H:Hp}:∀(ds:List D)(A:Fp)(ys:List V),gB K H ds A ys→cC K H ds ys
 | [],A,ys,h=>by unfold gB at h;unfold cC;exact h.2
 | d::ds,A,ys,h=>by unfold gB at h;unfold cC;obtain⟨y,yt,A1,A2,h1,h2,h3,h4,h5⟩:=h;exact⟨y,yt,h1,Ow.rv d A1 y h4,gB.rv ds A2 yt h5⟩
end
def pR(H:Hp)(a:Addr):Prop:=(∃o,H a=some o)∧uE H a
mutual
theorem Ow.cells{K:aA}{H:Hp}:∀(d:D)(A:Fp)(v:V),Ow K H d A v→∀a,A a→pR H a
 | .non,A,v,h,a,q=>by unfold Ow at h;exact absurd q (h.1 a)
 | .bl _,A,v,h,a,q=>by unfold Ow at h;exact absurd q (h.1 a)
 | .int _,A,v,h,a,q=>by unfold Ow at h;exact absurd q (h.1 a)
 | .str _,A,v,h,a,q=>by unfold Ow at h;exact absurd q (h.1 a)
 | .lst ds,A,v,h,a,q=>by
  unfold Ow at h
  obtain⟨p,xs,B,h1,h2,h3,h4,h5⟩:=h
  rcases(h4 a).mp q with z | z
  ·cases z;exact⟨⟨_,h2⟩,rC h2⟩
  ·exact gB.cells ds B xs h5 a z
 | .tup ds,A,v,h,a,q=>by unfold Ow at h;obtain⟨p,xs,h1,h2,h3⟩:=h;exact gB.cells ds A xs h3 a q
 | .dk ks ds,A,v,h,a,q=>by
  unfold Ow at h
  obtain⟨p,xs,B,h1,h2,h2',h3,h4,h5⟩:=h
  rcases(h4 a).mp q with z | z
  ·cases z;exact⟨⟨_,h2⟩,Vi h2⟩
  ·exact gB.cells ds B xs h5 a z
 | .dt ks ds,A,v,h,a,q=>by
  unfold Ow at h
  obtain⟨p,xs,B,h1,h2,h2',h3,h4,h5⟩:=h
  rcases(h4 a).mp q with z | z
  ·cases z;exact⟨⟨_,h2⟩,λys e=>(by rw[h2]at e;cases e),λo ys e=>(by rw[h2]at e;cases e)⟩
  ·exact gB.cells ds B xs h5 a z
 | .ins C nm ds,A,v,h,a,q=>by
  unfold Ow at h
  obtain⟨p,dx,xs,B,h1,h2,h2',h3,h3',h3'',h4,h5⟩:=h
  rcases(h4 a).mp q with (z | z) | z
  ·cases z;exact⟨⟨_,h2⟩,λys e=>(by rw[h2]at e;cases e),λo ys e=>(by rw[h2]at e;cases e)⟩
  ·cases z;exact⟨⟨_,h2'⟩,λys e=>(by rw[h2']at e;cases e),λo ys e=>(by rw[h2']at e;cases e)⟩
  ·exact gB.cells ds B xs h5 a z
theorem gB.cells{K:aA}{H:Hp}:∀(ds:List D)(A:Fp)(ys:List V),gB K H ds A ys→∀a,A a→pR H a
 | [],A,ys,h,a,q=>by unfold gB at h;exact absurd q (h.1 a)
 | d::ds,A,ys,h,a,q=>by
  unfold gB at h
  obtain⟨y,yt,A1,A2,h1,h2,h3,h4,h5⟩:=h
  rcases(h3 a).mp q with z | z
  ·exact Ow.cells d A1 y h4 a z
  ·exact gB.cells ds A2 yt h5 a z
end
mutual
def D.eX:D→Bool
  | .non=>true | .bl _=>true | .int _=>true | .str _=>true
  | .tup ds=>D.cT ds
  | _=>false
def D.cT:List D→Bool
  | []=>true
  | d::ds=>D.eX d&&D.cT ds
end
abbrev nil:Fp:=λ_=>False
mutual
theorem yS{K:aA}{H:Hp}:∀(d:D)(v:V),d.eX=true→Rv K H d v→Ow K H d nil v
 | .non,v,_,h=>by unfold Rv at h;unfold Ow;exact⟨λ_ z=>z,h⟩
 | .bl _,v,_,h=>by unfold Rv at h;unfold Ow;exact⟨λ_ z=>z,h⟩
 | .int _,v,_,h=>by unfold Rv at h;unfold Ow;exact⟨λ_ z=>z,h⟩
 | .str _,v,_,h=>by unfold Rv at h;unfold Ow;exact⟨λ_ z=>z,h⟩
 | .tup ds,v,i,h=>by unfold D.eX at i;unfold Rv at h;unfold Ow;obtain⟨a,xs,h1,h2,h3⟩:=h;exact⟨a,xs,h1,h2,uF ds xs i h3⟩
 | .lst ds,v,i,h=>by unfold D.eX at i;cases i
 | .dk _ ds,v,i,h=>by unfold D.eX at i;cases i
 | .dt _ ds,v,i,h=>by unfold D.eX at i;cases i
 | .ins _ _ ds,v,i,h=>by unfold D.eX at i;cases i
theorem uF{K:aA}{H:Hp}:∀(ds:List D)(ys:List V),D.cT ds=true→cC K H ds ys→gB K H ds nil ys
 | [],ys,_,h=>by unfold cC at h;unfold gB;exact⟨λ_ z=>z,h⟩
 | d::ds,ys,i,h=>by
  unfold D.cT at i
  rw[B4]at i
  unfold cC at h
  unfold gB
  obtain⟨y,yt,h1,h2,h3⟩:=h
  exact⟨y,yt,nil,nil,h1,λ_ z _=>z,λx=>⟨False.elim,λz=>z.elim id id⟩,yS d y i.1 h2,uF ds yt i.2 h3⟩
end
open Classical in
noncomputable def out(H:Hp)(A:Fp):Hp:=λa=>if A a then none else H a
theorem Fi{H:Hp}{A:Fp}{a:Addr}(h:¬A a):out H A a=H a:=by unfold out;rw[if_neg h]
theorem bC{H:Hp}{A:Fp}{a:Addr}{o:HO}:out H A a=some o↔¬A a∧H a=some o:=by
 unfold out
 split
 ·rename_i h;exact⟨λz=>(by cases z),λz=>absurd h z.1⟩
 ·rename_i h;exact⟨λz=>⟨h,z⟩,λz=>z.2⟩
theorem kJ(H:Hp)(A:Fp):aN (out H A) H:=λb o h=>(bC.mp h).2
theorem Vj{K:aA}{H:Hp}{A:Fp}(h:∀a,A a→uE H a):vJ K H (out H A):=λa xs q=>by
 rcases q with (q | ⟨o,q⟩) | q
 ·exact .inl (.inl (bC.mpr ⟨λz=>(h a z).1 _ q,q⟩))
 ·exact .inl (.inr ⟨o,bC.mpr ⟨λz=>(h a z).2 _ _ q,q⟩⟩)
 ·exact .inr q
theorem Ow.out{K:aA}{H:Hp}{d:D}{A A':Fp}{v:V}(h:Ow K H d A' v)(ap:Apart A' A)(c:∀a,A a→uE H a):Rv K (out H A) d v:=
 Ow.rv d A' v (Ow.frame (Vj c) d A' v h λa q=>Fi (ap a q))
end L2


namespace L2
open PySem PySem.Spec PyProof.Rows
abbrev DE:=List (Option D)
abbrev FE:=DE→Option D
abbrev FA:=DE→Option (List D)
abbrev FT:=DE→Option Bool
def pD(K:aA)(H:Hp)(e:DE)(σ:St):Prop:=∀(i:Nat)(d:D),e[i]?=some (some d)→∃v,σ[i]?=some (some v)∧Rv K H d v
theorem pD.same{K:aA}{H H':Hp}{e:DE}{σ:St}(h:pD K H e σ)(s:aN H H'):pD K H' e σ:=λi d q=>let ⟨v,h1,h2⟩:=h i d q;⟨v,h1,s.rv _ _ h2⟩
structure Zn(K:aA)(N:Fp)(Z H:Hp):Prop where
 sm:aN Z H
 tk:vJ K H Z
 no:∀a,N a→Z a=none∧¬H a=none
theorem Zn.self(K:aA)(H:Hp):Zn K nil H H:=⟨aN.refl _,λ_ _ h=>h,λ_ z=>z.elim⟩
theorem vJ.trans{K:aA}{H H1 H2:Hp}(a:vJ K H H1)(b:vJ K H1 H2):vJ K H H2:=λp xs h=>b p xs (a p xs h)
theorem Ow.same{K:aA}{H H':Hp}{d:D}{A:Fp}{v:V}(h:Ow K H d A v)(s:aN H H'):Ow K H' d A v:=
 Ow.frame s.tk d A v h λa q=>by
  obtain⟨⟨o,e⟩,_⟩:=Ow.cells d A v h a q
  rw[e];exact s a o e
theorem gB.same{K:aA}{H H':Hp}{ds:List D}{A:Fp}{vs:List V}(h:gB K H ds A vs)(s:aN H H'):gB K H' ds A vs:=
 gB.frame s.tk ds A vs h λa q=>by
  obtain⟨⟨o,e⟩,_⟩:=gB.cells ds A vs h a q
  rw[e];exact s a o e
def Bf(K:aA)(H H':Hp)(d:D)(v:V):Prop:=∃A,Ow K H' d A v∧∀a,A a→H a=none
def Bm(K:aA)(H H':Hp)(ds:List D)(vs:List V):Prop:=∃A,gB K H' ds A vs∧∀a,A a→H a=none
theorem Bf.rv{K:aA}{H H':Hp}{d:D}{v:V}(h:Bf K H H' d v):Rv K H' d v:=let ⟨A,o,_⟩:=h;Ow.rv d A v o
theorem Bm.rv{K:aA}{H H':Hp}{ds:List D}{vs:List V}(h:Bm K H H' ds vs):cC K H' ds vs:=let ⟨A,o,_⟩:=h;gB.rv ds A vs o
theorem Bf.same{K:aA}{H H' H2:Hp}{d:D}{v:V}(h:Bf K H H' d v)(s:aN H' H2):Bf K H H2 d v:=let ⟨A,o,f⟩:=h;⟨A,o.same s,f⟩
theorem Bf.back{K:aA}{H0 H H':Hp}{d:D}{v:V}(h:Bf K H H' d v)(s:aN H0 H):Bf K H0 H' d v:=let ⟨A,o,f⟩:=h;⟨A,o,λa q=>s.free (f a q)⟩
theorem Bf.eX{K:aA}{H H':Hp}{d:D}{v:V}(i:d.eX=true)(h:Rv K H' d v):Bf K H H' d v:=⟨nil,yS d v i h,λ_ z=>z.elim⟩
theorem Bm.cT{K:aA}{H H':Hp}{ds:List D}{vs:List V}(i:D.cT ds=true)(h:cC K H' ds vs):Bm K H H' ds vs:=⟨nil,uF ds vs i h,λ_ z=>z.elim⟩
open Classical in
noncomputable def Fj(Z H H':Hp):Hp:=λa=>if H a=none then H' a else Z a
theorem uG{Z H H':Hp}{a:Addr}(h:H a=none):Fj Z H H' a=H' a:=by unfold Fj;rw[if_pos h]
theorem yU{Z H H':Hp}{a:Addr}(h:¬H a=none):Fj Z H H' a=Z a:=by unfold Fj;rw[if_neg h]
theorem vK{K:aA}{N:Fp}{Z H H':Hp}(z:Zn K N Z H):aN Z (Fj Z H H'):=λb o e=>by
 rw[yU (by rw[z.sm b o e];intro q;cases q)];exact e
theorem Fo{K:aA}{N:Fp}{Z H H':Hp}(z:Zn K N Z H)(s:aN H H'):Zn K N (Fj Z H H') H' where
  sm:=λb o e=>by
    by_cases c:H b=none
    · rw[uG c]at e;exact e
    · rw[yU c]at e;exact s b o (z.sm b o e)
  tk:=λa xs h=>by
    by_cases c:H a=none
    · rcases h with (h | ⟨o,h⟩) | h
      · exact .inl (.inl (by rw[uG c];exact h))
      · exact .inl (.inr ⟨o,by rw[uG c];exact h⟩)
      · exact .inr h
    · have q:pI K H a xs:=by
        rcases h with (h | ⟨o,h⟩) | h
        · cases e:H a with
          | none=>exact absurd e c
          | some o=>have:=s a o e;rw[h]at this;cases this;exact .inl (.inl e)
        · cases e:H a with
          | none=>exact absurd e c
          | some o=>have:=s a o e;rw[h]at this;cases this;exact .inl (.inr ⟨_,e⟩)
        · exact .inr h
      exact(vK z).tup (z.tk a xs q)
  no:=λa q=>⟨by rw[yU (z.no a q).2];exact(z.no a q).1,λh=>(z.no a q).2 (s.free h)⟩
theorem Bf.zone{K:aA}{N:Fp}{Z H H':Hp}{d:D}{v:V}(h:Bf K H H' d v)(z:Zn K N Z H)(s:aN H H'):Rv K (Fj Z H H') d v:=by
 obtain⟨A,o,f⟩:=h
 exact Ow.rv d A v (Ow.frame (Fo z s).tk d A v o λa q=>uG (f a q))
def Dg(K:aA)(t:TE)(f:FE):Prop:=∀{N:Fp}(σ:St)(H Z:Hp)(e:DE)(d:D)(Q:VK),Zn K N Z H→pD K Z e σ→f e=some d →
 (∀v H' Z',aN H H'→aN Z Z'→Zn K N Z' H'→Rv K Z' d v→Q v H')→t σ H Q
def Dh(K:aA)(t:TE)(f:FE):Prop:=∀(σ:St)(H:Hp)(e:DE)(d:D)(Q:VK),pD K H e σ→f e=some d →
 (∀v H',aN H H'→Bf K H H' d v→Q v H')→t σ H Q
def Ls(K:aA)(t:TT)(f:FT):Prop:=∀(σ:St)(H:Hp)(e:DE)(b:Bool)(Q:Bool→Hp→Prop),pD K H e σ→f e=some b→(∀H',aN H H'→Q b H')→t σ H Q
def gf(K:aA)(t:TA)(f:FA):Prop:=∀{N:Fp}(σ:St)(H Z:Hp)(e:DE)(ds:List D)(Q:List V→Hp→Prop),Zn K N Z H→pD K Z e σ→f e=some ds →
 (∀vs H' Z',aN H H'→aN Z Z'→Zn K N Z' H'→cC K Z' ds vs→Q vs H')→t σ H Q
def gj(K:aA)(t:TA)(f:FA):Prop:=∀(σ:St)(H:Hp)(e:DE)(ds:List D)(Q:List V→Hp→Prop),pD K H e σ→f e=some ds →
 (∀vs H',aN H H'→Bm K H H' ds vs→Q vs H')→t σ H Q
theorem Dh.r{K:aA}{t:TE}{f:FE}(h:Dh K t f):Dg K t f:=λσ H Z e d Q z r q k=>
 h σ H e d Q (r.same z.sm) q λv H' s n=>k v H' (Fj Z H H') s (vK z) (Fo z s) (n.zone z s)
def Ir(f:FE):FE:=λe=>(f e).bind λd=>if d.eX=true then some d else none
theorem Di{f:FE}{e:DE}{d:D}:Ir f e=some d↔f e=some d∧d.eX=true:=by
 unfold Ir
 cases q:f e with
 | none=>simp
 | some a=>
  simp only[C8]
  split
  ·rename_i h;constructor
   ·intro z;cases z;exact⟨rfl,h⟩
   ·rintro⟨z,_⟩;exact z
  ·rename_i h;constructor
   ·intro z;cases z
   ·rintro⟨z,z2⟩;cases z;exact absurd z2 h
theorem Dg.n{K:aA}{t:TE}{f:FE}(h:Dg K t f):Dh K t (Ir f):=λσ H e d Q r q k=>by
 obtain⟨q1,q2⟩:=Di.mp q
 exact h σ H H e d Q (Zn.self K H) r q1 λv H' Z' s1 s2 z' rv=>k v H' s1 (.eX q2 (z'.sm.rv _ _ rv))
def aF(i:Nat):FE:=λe=>(e[i]?).getD none
theorem VG{K:aA}(i:Nat):Dg K (jF i) (aF i):=λσ H Z e d Q z r q k=>by
 have e1:e[i]?=some (some d):=by
  unfold aF at q
  cases h:e[i]? with
  | none=>rw[h]at q;cases q
  | some o=>rw[h]at q;cases q;rfl
 obtain⟨v,h1,h2⟩:=r i d e1
 exact⟨v,h1,k v H Z (aN.refl _) (aN.refl _) z h2⟩
def fC(d:D):FE:=λ_=>some d
theorem Vk{K:aA}(i:Int):Dh K (tC (.int i)) (fC (.int i)):=λσ H e d Q r q k=>by cases q;exact k _ H (aN.refl _) (.eX rfl (by unfold Rv;rfl))
theorem jx{K:aA}(i:Bool):Dh K (tC (.bl i)) (fC (.bl i)):=λσ H e d Q r q k=>by cases q;exact k _ H (aN.refl _) (.eX rfl (by unfold Rv;rfl))
theorem VH{K:aA}:Dh K (tC .non) (fC .non):=λσ H e d Q r q k=>by cases q;exact k _ H (aN.refl _) (.eX rfl (by unfold Rv;rfl))
theorem Vl{K:aA}(i:Str):Dh K (tC (.str i)) (fC (.str i)):=λσ H e d Q r q k=>by cases q;exact k _ H (aN.refl _) (.eX rfl (by unfold Rv;rfl))
def f2(φ:D→D→Option D)(f g:FE):FE:=λe=>(f e).bind λa=>(g e).bind λb=>φ a b
theorem mH{φ:D→D→Option D}{f g:FE}{e:DE}{d:D}(h:f2 φ f g e=some d):∃a b,f e=some a∧g e=some b∧φ a b=some d:=by
 unfold f2 at h
 obtain⟨a,h1,h2⟩:=aU h
 obtain⟨b,h3,h4⟩:=aU h2
 exact⟨a,b,h1,h3,h4⟩
def OpD(K:aA)(r:R2)(φ:D→D→Option D):Prop:=∀{N:Fp}(x y:V)(H Z:Hp)(a b d:D)(Q:VK),Zn K N Z H→Rv K Z a x→Rv K Z b y→φ a b=some d →
 (∀v H' Z',aN H H'→aN Z Z'→Zn K N Z' H'→Rv K Z' d v→Q v H')→r x y H Q
def Dj(K:aA)(r:R2)(φ:D→D→Option D):Prop:=∀(x y:V)(H:Hp)(a b d:D)(Q:VK),Rv K H a x→Rv K H b y→φ a b=some d →
 (∀v H',aN H H'→Bf K H H' d v→Q v H')→r x y H Q
theorem jy{K:aA}{r:R2}{φ:D→D→Option D}{ta tb:TE}{f g:FE}(o:OpD K r φ)(ha:Dg K ta f)(hb:Dg K tb g):Dg K (Ck r ta tb) (f2 φ f g):=λσ H Z e d Q z re q k=>by
 obtain⟨a,b,h1,h2,h3⟩:=mH q
 refine ha σ H Z e a _ z re h1 λx H1 Z1 s1 t1 z1 rx=>hb σ H1 Z1 e b _ z1 (re.same t1) h2 λy H2 Z2 s2 t2 z2 ry=>?_
 exact o x y H2 Z2 a b d Q z2 (t2.rv _ _ rx) ry h3 λv H3 Z3 s3 t3 z3 rv=>k v H3 Z3 (s1.trans (s2.trans s3)) (t1.trans (t2.trans t3)) z3 rv
theorem Ov{K:aA}{r:R2}{φ:D→D→Option D}{ta tb:TE}{f g:FE}(o:Dj K r φ)(ha:Dg K ta f)(hb:Dg K tb g):Dh K (Ck r ta tb) (f2 φ f g):=λσ H e d Q re q k=>by
 obtain⟨a,b,h1,h2,h3⟩:=mH q
 refine ha σ H H e a _ (Zn.self K H) re h1 λx H1 Z1 s1 t1 z1 rx=>hb σ H1 Z1 e b _ z1 (re.same t1) h2 λy H2 Z2 s2 t2 z2 ry=>?_
 exact o x y H2 a b d Q (z2.sm.rv _ _ (t2.rv _ _ rx)) (z2.sm.rv _ _ ry) h3 λv H3 s3 n=>k v H3 (s1.trans (s2.trans s3)) (n.back (s1.trans s2))
def Bo(C:Int→Int→Prop) [∀i j,Decidable (C i j)] (g:Int→Int→D):D→D→Option D
 | .int i,.int j=>if C i j then some (g i j)else none
 | _,_=>none
theorem yV{C:Int→Int→Prop} [∀i j,Decidable (C i j)] {g:Int→Int→D} {a b d:D} (h:Bo C g a b=some d):∃i j,a=.int i∧b=.int j∧C i j∧d=g i j:=by
 unfold Bo at h
 split at h
 ·split at h
  ·rename_i i j c;cases h;exact⟨i,j,rfl,rfl,c,rfl⟩
  ·cases h
 ·cases h
theorem Lw{K:aA}{C:Int→Int→Prop} [∀i j,Decidable (C i j)] {C':Int→Int→Prop} (hC:∀i j,C i j→C' i j) {g:Int→Int→Int}:Dj K (rI C' λi j=>.int (g i j)) (Bo C λi j=>.int (g i j)):=λx y H a b d Q ra rb q k=>by
 obtain⟨i,j,rfl,rfl,c,rfl⟩:=yV q
 unfold Rv at ra rb
 exact⟨i,j,ra,rb,hC i j c,k _ H (aN.refl _) (.eX rfl (by unfold Rv;rfl))⟩
theorem CJ{K:aA}{g:Int→Int→Int}:Dj K (Ud λi j=>.int (g i j)) (Bo (λ_ _=>True) λi j=>.int (g i j)):=λx y H a b d Q ra rb q k=>by
 obtain⟨i,j,rfl,rfl,c,rfl⟩:=yV q
 unfold Rv at ra rb
 exact⟨i,j,ra,rb,k _ H (aN.refl _) (.eX rfl (by unfold Rv;rfl))⟩
theorem iQ{K:aA}{g:Int→Int→Bool}:Dj K (Ud λi j=>.bl (g i j)) (Bo (λ_ _=>True) λi j=>.bl (g i j)):=λx y H a b d Q ra rb q k=>by
 obtain⟨i,j,rfl,rfl,c,rfl⟩:=yV q
 unfold Rv at ra rb
 exact⟨i,j,ra,rb,k _ H (aN.refl _) (.eX rfl (by unfold Rv;rfl))⟩
def aG:FA:=λ_=>some []
def aB(f:FE)(fs:FA):FA:=λe=>(f e).bind λa=>(fs e).bind λr=>some (a::r)
theorem pU{f:FE}{fs:FA}{e:DE}{ds:List D}(h:aB f fs e=some ds):∃a r,f e=some a∧fs e=some r∧ds=a::r:=by
 unfold aB at h
 obtain⟨a,h1,h2⟩:=aU h
 obtain⟨b,h3,h4⟩:=aU h2
 cases h4
 exact⟨a,b,h1,h3,rfl⟩
theorem VJ{K:aA}:gf K iM aG:=λσ H Z e ds Q z re q k=>by cases q;exact k [] H Z (aN.refl _) (aN.refl _) z (by unfold cC;rfl)
theorem CK{K:aA}{te:TE}{t:TA}{f:FE}{fs:FA}(h:Dg K te f)(hs:gf K t fs):gf K (bV te t) (aB f fs):=λσ H Z e ds Q z re q k=>by
 obtain⟨a,r,h1,h2,rfl⟩:=pU q
 refine h σ H Z e a _ z re h1 λx H1 Z1 s1 t1 z1 rx=>hs σ H1 Z1 e r _ z1 (re.same t1) h2 λvs H2 Z2 s2 t2 z2 rs=>?_
 exact k _ H2 Z2 (s1.trans s2) (t1.trans t2) z2 (by unfold cC;exact⟨x,vs,rfl,t2.rv _ _ rx,rs⟩)
theorem VL{K:aA}:gj K iM aG:=λσ H e ds Q re q k=>by cases q;exact k [] H (aN.refl _) (.cT rfl (by unfold cC;rfl))
theorem CN{K:aA}{te:TE}{t:TA}{f:FE}{fs:FA}(h:Dh K te f)(hs:gj K t fs):gj K (bV te t) (aB f fs):=λσ H e ds Q re q k=>by
 obtain⟨a,r,h1,h2,rfl⟩:=pU q
 refine h σ H e a _ re h1 λx H1 s1 n1=>hs σ H1 e r _ (re.same s1) h2 λvs H2 s2 n2=>?_
 refine k _ H2 (s1.trans s2) ?_
 obtain⟨A,oA,fA⟩:=n1
 obtain⟨B,oB,fB⟩:=n2
 refine⟨gZ A B,?_,λp q=>q.elim (fA p) λz=>s1.free (fB p z)⟩
 unfold gB
 refine⟨x,vs,A,B,rfl,λp qa qb=>?_,λ_=>Iff.rfl,oA.same s2,oB⟩
 obtain⟨⟨o,e1⟩,_⟩:=Ow.cells _ _ _ oA p qa
 rw[fB p qb]at e1;cases e1
def cap(n:Nat)(d:D):Option D:=if n≤100000 then some d else none
theorem uH{n:Nat}{d d':D}(h:cap n d=some d'):n≤100000∧d'=d:=by
 unfold cap at h
 split at h
 ·rename_i c;cases h;exact⟨c,rfl⟩
 ·cases h
theorem jB{n:Nat}(h:n≤100000):n≤sizeLine:=by rw[sizeLine_eq];omega
theorem Iu{n:Nat}(h:n≤100000):n<sizeLine:=by rw[sizeLine_eq];omega
def eG(fs:FA):FE:=λe=>(fs e).bind λds=>cap ds.length (.lst ds)
def Iv(fs:FA):FE:=λe=>(fs e).bind λds=>cap ds.length (.tup ds)
theorem uI{K:aA}{H H1:Hp}{ds:List D}{xs:List V}{p:Addr}(s:aN H H1)(n:Bm K H H1 ds xs)(hp:H1 p=none):Bf K H (upd H1 p (.lst xs)) (.lst ds) (.ref p):=by
 obtain⟨A,o,f⟩:=n
 refine⟨gZ (·=p) A,?_,λa q=>q.elim (λz=>by cases z;exact s.free hp) (f a)⟩
 unfold Ow
 refine⟨p,xs,A,rfl,bW,λz=>?_,λ_=>Iff.rfl,o.same (cM hp _)⟩
 obtain⟨⟨u,e⟩,_⟩:=gB.cells _ _ _ o p z
 rw[hp]at e;cases e
theorem Ox{K:aA}{H H1:Hp}{ds:List D}{xs:List V}{p:Addr}(n:Bm K H H1 ds xs)(hp:H1 p=none):Bf K H (upd H1 p (.tup xs)) (.tup ds) (.ref p):=by
 obtain⟨A,o,f⟩:=n
 refine⟨A,?_,f⟩
 unfold Ow
 exact⟨p,xs,rfl,pI.of bW,o.same (cM hp _)⟩
theorem VM{K:aA}{t:TA}{fs:FA}(h:gj K t fs):Dh K (Rn t) (eG fs):=λσ H e d Q re q k=>by
 unfold eG at q
 obtain⟨ds,h1,h2⟩:=aU q
 obtain⟨hc,rfl⟩:=uH h2
 refine h σ H e ds _ re h1 λxs H1 s1 n=>⟨jB (by rw[n.rv.length];exact hc),λp hp=>?_⟩
 exact k _ _ (s1.trans (cM hp _)) (uI s1 n hp)
theorem VN{K:aA}{t:TA}{fs:FA}(h:gj K t fs):Dh K (Uw t) (Iv fs):=λσ H e d Q re q k=>by
 unfold Iv at q
 obtain⟨ds,h1,h2⟩:=aU q
 obtain⟨hc,rfl⟩:=uH h2
 refine h σ H e ds _ re h1 λxs H1 s1 n=>⟨jB (by rw[n.rv.length];exact hc),λp hp=>?_⟩
 exact k _ _ (s1.trans (cM hp _)) (Ox n hp)
theorem Vm{K:aA}{N:Fp}{Z H:Hp}{p:Addr}{o:HO}(z:Zn K N Z H)(hp:H p=none):aN Z (upd Z p o)∧Zn K N (upd Z p o) (upd H p o):=by
 have hz:Z p=none:=z.sm.free hp
 refine⟨cM hz o,⟨λb u e=>?_,λa xs h=>?_,λa q=>?_⟩⟩
 ·by_cases c:b=p
  ·subst c;rw[bW]at e;rw[bW];exact e
  ·rw[bH c]at e;rw[bH c];exact z.sm b u e
 ·by_cases c:a=p
  ·subst c
   rcases h with (h | ⟨u,h⟩) | h
   ·rw[bW]at h;exact .inl (.inl (by rw[bW];exact h))
   ·rw[bW]at h;exact .inl (.inr ⟨u,by rw[bW];exact h⟩)
   ·exact .inr h
  ·have q:pI K H a xs:=by
    rcases h with (h | ⟨u,h⟩) | h
    ·rw[bH c]at h;exact .inl (.inl h)
    ·rw[bH c]at h;exact .inl (.inr ⟨u,h⟩)
    ·exact .inr h
   exact(cM hz o).tup (z.tk a xs q)
 ·have c:a≠p:=λz'=>(z.no a q).2 (by rw[z'];exact hp)
  rw[bH c,bH c];exact z.no a q
theorem VP{K:aA}{t:TA}{fs:FA}(h:gf K t fs):Dg K (Rn t) (eG fs):=λσ H Z e d Q z re q k=>by
 unfold eG at q
 obtain⟨ds,h1,h2⟩:=aU q
 obtain⟨hc,rfl⟩:=uH h2
 refine h σ H Z e ds _ z re h1 λxs H1 Z1 s1 t1 z1 rs=>⟨jB (by rw[rs.length];exact hc),λp hp=>?_⟩
 obtain⟨a1,a2⟩:=Vm (o:=.lst xs) z1 hp
 exact k _ _ _ (s1.trans (cM hp _)) (t1.trans a1) a2 (by unfold Rv;exact⟨p,xs,rfl,mC.of bW,a1.Ou _ _ rs⟩)
end L2


namespace L2
open PySem PySem.Spec PyProof.Rows
structure XR(K:aA)(X:Cx)(e:Expr)(t:TE)(f:FE):Prop where
 hk:X.K=K
 pe:PE X e t
 ev:Dg K t f
structure XN(K:aA)(X:Cx)(e:Expr)(t:TE)(f:FE):Prop where
 hk:X.K=K
 pe:PE X e t
 ev:Dh K t f
structure XT(K:aA)(X:Cx)(e:Expr)(t:TT)(f:FT):Prop where
 hk:X.K=K
 pt:PT X e t
 ev:Ls K t f
structure XW(K:aA)(X:Cx)(e:Expr)(t:TT)(f:FT):Prop where
 hk:X.K=K
 pw:PW X e t
 ev:Ls K t f
structure XA(K:aA)(X:Cx)(es:List Expr)(t:TA)(f:FA):Prop where
 hk:X.K=K
 pa:PA X es t
 ev:gf K t f
structure XB(K:aA)(X:Cx)(es:List Expr)(t:TA)(f:FA):Prop where
 hk:X.K=K
 pa:PA X es t
 ev:gj K t f
section
variable{K:aA}{X:Cx}{e a b c:Expr}{es:List Expr}{t ta tb:TE}{f g:FE}{tA:TA}{fs:FA}{pos:Pos}
theorem XN.r(h:XN K X e t f):XR K X e t f:=⟨h.hk,h.pe,h.ev.r⟩
theorem XR.n(h:XR K X e t f):XN K X e t (Ir f):=⟨h.hk,h.pe,Dg.n h.ev⟩
theorem aJ{i:Nat}(h:PE X e (jF i))(hk:X.K=K:=by rfl):XR K X e (jF i) (aF i):=⟨hk,h,VG i⟩
theorem aH{i:Int}{j:Nat}(hk:X.K=K:=by rfl):XN K X (.Constant (.int i) j pos) (tC (.int i)) (fC (.int i)):=⟨hk,QK,Vk i⟩
theorem jG{i:Bool}{j:Nat}(hk:X.K=K:=by rfl):XN K X (.Constant (.bool i) j pos) (tC (.bl i)) (fC (.bl i)):=⟨hk,iu,jx i⟩
theorem lR{j:Nat}(hk:X.K=K:=by rfl):XN K X (.Constant .none j pos) (tC .non) (fC .non):=⟨hk,QL,VH⟩
theorem fP{x:Str}{j:Nat}(hk:X.K=K:=by rfl):XN K X (.Constant (.str x) j pos) (tC (.str x)) (fC (.str x)):=⟨hk,QM,Vl x⟩
theorem Dk{op:Operator}{r:R2}{φ:D→D→Option D}(ho:lQ X (binaryOp op) r)(hd:Dj K r φ)(ha:XR K X a ta f)(hb:XR K X b tb g):XN K X (.BinOp a op b pos) (Ck r ta tb) (f2 φ f g):=⟨ha.hk,Ur ho ha.pe hb.pe,Ov hd ha.ev hb.ev⟩
def Bp:D→D→Option D:=Bo (λ_ _=>True) λi j=>.int (i-j)
instance (i j:Int):Decidable (Bh i j):=by unfold Bh;exact inferInstance
instance (i j:Int):Decidable (Rj i j):=by unfold Rj;exact inferInstance
instance (i j:Int):Decidable (RN i j):=by unfold RN;exact inferInstance
def yW:D→D→Option D:=Bo Bh λi j=>.int (i*j)
def mD:D→D→Option D:=Bo Rj λi j=>.int (i/j)
def eH:D→D→Option D:=Bo (λ_ j=>0<j) λi j=>.int (i%j)
def aAZ:D→D→Option D:=Bo RN λi j=>.int (i ^ j.toNat)
theorem Lx(ha:XR K X a ta f)(hb:XR K X b tb g):XN K X (.BinOp a .Sub b pos) (Ck (Ud λi j=>.int (i-j)) ta tb) (f2 Bp f g):=Dk RP CJ ha hb
theorem tD(ha:XR K X a ta f)(hb:XR K X b tb g):XN K X (.BinOp a .Mult b pos) (Ck (rI Bh λi j=>.int (i*j)) ta tb) (f2 yW f g):=Dk RQ (Lw λ_ _ h=>h) ha hb
theorem jN(ha:XR K X a ta f)(hb:XR K X b tb g):XN K X (.BinOp a .FloorDiv b pos) (Ck (rI Rj λi j=>.int (i/j)) ta tb) (f2 mD f g):=Dk Zm (Lw λ_ _ h=>h) ha hb
theorem cF(ha:XR K X a ta f)(hb:XR K X b tb g):XN K X (.BinOp a .Mod b pos) (Ck (rI (λ_ j=>0<j) λi j=>.int (i%j)) ta tb) (f2 eH f g):=Dk RT (Lw λ_ _ h=>h) ha hb
theorem tE{op:CmpOp}{r:R2}{φ:D→D→Option D}(ho:lQ X (compareOp op) r)(hd:Dj K r φ)(ha:XR K X a ta f)(hb:XR K X b tb g)(hm:behindInMarks op b=false):XN K X (.Compare a [op] [b] pos) (Ck r ta tb) (f2 φ f g):=⟨ha.hk,Zo ho ha.pe hb.pe hm,Ov hd ha.ev hb.ev⟩
def fB(f:FE):FT:=λe=>(f e).bind λd=>match d with | .bl b=>some b | _=>none
theorem uJ{f:FE}{e:DE}{b:Bool}(h:fB f e=some b):f e=some (.bl b):=by
 unfold fB at h
 obtain⟨d,h1,h2⟩:=aU h
 split at h2
 ·cases h2;exact h1
 ·cases h2
theorem CP(h:Dg K t f):Ls K (Ie t) (fB f):=λσ H e b Q re q k=>h σ H H e _ _ (Zn.self K H) re (uJ q) λv H' Z' s1 s2 z rv=>by
 unfold Rv at rv
 exact⟨b,rv,k H' s1⟩
theorem jz(h:Dg K t f):Ls K (tB t) (fB f):=λσ H e b Q re q k=>h σ H H e _ _ (Zn.self K H) re (uJ q) λv H' Z' s1 s2 z rv=>by
 unfold Rv at rv
 exact⟨b,rv,k H' s1⟩
theorem bY{op:CmpOp}{r:R2}{φ:D→D→Option D}(ho:lQ X (compareOp op) r)(hd:Dj K r φ)(ha:XR K X a ta f)(hb:XR K X b tb g)(hm:behindInMarks op b=false):XT K X (.Compare a [op] [b] pos) (Ie (Ck r ta tb)) (fB (f2 φ f g)):=⟨ha.hk,Zq ho ha.pe hb.pe hm,CP (Ov hd ha.ev hb.ev).r⟩
theorem dU(h:XR K X e t f)(he:∀whole,isTrue e X.env whole=(do let v ←whole;standAt e.pos;holding [v] (truthy v)):=by intro _;rfl):XT K X e (tB t) (fB f):=⟨h.hk,QQ h.pe he,jz h.ev⟩
def Zd:D→D→Option D:=Bo (λ_ _=>True) λi j=>.bl (decide (i<j))
def Oz:D→D→Option D:=Bo (λ_ _=>True) λi j=>.bl (decide (i≤j))
def gn:D→D→Option D:=Bo (λ_ _=>True) λi j=>.bl (decide (j<i))
def dGe:D→D→Option D:=Bo (λ_ _=>True) λi j=>.bl (decide (j≤i))
def toV:D→Option V
  | .non=>some .non | .bl b=>some (.bl b) | .int i=>some (.int i) | .str x=>some (.str x)
  | _=>none
theorem vL{H:Hp}{d:D}{v x:V}(h:toV d=some v)(r:Rv K H d x):x=v:=by
 cases d<;>unfold toV at h<;>first | (cases h;unfold Rv at r;exact r) | cases h
mutual
def fD:D→Option DV
 | .int i=>some (.int i)
 | .non=>some .non
 | .lst ds=>(mJ ds).map DV.lst
 | .tup ds=>(mJ ds).map DV.tup
 | _=>none
def mJ:List D→Option (List DV)
 | []=>some []
 | d::ds=>(fD d).bind λx=>(mJ ds).bind λxs=>some (x::xs)
end
mutual
theorem oR{H:Hp}:∀(d:D)(x:DV)(v:V),fD d=some x→Rv K H d v→Reads K H x v
 | .int i,x,v,h,r=>by unfold fD at h;cases h;unfold Rv at r;unfold Reads;exact r
 | .lst ds,x,v,h,r=>by
  unfold fD at h
  obtain⟨xs,h1,rfl⟩:=iZ h
  unfold Rv at r;unfold Reads
  obtain⟨a,vs,r1,r2,r3⟩:=r
  exact⟨a,vs,r1,r2,yX ds xs vs h1 r3⟩
 | .tup ds,x,v,h,r=>by
  unfold fD at h
  obtain⟨xs,h1,rfl⟩:=iZ h
  unfold Rv at r;unfold Reads
  obtain⟨a,vs,r1,r2,r3⟩:=r
  exact⟨a,vs,r1,r2,yX ds xs vs h1 r3⟩
 | .non,x,v,h,r=>by unfold fD at h;cases h;unfold Rv at r;unfold Reads;exact r
 | .bl _,x,v,h,r=>by unfold fD at h;cases h
 | .str _,x,v,h,r=>by unfold fD at h;cases h
 | .dk _ _,x,v,h,r=>by unfold fD at h;cases h
 | .dt _ _,x,v,h,r=>by unfold fD at h;cases h
 | .ins _ _ _,x,v,h,r=>by unfold fD at h;cases h
theorem yX{H:Hp}:∀(ds:List D)(xs:List DV)(vs:List V),mJ ds=some xs→cC K H ds vs→bT K H xs vs
 | [],xs,vs,h,r=>by unfold mJ at h;cases h;unfold cC at r;unfold bT;exact r
 | d::ds,xs,vs,h,r=>by
  unfold mJ at h
  obtain⟨x,h1,h2⟩:=aU h
  obtain⟨xt,h3,h4⟩:=aU h2
  cases h4
  unfold cC at r;unfold bT
  obtain⟨y,ys,r1,r2,r3⟩:=r
  exact⟨y,ys,r1,oR d x y h1 r2,yX ds xt ys h3 r3⟩
end
mutual
theorem Vn:∀(d e:D)(x:DV),fD d=some x→fD e=some x→d=e
 | .int i,e,x,h,h'=>by
  unfold fD at h;cases h
  cases e<;>unfold fD at h'<;>first | (cases h';rfl) | cases h' | (obtain⟨xs,q1,q2⟩:=iZ h';cases q2)
 | .lst ds,e,x,h,h'=>by
  unfold fD at h
  obtain⟨xs,h1,rfl⟩:=iZ h
  cases e with
  | lst es=>unfold fD at h';obtain⟨ys,q1,q2⟩:=iZ h';cases q2;rw[vM ds es xs h1 q1]
  | tup es=>unfold fD at h';obtain⟨ys,q1,q2⟩:=iZ h';cases q2
  | _=>unfold fD at h';cases h'
 | .tup ds,e,x,h,h'=>by
  unfold fD at h
  obtain⟨xs,h1,rfl⟩:=iZ h
  cases e with
  | tup es=>unfold fD at h';obtain⟨ys,q1,q2⟩:=iZ h';cases q2;rw[vM ds es xs h1 q1]
  | lst es=>unfold fD at h';obtain⟨ys,q1,q2⟩:=iZ h';cases q2
  | _=>unfold fD at h';cases h'
 | .non,e,x,h,h'=>by
  unfold fD at h;cases h
  cases e<;>unfold fD at h'<;>first | (cases h';rfl) | cases h' | (obtain⟨xs,q1,q2⟩:=iZ h';cases q2)
 | .bl _,e,x,h,h'=>by unfold fD at h;cases h
 | .str _,e,x,h,h'=>by unfold fD at h;cases h
 | .dk _ _,e,x,h,h'=>by unfold fD at h;cases h
 | .dt _ _,e,x,h,h'=>by unfold fD at h;cases h
 | .ins _ _ _,e,x,h,h'=>by unfold fD at h;cases h
theorem vM:∀(ds es:List D)(xs:List DV),mJ ds=some xs→mJ es=some xs→ds=es
 | [],[],xs,h,h'=>rfl
 | [],e::es,xs,h,h'=>by
  unfold mJ at h h'
  cases h
  obtain⟨x,h1,h2⟩:=aU h'
  obtain⟨xt,h3,h4⟩:=aU h2
  cases h4
 | d::ds,[],xs,h,h'=>by
  unfold mJ at h h'
  cases h'
  obtain⟨x,h1,h2⟩:=aU h
  obtain⟨xt,h3,h4⟩:=aU h2
  cases h4
 | d::ds,e::es,xs,h,h'=>by
  unfold mJ at h h'
  obtain⟨x,h1,h2⟩:=aU h
  obtain⟨xt,h3,h4⟩:=aU h2
  cases h4
  obtain⟨y,k1,k2⟩:=aU h'
  obtain⟨yt,k3,k4⟩:=aU k2
  cases k4
  rw[Vn d e x h1 k1,vM ds es xt h3 k3]
end
noncomputable def vN(a b:D):Option D:=match toV a,toV b with
 | some x,some y=>if Ib x y=true then some (.bl (decide (x=y)))else none
 | _,_=>match fD a,fD b with
  | some x,some y=>if x.depth≤32 then some (.bl (pP x y))else none
  | _,_=>none
theorem pW:Dj K (λx y H Q=>ym x y H Q∨UL K false x y H Q) vN:=λx y H a b d Q ra rb q k=>by
 unfold vN at q
 split at q
 ·rename_i u v h1 h2
  split at q
  ·rename_i hs
   cases q
   rw[vL h1 ra,vL h2 rb]
   exact .inl ⟨hs,k _ H (aN.refl _) (.eX rfl (by unfold Rv;rfl))⟩
  ·cases q
 ·split at q
  ·rename_i u v h1 h2
   split at q
   ·rename_i hs
    cases q
    exact .inr ⟨u,v,oR a u x h1 ra,oR b v y h2 rb,hs,k _ H (aN.refl _) (.eX rfl (by unfold Rv;rfl))⟩
   ·cases q
  ·cases q
noncomputable def yZ(a b:D):Option D:=match toV a,toV b with
 | some x,some y=>if Ib x y=true then some (.bl (!decide (x=y)))else none
 | _,_=>match fD a,fD b with
  | some (.lst x),some (.lst y)=>if cY x≤32 then some (.bl (!pP (.lst x) (.lst y)))else none
  | some (.tup x),some (.tup y)=>if cY x≤32 then some (.bl (!pP (.tup x) (.tup y)))else none
  | _,_=>none
def kh(K:aA):R2:=λx y H Q=>rNe x y H Q∨(∃ds es,Reads K H (.lst ds) x∧Reads K H (.lst es) y∧cY ds≤32∧Q (.bl (!pP (.lst ds) (.lst es))) H)∨(∃ds es,Reads K H (.tup ds) x∧Reads K H (.tup es) y∧cY ds≤32∧Q (.bl (!pP (.tup ds) (.tup es))) H)
theorem uK:Dj K (kh K) yZ:=λx y H a b d Q ra rb q k=>by
 unfold yZ at q
 split at q
 ·rename_i u v h1 h2
  split at q
  ·rename_i hs
   cases q
   rw[vL h1 ra,vL h2 rb]
   exact .inl ⟨hs,k _ H (aN.refl _) (.eX rfl (by unfold Rv;rfl))⟩
  ·cases q
 ·split at q
  ·rename_i u v h1 h2
   split at q
   ·rename_i hs
    cases q
    exact .inr (.inl ⟨u,v,oR a _ x h1 ra,oR b _ y h2 rb,hs,k _ H (aN.refl _) (.eX rfl (by unfold Rv;rfl))⟩)
   ·cases q
  ·rename_i u v h1 h2
   split at q
   ·rename_i hs
    cases q
    exact .inr (.inr ⟨u,v,oR a _ x h1 ra,oR b _ y h2 rb,hs,k _ H (aN.refl _) (.eX rfl (by unfold Rv;rfl))⟩)
   ·cases q
  ·cases q
theorem or_eq(hu:X.A.units+64<cLine)(hk:X.K=K):lQ X (compareOp .Eq) (λx y H Q=>ym x y H Q∨UL K false x y H Q):=by subst hk;exact jf.or (UT hu)
theorem uL(hu:X.A.units+64<cLine)(hk:X.K=K):lQ X (compareOp .NotEq) (kh K):=by subst hk;exact jg.or ((UW hu).or (VF hu))
def Iw:List D→Option (List V)
 | []=>some []
 | d::ds=>(toV d).bind λx=>(Iw ds).bind λxs=>some (x::xs)
theorem Pa{H:Hp}:∀{ds:List D} {vs xs:List V},Iw ds=some vs→cC K H ds xs→xs=vs
 | [],vs,xs,h,r=>by unfold Iw at h;cases h;unfold cC at r;exact r
 | d::ds,vs,xs,h,r=>by
  unfold Iw at h
  obtain⟨x,h1,h2⟩:=aU h
  obtain⟨xt,h3,h4⟩:=aU h2
  cases h4
  unfold cC at r
  obtain⟨y,ys,rfl,r2,r3⟩:=r
  rw[vL h1 r2,Pa h3 r3]
def pX:D→Option (List D)
 | .lst ds=>some ds
 | .tup ds=>some ds
 | _=>none
theorem Fq{H:Hp}{d:D}{ds:List D}{v:V}(h:pX d=some ds)(r:Rv K H d v):∃p xs,v=.ref p∧(mC K H p xs∨pI K H p xs)∧cC K H ds xs:=by
 cases d with
 | lst es=>unfold pX at h;cases h;unfold Rv at r;obtain⟨p,xs,r1,r2,r3⟩:=r;exact⟨p,xs,r1,.inl r2,r3⟩
 | tup es=>unfold pX at h;cases h;unfold Rv at r;obtain⟨p,xs,r1,r2,r3⟩:=r;exact⟨p,xs,r1,.inr r2,r3⟩
 | _=>unfold pX at h;cases h
def kj(neg:Bool)(a b:D):Option D:=(toV a).bind λx=>(pX b).bind λds=>(Iw ds).bind λxs=>if pN x=true∧xs.all pN=true then some (.bl (if neg then !inV x xs else inV x xs))else none
theorem km(neg:Bool):Dj K (yq K neg) (kj neg):=λx y H a b d Q ra rb q k=>by
 unfold kj at q
 obtain⟨u,h1,q⟩:=aU q
 obtain⟨ds,h2,q⟩:=aU q
 obtain⟨us,h3,q⟩:=aU q
 split at q
 ·rename_i c
  cases q
  obtain⟨p,xs,rfl,r2,r3⟩:=Fq h2 rb
  have:=Pa h3 r3
  subst this
  rw[vL h1 ra]
  exact⟨p,xs,rfl,r2,c.1,c.2,k _ H (aN.refl _) (.eX rfl (by unfold Rv;rfl))⟩
 ·cases q
theorem lg(hk:X.K=K):lQ X (compareOp .In) (yq K false):=by subst hk;exact Rr
end
section
variable{κ:Type} [DecidableEq κ] {K:aA} {H:Hp}
def posK:List κ→κ→Option Nat
 | [],_=>none
 | a::ks,k=>if a=k then some 0 else(posK ks k).map (·+1)
theorem Iz:∀{ks:List κ} {xs:List V} {k:κ},ks.length=xs.length→Rw (ks.zip xs) k=(posK ks k).bind λj=>xs[j]?
 | [],xs,k,h=>by unfold posK;rfl
 | a::ks,[],k,h=>by simp at h
 | a::ks,x::xs,k,h=>by
  have ih:=Iz (ks:=ks) (xs:=xs) (k:=k) (by simpa using h)
  unfold posK
  rw[W0]
  unfold Rw at ih ⊢
  rw[List.find?_cons]
  by_cases c:a=k
  ·rw[if_pos c,decide_eq_true c];rfl
  ·rw[if_neg c,decide_eq_false c]
   show Option.map _ (List.find? _ (ks.zip xs))=_
   rw[ih]
   cases posK ks k<;>rfl
end
section
variable{K:aA}{X:Cx}{e a b c:Expr}{es:List Expr}{t ta tb:TE}{f g:FE}{pos:Pos}
def sH(a i:D):Option D:=match i with
 | .int i=>(pX a).bind λds=>Ik ds i
 | _=>none
theorem MT{H:Hp}{ds:List D}{xs:List V}{i:Int}{d:D}(r:cC K H ds xs)(h:Ik ds i=some d):∃v,Ik xs i=some v∧Rv K H d v:=by
 unfold Ik at h ⊢
 obtain⟨j,h1,h2⟩:=aU h
 rw[r.length,h1]
 exact r.get h2
theorem NB(hk:X.K=K):Za X (vp K):=by subst hk;exact SX
theorem kO(ha:XR K X a ta f)(hb:XR K X b tb g)(hs:xR b):XR K X (.Subscript a b pos) (Ck (vp K) ta tb) (f2 sH f g):=
 ⟨ha.hk,Uy (NB ha.hk) ha.pe hb.pe hs,jy (λx y H Z da db d Q z ra rb q k=>by
  unfold sH at q
  split at q
  ·rename_i i
   obtain⟨ds,h1,h2⟩:=aU q
   unfold Rv at rb
   cases da with
   | lst es=>
    unfold pX at h1;cases h1
    unfold Rv at ra
    obtain⟨p,xs,r1,r2,r3⟩:=ra
    obtain⟨v,e1,e2⟩:=MT r3 h2
    exact .inl ⟨p,xs,i,v,r1,rb,z.sm.seq r2,e1,k v H Z (aN.refl _) (aN.refl _) z e2⟩
   | tup es=>
    unfold pX at h1;cases h1
    unfold Rv at ra
    obtain⟨p,xs,r1,r2,r3⟩:=ra
    obtain⟨v,e1,e2⟩:=MT r3 h2
    exact .inr (.inl ⟨p,xs,i,v,r1,rb,z.sm.tup r2,e1,k v H Z (aN.refl _) (aN.refl _) z e2⟩)
   | _=>unfold pX at h1;cases h1
  ·cases q) ha.ev hb.ev⟩
end
end L2


namespace L2
open PySem PySem.Spec PyProof.Rows
section
variable{K:aA}{X:Cx}{e a b c:Expr}{es rest:List Expr}{t ta tb:TE}{f g:FE}{tA:TA}{fs:FA}{pos:Pos}{tc:TT}{fc fd:FT}{td:TT}
theorem aL(hk:X.K=K:=by rfl):XA K X [] iM aG:=⟨hk,bI,VJ⟩
theorem aD(h:XR K X e t f)(hs:XA K X es tA fs)(hst:starEach (e::es) X.env=(false,eval e X.env)::starEach es X.env:=by rfl):XA K X (e::es) (bV t tA) (aB f fs):=⟨h.hk,aV h.pe hs.pa hst,CK h.ev hs.ev⟩
theorem lU(hk:X.K=K:=by rfl):XB K X [] iM aG:=⟨hk,bI,VL⟩
theorem lH(h:XN K X e t f)(hs:XB K X es tA fs)(hst:starEach (e::es) X.env=(false,eval e X.env)::starEach es X.env:=by rfl):XB K X (e::es) (bV t tA) (aB f fs):=⟨h.hk,aV h.pe hs.pa hst,CN h.ev hs.ev⟩
theorem pY(h:XB K X es tA fs):XN K X (.List es pos) (Rn tA) (eG fs):=⟨h.hk,Lg h.pa,VM h.ev⟩
theorem lV(h:XA K X es tA fs):XR K X (.List es pos) (Rn tA) (eG fs):=⟨h.hk,Lg h.pa,VP h.ev⟩
theorem Ly{x1:Nat}(h:XB K X es tA fs):XN K X (.Tuple es x1 pos) (Uw tA) (Iv fs):=⟨h.hk,Et h.pa,VN h.ev⟩
def Lz(f g:FT):FT:=λe=>(f e).bind λc=>if c=true then g e else some false
def Dl(f g:FT):FT:=λe=>(f e).bind λc=>if c=true then some true else g e
def fQ(f:FT):FT:=λe=>(f e).map λc=>!c
theorem VR(h1:Ls K tc fc)(h2:Ls K td fd):Ls K (QR tc td) (Lz fc fd):=λσ H e b Q re q k=>by
 unfold Lz at q
 obtain⟨c,q1,q2⟩:=aU q
 refine h1 σ H e c _ re q1 λH1 s1=>?_
 cases c with
 | true=>rw[if_pos rfl]at q2 ⊢;exact h2 σ H1 e b Q (re.same s1) q2 λH2 s2=>k H2 (s1.trans s2)
 | false=>rw[if_neg (by decide)]at q2 ⊢;cases q2;exact k H1 s1
theorem lq(h1:Ls K tc fc)(h2:Ls K td fd):Ls K (yd tc td) (Dl fc fd):=λσ H e b Q re q k=>by
 unfold Dl at q
 obtain⟨c,q1,q2⟩:=aU q
 refine h1 σ H e c _ re q1 λH1 s1=>?_
 cases c with
 | false=>rw[if_neg (by decide)]at q2 ⊢;exact h2 σ H1 e b Q (re.same s1) q2 λH2 s2=>k H2 (s1.trans s2)
 | true=>rw[if_pos rfl]at q2 ⊢;cases q2;exact k H1 s1
theorem WD(h1:Ls K tc fc):Ls K (QS tc) (fQ fc):=λσ H e b Q re q k=>by
 unfold fQ at q
 obtain⟨c,q1,rfl⟩:=iZ q
 exact h1 σ H e c _ re q1 k
theorem XW.xt(h:XW K X e tc fc):XT K X e tc fc:=⟨h.hk,h.pw.pt,h.ev⟩
theorem CQ(h:XT K X a tc fc):XW K X (.BoolOp .And [a] pos) tc fc:=⟨h.hk,Zh h.pt,h.ev⟩
theorem pZ(h:XT K X a tc fc):XW K X (.BoolOp .Or [a] pos) tc fc:=⟨h.hk,QT h.pt,h.ev⟩
theorem WK(h:XT K X a tc fc)(h2:XW K X (.BoolOp .And (b::rest) pos) td fd):XW K X (.BoolOp .And (a::b::rest) pos) (QR tc td) (Lz fc fd):=⟨h.hk,QV h.pt h2.pw,VR h.ev h2.ev⟩
theorem uM(h:XT K X a tc fc)(h2:XW K X (.BoolOp .Or (b::rest) pos) td fd):XW K X (.BoolOp .Or (a::b::rest) pos) (yd tc td) (Dl fc fd):=⟨h.hk,iw h.pt h2.pw,lq h.ev h2.ev⟩
theorem dH(h:XT K X a tc fc):XT K X (.UnaryOp .Not a pos) (QS tc) (fQ fc):=⟨h.hk,QW h.pt,WD h.ev⟩
def uN(f g:FE):FE:=λe=>(fB f e).bind λc=>if c=true then g e else some (.bl false)
def Sh(f g:FE):FE:=λe=>(fB f e).bind λc=>if c=true then some (.bl true)else g e
def Ja(f:FE):FE:=λe=>(fB f e).map λc=>.bl (!c)
theorem xU{op:BoolOp}(h:XN K X a t f):XN K X (.BoolOp op [a] pos) t f:=⟨h.hk,QX h.pe,h.ev⟩
theorem Ma(h:XR K X a ta f)(h2:XN K X (.BoolOp .And (b::rest) pos) tb g):XN K X (.BoolOp .And (a::b::rest) pos) (LK ta tb) (uN f g):=⟨h.hk,QZ h.pe h2.pe,λσ H e d Q re q k=>by
 unfold uN at q
 obtain⟨c,q1,q2⟩:=aU q
 refine h.ev σ H H e _ _ (Zn.self K H) re (uJ q1) λv H1 Z1 s1 t1 z1 rv=>?_
 unfold Rv at rv
 refine⟨c,rv,?_⟩
 cases c with
 | true=>rw[if_pos rfl]at q2 ⊢;exact h2.ev σ H1 e d Q (re.same s1) q2 λv H2 s2 n=>k v H2 (s1.trans s2) (n.back s1)
 | false=>rw[if_neg (by decide)]at q2 ⊢;cases q2;exact k _ H1 s1 (.eX rfl (by unfold Rv;rfl))⟩
theorem lr(h:XR K X a ta f)(h2:XN K X (.BoolOp .Or (b::rest) pos) tb g):XN K X (.BoolOp .Or (a::b::rest) pos) (iy ta tb) (Sh f g):=⟨h.hk,iz h.pe h2.pe,λσ H e d Q re q k=>by
 unfold Sh at q
 obtain⟨c,q1,q2⟩:=aU q
 refine h.ev σ H H e _ _ (Zn.self K H) re (uJ q1) λv H1 Z1 s1 t1 z1 rv=>?_
 unfold Rv at rv
 refine⟨c,rv,?_⟩
 cases c with
 | false=>rw[if_neg (by decide)]at q2 ⊢;exact h2.ev σ H1 e d Q (re.same s1) q2 λv H2 s2 n=>k v H2 (s1.trans s2) (n.back s1)
 | true=>rw[if_pos rfl]at q2 ⊢;cases q2;exact k _ H1 s1 (.eX rfl (by unfold Rv;rfl))⟩
theorem WL(h:XR K X a ta f):XN K X (.UnaryOp .Not a pos) (LQ ta) (Ja f):=⟨h.hk,RB h.pe,λσ H e d Q re q k=>by
 unfold Ja at q
 obtain⟨c,q1,rfl⟩:=iZ q
 refine h.ev σ H H e _ _ (Zn.self K H) re (uJ q1) λv H1 Z1 s1 t1 z1 rv=>?_
 unfold Rv at rv
 exact⟨c,rv,k _ H1 s1 (.eX rfl (by unfold Rv;rfl))⟩⟩
def WM(c:FT)(f g:FE):FE:=λe=>(c e).bind λb=>if b=true then f e else g e
theorem lu(hc:XT K X c tc fc)(ha:XN K X a ta f)(hb:XN K X b tb g):XN K X (.IfExp c a b pos) (tIf tc ta tb) (WM fc f g):=⟨ha.hk,Ul hc.pt ha.pe hb.pe,λσ H e d Q re q k=>by
 unfold WM at q
 obtain⟨c,q1,q2⟩:=aU q
 refine hc.ev σ H e c _ re q1 λH1 s1=>?_
 cases c with
 | true=>rw[if_pos rfl]at q2 ⊢;exact ha.ev σ H1 e d Q (re.same s1) q2 λv H2 s2 n=>k v H2 (s1.trans s2) (n.back s1)
 | false=>rw[if_neg (by decide)]at q2 ⊢;exact hb.ev σ H1 e d Q (re.same s1) q2 λv H2 s2 n=>k v H2 (s1.trans s2) (n.back s1)⟩
theorem WN(ha:XR K X a ta f):XN K X (.UnaryOp .USub a pos) (yj (rU λi=>.int (-i)) ta) (λe=>(f e).bind λd=>match d with | .int i=>some (.int (-i)) | _=>none):=⟨ha.hk,jd RV ha.pe,λσ H e d Q re q k=>by
 obtain⟨c,q1,q2⟩:=aU q
 split at q2
 ·rename_i i
  cases q2
  refine ha.ev σ H H e _ _ (Zn.self K H) re q1 λv H1 Z1 s1 t1 z1 rv=>?_
  unfold Rv at rv
  exact⟨i,rv,k _ H1 s1 (.eX rfl (by unfold Rv;rfl))⟩
 ·cases q2⟩
def fL(φ:List D→Option D)(fs:FA):FE:=λe=>(fs e).bind φ
def uO(K:aA)(r:List V→Hp→VK→Prop)(φ:List D→Option D):Prop:=∀(vs:List V)(H:Hp)(ds:List D)(d:D)(Q:VK),cC K H ds vs→φ ds=some d →
 (∀v H',aN H H'→Bf K H H' d v→Q v H')→r vs H Q
theorem NK{r:List V→Hp→VK→Prop}{φ:List D→Option D}(o:uO K r φ)(h:gf K tA fs):Dh K (Zv r tA) (fL φ fs):=λσ H e d Q re q k=>by
 obtain⟨ds,q1,q2⟩:=aU q
 exact h σ H H e ds _ (Zn.self K H) re q1 λvs H1 Z1 s1 t1 z1 rs=>o vs H1 ds d Q (z1.sm.Ou _ _ rs) q2 λv H2 s2 n=>k v H2 (s1.trans s2) (n.back s1)
theorem cN{r:List V→Hp→VK→Prop}{φ:List D→Option D}{x:Str}{id:String}{p:Pos}(o:uO K r φ)(hc:iV X (.builtin id) r)(hg:Gl X x)(hm:X.mg x=none)(hv:bootBuiltins x=some (.builtin id))(ha:XA K X (e::es) tA fs)(hn:x ≠ "__name__" := by decide) (hdb:(x==("__debug__" : Str))=false:=by decide)
  (he:starEach (e::es) X.env=(false,eval e X.env)::starEach es X.env:=by rfl) (hpl:(backTo pos (starEach es X.env)).any (·.1)=false:=by rfl):XN K X (.Call (.Name x p) (e::es) [] pos) (Zv r tA) (fL φ fs):=⟨ha.hk,pM hc hg hm hv ha.pa hn hdb he hpl,NK o ha.ev⟩
theorem Pb{r:List V→Hp→VK→Prop}{φ:List D→Option D}{x:Str}{id:String}{p:Pos}(o:uO K r φ)(hc:iV X (.type id) r)(hg:Gl X x)(hm:X.mg x=none)(hv:bootBuiltins x=some (.type id))(ha:XA K X (e::es) tA fs)(hn:x ≠ "__name__" := by decide) (hdb:(x==("__debug__" : Str))=false:=by decide)
  (he:starEach (e::es) X.env=(false,eval e X.env)::starEach es X.env:=by rfl) (hpl:(backTo pos (starEach es X.env)).any (·.1)=false:=by rfl):XN K X (.Call (.Name x p) (e::es) [] pos) (Zv r tA) (fL φ fs):=⟨ha.hk,Rq hc hg hm hv ha.pa hn hdb he hpl,NK o ha.ev⟩
theorem qC{H:Hp}{d:D}{vs:List V}(h:cC K H [d] vs):∃v,vs=[v]∧Rv K H d v:=by
 unfold cC at h
 obtain⟨y,ys,rfl,h1,h2⟩:=h
 unfold cC at h2
 subst h2
 exact⟨y,rfl,h1⟩
def cO:List D→Option D
 | [d]=>(pX d).map λds=>.int ds.length
 | _=>none
def lz(K:aA):List V→Hp→VK→Prop:=λxs H Q=>∃p ys,xs=[.ref p]∧(mC K H p ys∨pI K H p ys)∧Q (.int ys.length) H
theorem cG:uO K (lz K) cO:=λvs H ds d Q rs q k=>by
 unfold cO at q
 split at q
 ·rename_i d0
  obtain⟨es,q1,rfl⟩:=iZ q
  obtain⟨v,rfl,r⟩:=qC rs
  obtain⟨p,xs,rfl,r2,r3⟩:=Fq q1 r
  refine⟨p,xs,rfl,r2,k _ H (aN.refl _) (.eX rfl ?_)⟩
  rw[r3.length];unfold Rv;rfl
 ·cases q
theorem cH(hk:X.K=K):iV X (.builtin "len") (lz K):=by subst hk;exact Ez
def vO:List D→Option D
 | [d]=>(pX d).bind λds=>if D.cT ds=true then some (.tup ds)else none
 | _=>none
def Vo(K:aA):List V→Hp→VK→Prop:=λxs H Q=>∃p ys,xs=[.ref p]∧((mC K H p ys∧∀l,H l=none→Q (.ref l) (upd H l (.tup ys)))∨(pI K H p ys∧Q (.ref p) H))
theorem Jb:uO K (Vo K) vO:=λvs H ds d Q rs q k=>by
 unfold vO at q
 split at q
 ·rename_i d0
  obtain⟨es,q1,q2⟩:=aU q
  split at q2
  ·rename_i hi
   cases q2
   obtain⟨v,rfl,r⟩:=qC rs
   obtain⟨p,xs,rfl,r2,r3⟩:=Fq q1 r
   refine⟨p,xs,rfl,?_⟩
   rcases r2 with r2 | r2
   ·exact .inl ⟨r2,λl hl=>k _ _ (cM hl _) (Ox (.cT hi r3) hl)⟩
   ·exact .inr ⟨r2,k _ H (aN.refl _) (.eX (by unfold D.eX;exact hi) (by unfold Rv;exact⟨p,xs,rfl,r2,r3⟩))⟩
  ·cases q2
 ·cases q
theorem Jc(hk:X.K=K):iV X (.type "tuple") (Vo K):=by subst hk;exact Bk
def intsOf:List D→Option (List Int)
 | []=>some []
 | .int i::ds=>(intsOf ds).map (i::·)
 | _=>none
theorem tG:∀ns:List Int,intsOf (ns.map D.int)=some ns
 | []=>rfl
 | n::ns=>by rw[D7];unfold intsOf;rw[tG ns];rfl
theorem qD:∀{ds:List D} {ns:List Int},intsOf ds=some ns→ds=ns.map D.int
 | [],ns,h=>by unfold intsOf at h;cases h;rfl
 | d::ds,ns,h=>by
  cases d with
  | int i=>
   unfold intsOf at h
   obtain⟨ms,h1,rfl⟩:=iZ h
   rw[D7,←qD h1]
  | _=>unfold intsOf at h;cases h
theorem kW{H:Hp}:∀{ns:List Int} {xs:List V},cC K H (ns.map D.int) xs↔xs=ns.map V.int
 | [],xs=>by rw[J7,J7];unfold cC;rfl
 | n::ns,xs=>by
  rw[D7,D7]
  unfold cC
  constructor
  ·rintro⟨y,ys,rfl,h1,h2⟩
   unfold Rv at h1
   rw[h1,kW.mp h2]
  ·rintro rfl
   exact⟨_,_,rfl,by unfold Rv;rfl,kW.mpr rfl⟩
theorem gF:∀ns:List Int,D.cT (ns.map D.int)=true
 | []=>by rw[J7];unfold D.cT;rfl
 | n::ns=>by rw[D7];unfold D.cT D.eX;rw[gF ns];rfl
def sI:List D→Option (List Bool)
 | []=>some []
 | .bl i::ds=>(sI ds).map (i::·)
 | _=>none
theorem Jd{H:Hp}:∀{ds:List D} {bs:List Bool} {xs:List V},sI ds=some bs→cC K H ds xs→xs=bs.map V.bl
 | [],bs,xs,h,r=>by unfold sI at h;cases h;unfold cC at r;exact r
 | d::ds,bs,xs,h,r=>by
  cases d with
  | bl i=>
   unfold sI at h
   obtain⟨cs,h1,rfl⟩:=iZ h
   unfold cC at r
   obtain⟨y,ys,rfl,r1,r2⟩:=r
   unfold Rv at r1
   rw[r1,Jd h1 r2]
   rfl
  | _=>unfold sI at h;cases h
theorem Dm{α:Type}(p:α→Bool):∀l:List α,sI (l.map λx=>D.bl (p x))=some (l.map p)
 | []=>rfl
 | a::l=>by rw[D7];unfold sI;rw[Dm p l];rfl
def Mf:List D→Option D
 | [.lst ds]=>(sI ds).map λbs=>.bl (bs.all id)
 | _=>none
def mj(K:aA):List V→Hp→VK→Prop:=λxs H Q=>∃(p:Addr)(bs:List Bool),xs=[.ref p]∧mC K H p (bs.map V.bl)∧Q (.bl (bs.all id)) H
theorem CT{H:Hp}{ds:List D}{bs:List Bool}{v:V}(h:sI ds=some bs)(r:Rv K H (.lst ds) v):∃p,v=.ref p∧mC K H p (bs.map V.bl):=by
 unfold Rv at r
 obtain⟨p,xs,r1,r2,r3⟩:=r
 rw[Jd h r3]at r2
 exact⟨p,r1,r2⟩
theorem Mg:uO K (mj K) Mf:=λvs H ds d Q rs q k=>by
 unfold Mf at q
 split at q
 ·obtain⟨bs,q1,rfl⟩:=iZ q
  obtain⟨v,rfl,r⟩:=qC rs
  obtain⟨p,rfl,r2⟩:=CT q1 r
  exact⟨p,bs,rfl,r2,k _ H (aN.refl _) (.eX rfl (by unfold Rv;rfl))⟩
 ·cases q
theorem Mh(hk:X.K=K)(hc:X.calm=true:=by rfl):iV X (.builtin "all") (mj K):=by subst hk;exact Vf hc
end
end L2


namespace L2
open PySem PySem.Spec PyProof.Rows
section
variable{K:aA}{X:Cx}{e a b c:Expr}{es rest:List Expr}{t ta tb:TE}{f g:FE}{tA:TA}{fs:FA}{pos:Pos}{tc:TT}{fc fd:FT}{td:TT}
abbrev FO:=DE→Option (Option Int)
def EvO(K:aA)(t:TO)(f:FO):Prop:=∀(σ:St)(H:Hp)(e:DE)(o:Option Int)(Q:Option Int→Hp→Prop),pD K H e σ→f e=some o→(∀H',aN H H'→Q o H')→t σ H Q
structure XO(K:aA)(X:Cx)(e:Option Expr)(t:TO)(f:FO):Prop where
 po:PO X e t
 ev:EvO K t f
def fU:FO:=λ_=>some none
def dI(f:FE):FO:=λe=>(f e).bind λd=>match d with | .int i=>some (some i) | _=>none
theorem iH:XO K X none Oi fU:=⟨Zw,λσ H e o Q re q k=>by cases q;exact k H (aN.refl _)⟩
theorem iI(h:XR K X e t f):XO K X (some e) (MJ t) (dI f):=⟨Zx h.pe,λσ H e o Q re q k=>by
 unfold dI at q
 obtain⟨d,q1,q2⟩:=aU q
 split at q2
 ·rename_i i
  cases q2
  refine h.ev σ H H e _ _ (Zn.self K H) re q1 λv H1 Z1 s1 t1 z1 rv=>?_
  unfold Rv at rv
  exact⟨i,rv,k H1 s1⟩
 ·cases q2⟩
def iY{α:Type}(xs:List α)(lo hi:Option Int):List α:=(xs.drop (HT.pJ xs.length 0 lo)).take (HT.pJ xs.length xs.length hi-HT.pJ xs.length 0 lo)
theorem cC.drop{H:Hp}:∀{ds:List D} {xs:List V} (n:Nat),cC K H ds xs→cC K H (ds.drop n) (xs.drop n)
 | ds,xs,0,h=>h
 | [],xs,n+1,h=>by unfold cC at h;subst h;simp;unfold cC;rfl
 | d::ds,xs,n+1,h=>by unfold cC at h;obtain⟨y,ys,rfl,_,h2⟩:=h;simpa using cC.drop n h2
theorem cC.take{H:Hp}:∀{ds:List D} {xs:List V} (n:Nat),cC K H ds xs→cC K H (ds.take n) (xs.take n)
 | ds,xs,0,h=>by simp;unfold cC;rfl
 | [],xs,n+1,h=>by unfold cC at h;subst h;simp;unfold cC;rfl
 | d::ds,xs,n+1,h=>by unfold cC at h;obtain⟨y,ys,rfl,h1,h2⟩:=h;rw[V4,V4];unfold cC;exact⟨y,_,rfl,h1,cC.take n h2⟩
theorem CV{H:Hp}{ds:List D}{xs:List V}(lo hi:Option Int)(h:cC K H ds xs):cC K H (iY ds lo hi) (Lh xs lo hi):=by
 unfold iY Lh
 rw[h.length]
 exact(h.drop _).take _
def Ug(eX:Bool)(f:FE)(l h:FO):FE:=λe=>(f e).bind λd=>(l e).bind λlo=>(h e).bind λhi=>match d with
 | .lst ds=>if eX=false∨D.cT (iY ds lo hi)=true then some (.lst (iY ds lo hi))else none
 | _=>none
theorem Vp{eX:Bool}{f:FE}{l h:FO}{e:DE}{d:D}(q:Ug eX f l h e=some d):∃ds lo hi,f e=some (.lst ds)∧l e=some lo∧h e=some hi∧(eX=false∨D.cT (iY ds lo hi)=true)∧d=.lst (iY ds lo hi):=by
 unfold Ug at q
 obtain⟨d0,q1,q⟩:=aU q
 obtain⟨lo,q2,q⟩:=aU q
 obtain⟨hi,q3,q⟩:=aU q
 split at q
 ·split at q
  ·rename_i c;cases q;exact⟨_,lo,hi,q1,q2,q3,c,rfl⟩
  ·cases q
 ·cases q
theorem CW(hk:X.K=K):vo X (TJ K):=by subst hk;exact BJ
variable{lo hi:Option Expr}{tl th:TO}{fl fh:FO}{p2:Pos}
theorem zA(h:XR K X e t f)(hl:XO K X lo tl fl)(hu:XO K X hi th fh):XR K X (.Subscript e (.Slice lo hi none p2) pos) (yp (TJ K) t tl th) (Ug false f fl fh):=⟨h.hk,Ii (CW h.hk) h.pe hl.po hu.po,λσ H Z e d Q z re q k=>by
 obtain⟨ds,lo,hi,q1,q2,q3,_,rfl⟩:=Vp q
 refine h.ev σ H Z e _ _ z re q1 λv H1 Z1 s1 t1 z1 rv=>hl.ev σ H1 e lo _ (re.same (z.sm.trans s1)) q2 λH2 s2=>hu.ev σ H2 e hi _ (re.same (z.sm.trans (s1.trans s2))) q3 λH3 s3=>?_
 have z3:=Fo z1 (s2.trans s3)
 have t3:aN Z1 (Fj Z1 H1 H3):=vK z1
 unfold Rv at rv
 obtain⟨p,xs,rfl,r2,r3⟩:=rv
 refine⟨p,xs,rfl,z3.sm.seq (t3.seq r2),λl hl=>?_⟩
 obtain⟨a1,a2⟩:=Vm (o:=.lst (Lh xs lo hi)) z3 hl
 exact k _ _ _ (s1.trans (s2.trans (s3.trans (cM hl _)))) (t1.trans (t3.trans a1)) a2 (by unfold Rv;exact⟨l,_,rfl,mC.of bW,a1.Ou _ _ (t3.Ou _ _ (CV lo hi r3))⟩)⟩
def Vq(K:aA):R2:=λx y H Q=>∃l b xs zs,x=.ref l∧y=.ref b∧mC K H l xs∧mC K H b zs∧xs.length+zs.length≤sizeLine∧∀p,H p=none→Q (.ref p) (upd H p (.lst (xs++zs)))
theorem Ft(hk:X.K=K):lQ X (binaryOp .Add) (Vq K):=by
 subst hk
 intro pins s σ H x y v u Q I rx ry h
 obtain⟨l,b,xs,zs,rfl,rfl,h1,h2,hz,q⟩:=h
 cases rx
 cases ry
 obtain⟨its,r,pl,_⟩:=I.list h1
 obtain⟨its2,r2,Df,_⟩:=I.list h2
 obtain⟨⟨cl,dd,da,sl⟩,ho,hc,n,hd⟩:=pl.isList
 obtain⟨⟨cl2,dd2,da2,sl2⟩,ho2,hc2,n2,hd2⟩:=Df.isList
 dsimp only at hc hd hc2 hd2
 subst hc hd hc2 hd2
 have hlen:its.toArray.size+its2.toArray.size≤sizeLine:=by rw[B7,B7,←r.length,←r2.length];exact hz
 have ea:its.toArray++its2.toArray=(its++its2).toArray:=by simp
 refine concat_meets ⟨_,ho,rfl⟩ ⟨_,ho2,rfl⟩ noFill_list_add seq_list_add PySem.F.slot_list_add PySem.F.entry_list_add (PySem.F.args_list_add_2 _ _)
  (list_addW l b its.toArray its2.toArray n n2 dd dd2 sl sl2 hlen) ⟨ho,ho2,?_⟩
 rw[ea]
 exact⟨.ref _,_,I.Ru (t':=s.toks) (r.append r2) (by rw[C6];exact hz),rfl,q _ I.fresh⟩
def cX(a b:D):Option D:=match a,b with
 | .int i,.int j=>some (.int (i+j))
 | .lst x,.lst y=>if D.cT (x++y)=true∧x.length+y.length≤100000 then some (.lst (x++y))else none
 | _,_=>none
theorem cC.append{H:Hp}:∀{ds es:List D} {xs ys:List V},cC K H ds xs→cC K H es ys→cC K H (ds++es) (xs++ys)
 | [],es,xs,ys,h,h'=>by unfold cC at h;subst h;exact h'
 | d::ds,es,xs,ys,h,h'=>by unfold cC at h;obtain⟨y,yt,rfl,h1,h2⟩:=h;rw[M5,M5];unfold cC;exact⟨y,_,rfl,h1,cC.append h2 h'⟩
theorem Fv:Dj K (λx y H Q=>Ud (λi j=>.int (i+j)) x y H Q∨Vq K x y H Q) cX:=λx y H a b d Q ra rb q k=>by
 unfold cX at q
 split at q
 ·cases q;unfold Rv at ra rb;exact .inl ⟨_,_,ra,rb,k _ H (aN.refl _) (.eX rfl (by unfold Rv;rfl))⟩
 ·split at q
  ·rename_i c
   cases q
   unfold Rv at ra rb
   obtain⟨p,xs,rfl,r2,r3⟩:=ra
   obtain⟨p',xs',rfl,r2',r3'⟩:=rb
   refine .inr ⟨p,p',xs,xs',rfl,rfl,r2,r2',jB (by rw[r3.length,r3'.length];exact c.2),λl hl=>?_⟩
   exact k _ _ (cM hl _) (uI (aN.refl _) (.cT c.1 (r3.append r3')) hl)
  ·cases q
 ·cases q
theorem fX(ha:XR K X a ta f)(hb:XR K X b tb g):XN K X (.BinOp a .Add b pos) (Ck (λx y H Q=>Ud (λi j=>.int (i+j)) x y H Q∨Vq K x y H Q) ta tb) (f2 cX f g):=Dk (Le.or (Ft ha.hk)) Fv ha hb
def vy(K:aA)(wi:TI)(fi:FA):Prop:=∀{N:Fp}(σ:St)(H Z:Hp)(e:DE)(ds:List D)(R:It→Hp→Prop),Zn K N Z H→pD K Z e σ→fi e=some ds →
 (∀J H' Z' P vs,aN H H'→aN Z Z'→Zn K N Z' H'→UJ J P vs→(∀H2,aN Z' H2→P H2)→cC K Z' ds vs→R J H')→wi σ H R
structure XI(K:aA)(X:Cx)(tg iter:Expr)(wi:TI)(fi:FA):Prop where
 hk:X.K=K
 pi:PI X tg iter wi
 ev:vy K wi fi
def eQ(f:FE):FA:=λe=>(f e).bind pX
def WQ(K:aA)(t:TE):TI:=λσ H R=>LR K t σ H R∨jc K t σ H R
theorem eU{tg:Expr}(h:XR K X e t f):XI K X tg e (WQ K t) (eQ f):=⟨h.hk,by
 have hk:=h.hk
 subst hk
 exact λpins s σ H R I q=>q.elim (Zk h.pe pins s σ H R I) (RK h.pe pins s σ H R I),λσ H Z e ds R z re q k=>by
 unfold eQ at q
 obtain⟨d,q1,q2⟩:=aU q
 cases d with
 | lst es=>
  unfold pX at q2;cases q2
  refine .inl (h.ev σ H Z e _ _ z re q1 λv H1 Z1 s1 t1 z1 rv=>?_)
  unfold Rv at rv
  obtain⟨p,xs,rfl,r2,r3⟩:=rv
  exact⟨p,rfl,⟨xs,z1.sm.seq r2⟩,k _ H1 Z1 _ xs s1 t1 z1 Io (λH2 s=>s.seq r2) r3⟩
 | tup es=>
  unfold pX at q2;cases q2
  refine .inr (h.ev σ H Z e _ _ z re q1 λv H1 Z1 s1 t1 z1 rv=>?_)
  unfold Rv at rv
  obtain⟨p,xs,rfl,r2,r3⟩:=rv
  exact⟨p,rfl,⟨xs,z1.sm.tup r2⟩,k _ H1 Z1 _ xs s1 t1 z1 BX (λH2 s=>s.tup r2) r3⟩
 | _=>unfold pX at q2;cases q2⟩
def iB(lo:Int)(n:Nat):List D:=(K4 n).map λi:Nat=>D.int (lo+(i:Int))
theorem Dn{H:Hp}(lo:Int)(n:Nat):cC K H (iB lo n) ((K4 n).map λi:Nat=>V.int (lo+(i:Int))):=by
 unfold iB
 refine cC.of (by simp) λi d x h1 h2=>?_
 rw[D5]at h1 h2
 cases q:(K4 n)[i]? with
 | none=>rw[q]at h1;cases h1
 | some j=>rw[q]at h1 h2;cases h1;cases h2;unfold Rv;rfl
def lim(i:Int):Bool:=decide (-100000≤i∧i≤100000)
def nQ(fs:FA):FA:=λe=>(fs e).bind λds=>match ds with
 | [.int n]=>if lim n=true then some (iB 0 n.toNat)else none
 | _=>none
theorem Vr{i:Int}(h:lim i=true):-100000≤i∧i≤100000:=of_decide_eq_true h
theorem Sq{tg:Expr}{p:Pos}(hg:Gl X "range") (hm:X.mg "range" = none) (ha:XA K X [a] tA fs) (hs:starEach [a] X.env=[(false,eval a X.env)]:=by rfl):XI K X tg (.Call (.Name "range" p) [a] [] pos) (Uq tA) (nQ fs):=⟨ha.hk,Cj hg hm ha.pa hs,λσ H Z e ds R z re q k=>by
 unfold nQ at q
 obtain⟨es,q1,q2⟩:=aU q
 split at q2
 ·rename_i n
  split at q2
  ·rename_i hl
   cases q2
   have hl:=Vr hl
   refine ha.ev σ H Z e _ _ z re q1 λvs H1 Z1 s1 t1 z1 rs=>?_
   obtain⟨v,rfl,r⟩:=qC rs
   unfold Rv at r
   subst r
   exact⟨n,rfl,by omega,by omega,k _ H1 Z1 _ _ s1 t1 z1 Dc (λ_ _=>True.intro) (Dn 0 n.toNat)⟩
  ·cases q2
 ·cases q2⟩
def iD(e:DE)(fr:List Nat):DE:=fr.map λi=>(e[i]?).getD none
theorem Pg{H:Hp}{e:DE}{σ:St}{fr:List Nat}{d:D}{x:V}(re:pD K H e σ)(r:Rv K H d x):pD K H (some d::iD e fr) (some x::Fe σ fr):=λi d' h=>by
 cases i with
 | zero=>simp at h;subst h;exact⟨x,rfl,r⟩
 | succ i=>
  rw[List.getElem?_cons_succ]at h ⊢
  unfold iD at h
  unfold Fe
  rw[D5]at h ⊢
  cases q:fr[i]? with
  | none=>rw[q]at h;cases h
  | some j=>
   rw[q]at h
   have h:(e[j]?).getD none=some d':=G1 h
   have h2:e[j]?=some (some d'):=by
    cases q2:e[j]? with
    | none=>rw[q2]at h;cases h
    | some o=>rw[q2]at h;rw[show o=some d' from h]
   obtain⟨v,h3,h4⟩:=re j d' h2
   refine⟨v,?_,h4⟩
   show some (σ.getD j none)=_
   rw[F1,h3]
   rfl
def mK(c:D→Option Bool)(el:D→Option D):List D→Option (List D)
 | []=>some []
 | x::xs=>(c x).bind λb=>if b=true then(el x).bind λy=>(mK c el xs).map (y::·)else mK c el xs
def cV(fi:FA)(fr:List Nat)(fc:FT)(fe:FE):FE:=λe=>(fi e).bind λxs=>if xs.length≤100000 then(mK (λx=>fc (some x::iD e fr)) (λx=>fe (some x::iD e fr)) xs).map D.lst else none
theorem Mi{H:Hp}{p:Addr}{o:HO}(n:uE H p):vJ K H (upd H p o):=λa xs h=>h.upd n
theorem Ph{wi:TI}{fi:FA}{fr:List Nat}{te:TE}{fe:FE}(hi:vy K wi fi)(hc:Ls K tc fc)(he:Dh K te fe):Dh K (Il wi 1 fr (cB 0) tc te) (cV fi fr fc fe):=by
 intro σ H e d Q re q k
 unfold cV at q
 obtain⟨xs,q1,q⟩:=aU q
 split at q
 ·rename_i hlen
  obtain⟨ds,q2,rfl⟩:=iZ q
  refine hi σ H H e xs _ (Zn.self K H) re q1 λJ H1 Z1 P vs s1 t1 z1 hJ hP rvs=>?_
  intro D0 hD
  have hl:=rvs.length
  have hHD:H D0=none:=s1.free hD
  generalize hcc:(λx=>fc (some x::iD e fr))=cc at q2
  generalize hel:(λx=>fe (some x::iD e fr))=el at q2
  refine⟨λi m ys H2=>∃gq vz A,m=vs.length-i∧i≤vs.length∧ds=gq++vz∧mK cc el (xs.drop i)=some vz∧aN H1 H2∧H2 D0=some (.lst ys)∧gB K H2 gq A ys∧(∀a,A a→H1 a=none∧a≠D0)∧ys.length≤i,
   ⟨vs.length,[],ds,nil,by simp,O1 _,rfl,by simpa using q2,cM hD _,bW,by unfold gB;exact⟨λ_ z=>z,rfl⟩,λ_ z=>z.elim,D2 _⟩,?_⟩
  rintro i m ys H2 ⟨gq,vz,A,rfl,hi',hds,hcl,s2,hD2,ow,fr2,hyl⟩
  obtain⟨j1,j2,j3⟩:=hJ i H2 (hP H2 (z1.sm.trans s2))
  refine⟨hD2,?_⟩
  by_cases hlt:i<vs.length
  ·refine .inr ⟨j1 hlt,λx H' y=>?_⟩
   obtain⟨e1,ex⟩:=j2 x H' y
   subst e1
   have hx:=ex hlt
   have hxi:i<xs.length:=by omega
   have hxs:xs.drop i=xs[i]::xs.drop (i+1):=L7 hxi
   obtain⟨x',hx',rx⟩:=rvs.get (B6 hxi)
   rw[hx]at hx'
   cases hx'
   rw[hxs]at hcl
   unfold mK at hcl
   obtain⟨bb,c1,c2⟩:=aU hcl
   show Kp 1 σ fr (some x::Fe σ fr)∧_
   refine⟨⟨by simp[blk],λj v hv=>?_⟩,?_⟩
   ·cases j with
    | zero=>simp[blk]at hv
    | succ j=>simpa[blk]using hv
   have mq:pD K H' (some xs[i]::iD e fr) (some x::Fe σ fr):=Pg (re.same (s1.trans s2)) ((z1.sm.trans s2).rv _ _ rx)
   refine hc _ H' _ bb _ mq (by rw[←hcc]at c1;exact c1) λH3 s3=>?_
   have zg:=s3 _ _ hD2
   cases bb with
   | false=>
    rw[if_neg (by decide)]at c2 ⊢
    exact⟨vs.length-(i+1),by omega,gq,vz,A,rfl,by omega,hds,c2,s2.trans s3,zg,ow.same s3,fr2,by omega⟩
   | true=>
    rw[if_pos rfl]at c2 ⊢
    obtain⟨dy,c3,c4⟩:=aU c2
    obtain⟨ds3,c5,rfl⟩:=iZ c4
    refine he _ H3 _ dy _ (mq.same s3) (by rw[←hel]at c3;exact c3) λyv H4 s4 n4=>?_
    have wg:=s4 _ _ zg
    refine⟨wg,Iu (by omega),vs.length-(i+1),by omega,gq++[dy],ds3,?_⟩
    obtain⟨B,oB,fB⟩:=n4
    have hB:∀a,B a→H1 a=none∧a≠D0:=λa qa=>⟨(s2.trans s3).free (fB a qa),λz=>by have q0:=fB a qa;rw[z,zg]at q0;cases q0⟩
    refine⟨gZ A B,rfl,by omega,by rw[hds];simp,c5,λb o eb=>?_,bW,?_,λa qa=>qa.elim (fr2 a) (hB a),by rw[C6];simp;exact hyl⟩
    ·rw[bH (gC eb hD)]
     exact(s2.trans (s3.trans s4)) b o eb
    ·have o4:=(ow.same s3).same s4
     have ap:Apart A B:=λa qa qb=>by
      obtain⟨⟨u,eu⟩,_⟩:=gB.cells _ _ _ (ow.same s3) a qa
      rw[fB a qb]at eu;cases eu
     have all:gB K H4 (gq++[dy]) (gZ A B) (ys++[yv]):=fW.mpr ((fW.mp o4).snoc oB ap)
     exact gB.frame (Mi (rC wg)) _ _ _ all λa qa=>bH (qa.elim (λz=>(fr2 a z).2) λz=>(hB a z).2)
  ·have ei:i=vs.length:=by omega
   subst ei
   have:xs.drop vs.length=[]:=U4 (by omega)
   rw[this]at hcl
   unfold mK at hcl
   cases hcl
   rw[U1]at hds
   subst hds
   refine .inl ⟨j3 (D2 _),k _ H2 (s1.trans s2) ⟨gZ (·=D0) A,?_,λa qa=>qa.elim (λz=>by cases z;exact hHD) λz=>s1.free (fr2 a z).1⟩⟩
   unfold Ow
   exact⟨D0,ys,A,rfl,hD2,λz=>(fr2 D0 z).2 rfl,λ_=>Iff.rfl,ow⟩
 ·cases q
def dW:FT:=λ_=>some true
structure zj(K:aA)(X:Cx)(ifs:List Expr)(t:TT)(f:FT):Prop where
 pts:fu X ifs t
 ev:Ls K t f
theorem iJ:zj K X [] ju dW:=⟨BP,λσ H e b Q re q k=>by cases q;exact k H (aN.refl _)⟩
theorem xV{tg elt iter:Expr}{ifs:List Expr}{scope:Scope}{wi:TI}{fi:FA}{te:TE}{fe:FE}(N:List Str)(fr:List Nat)(hcalm:X.calm=true)(B:dC X.env.scope scope X.N N 1 fr)(hi:XI K X tg iter wi fi)
  (hg:∀cl fp s H C,PG (bR X scope N cl fp s H C) tg (cB 0)) (hc:∀cl fp s H C,zj K (bR X scope N cl fp s H C) ifs tc fc) (he:∀cl fp s H C,XN K (bR X scope N cl fp s H C) elt te fe)
  (hs:∀x,foldedSetIterable iter X.env x=pure x:=by intro _;rfl):XN K X (.ListComp elt [⟨tg,iter,ifs,0⟩] scope pos) (Il wi 1 fr (cB 0) tc te) (cV fi fr fc fe):=
 ⟨hi.hk,BV N 1 fr hcalm B hi.pi hg (λcl fp s H C=>(hc cl fp s H C).pts) (λcl fp s H C=>(he cl fp s H C).pe) hs,
  Ph hi.ev (hc [] [] X.s₀ X.H₀ 0).ev (he [] [] X.s₀ X.H₀ 0).ev⟩
def nC(K:aA)(n:Nat)(F:List D→Option D):Sp:=λvs H Q _=>∃ds d,ds.length=n∧cC K H ds vs∧F ds=some d∧∀v H',aN H H'→Bf K H H' d v→Q v H'
def bA(n:Nat)(F:List D→Option D)(fs:FA):FE:=λe=>(fs e).bind λds=>if ds.length=n then F ds else none
theorem bJ{x:Str}{k n:Nat}{F:List D→Option D}{p:Pos}(C:mG X.prog X.w X.K X.mg X.base x k n (nC K n F))(hr:kI k X.A)(hg:Gl X x)(ha:XA K X (e::es) tA fs)(hdb:(x==("__debug__" : Str))=false:=by decide)
  (he:starEach (e::es) X.env=(false,eval e X.env)::starEach es X.env:=by rfl) (hpl:(backTo pos (starEach es X.env)).any (·.1)=false:=by rfl):XN K X (.Call (.Name x p) (e::es) [] pos) (Cq (nC K n F) [] E0 tA) (bA n F fs):=
 ⟨ha.hk,VD C hr hg ha.pa hdb he hpl,λσ H e d Q re q k=>by
  unfold bA at q
  obtain⟨ds,q1,q2⟩:=aU q
  split at q2
  ·rename_i hl
   refine call_of (ha.ev σ H H e ds _ (Zn.self K H) re q1 λvs H1 Z1 s1 t1 z1 rs=>?_)
   exact⟨ds,d,hl,z1.sm.Ou _ _ rs,q2,λv H2 s2 n=>k v H2 (s1.trans s2) (n.back s1)⟩
  ·cases q2⟩
end
end L2


namespace L2
open PySem PySem.Spec PyProof.Rows
inductive SD where
  | no | fro (d:D) | own (d:D) | inn (v:V) (d:D)
def SD.z:SD→Option D
 | .fro d=>some d
 | .own d=>if d.eX=true then some d else none
 | .inn _ d=>if d.eX=true then some d else none
 | .no=>none
def SD.r:SD→Option D
 | .fro d=>some d
 | .own d=>some d
 | .inn _ d=>some d
 | .no=>none
abbrev EN:=List SD
def zE(env:EN):DE:=env.map SD.z
def rE(env:EN):DE:=env.map SD.r
def jH(K:aA)(H Z:Hp):SD→Fp→Option V→Prop
 | .no,A,_=>None A
 | .fro d,A,y=>None A∧∃v,y=some v∧Rv K Z d v
 | .own d,A,y=>∃v,y=some v∧Ow K H d A v
 | .inn v d,A,y=>y=some v∧Ow K H d A v
def Rel(K:aA)(B:Hp)(env:EN)(σ:St)(H:Hp):Prop:=∃A,gA (jH K H (out H A)) env A σ∧aN B (out H A)
section
variable{K:aA}{B B' H H' Z Z':Hp}{env:EN}{σ:St}{A:Fp}
theorem gA.all{α β:Type}{R:α→Fp→β→Prop}{Pr:Addr→Prop}:∀{ds:List α} {A:Fp} {ys:List β},gA R ds A ys→(∀d B y,R d B y→∀a,B a→Pr a)→∀a,A a→Pr a
 | [],A,ys,h,_,a,q=>absurd q (h.1 a)
 | d::ds,A,ys,⟨y,yt,A1,A2,h1,h2,h3,h4,h5⟩,m,a,q=>((h3 a).mp q).elim (m _ _ _ h4 a) (gA.all h5 m a)
theorem jH.cells{s:SD}{y:Option V}(h:jH K H Z s A y):∀a,A a→pR H a:=by
 cases s with
 | no=>exact λa q=>absurd q (h a)
 | fro d=>exact λa q=>absurd q (h.1 a)
 | own d=>obtain⟨v,_,o⟩:=h;exact Ow.cells d A v o
 | inn v d=>exact Ow.cells d A v h.2
theorem jO(h:gA (jH K H Z) env A σ):∀a,A a→pR H a:=gA.all h λ_ _ _ q=>q.cells
theorem Rel.len(h:Rel K B env σ H):σ.length=env.length:=let ⟨_,s,_⟩:=h;s.len
theorem Rel.mono(h:Rel K B' env σ H)(s:aN B B'):Rel K B env σ H:=let ⟨A,a,b⟩:=h;⟨A,a,s.trans b⟩
theorem kY{A A':Fp}(s:aN H H')(h:∀a,A' a→A a∨H a=none):aN (out H A) (out H' A'):=λb o e=>by
 obtain⟨e1,e2⟩:=bC.mp e
 refine bC.mpr ⟨λq=>?_,s b o e2⟩
 rcases h b q with q | q
 ·exact e1 q
 ·rw[q]at e2;cases e2
theorem jH.same{s:SD}{y:Option V}(h:jH K H Z s A y)(e:aN H H')(z:aN Z Z'):jH K H' Z' s A y:=by
 cases s with
 | no=>exact h
 | fro d=>obtain⟨h1,v,h2,h3⟩:=h;exact⟨h1,v,h2,z.rv _ _ h3⟩
 | own d=>obtain⟨v,h1,h2⟩:=h;exact⟨v,h1,h2.same e⟩
 | inn v d=>exact⟨h.1,h.2.same e⟩
theorem Rel.same(h:Rel K B env σ H)(s:aN H H'):Rel K B env σ H':=by
 obtain⟨A,a,b⟩:=h
 have g:aN (out H A) (out H' A):=kY s λa q=>.inl q
 exact⟨A,a.mono λe C z _ q=>q.same s g,b.trans g⟩
theorem Fw(h:gA (jH K H (out H A)) env A σ):Zn K A (out H A) H:=⟨kJ H A,Vj λa q=>(jO h a q).2,λa q=>⟨by
 unfold out;rw[if_pos q],λz=>by obtain⟨⟨o,e⟩,_⟩:=jO h a q;rw[z]at e;cases e⟩⟩
theorem Rel.r(h:Rel K B env σ H):pD K H (rE env) σ:=λi d q=>by
 obtain⟨A,a,b⟩:=h
 unfold rE at q
 rw[D5]at q
 cases e:env[i]? with
 | none=>rw[e]at q;cases q
 | some s=>
  rw[e]at q
  obtain⟨y,A1,C,h1,h2,h3,h4,_⟩:=a.focus e
  cases s with
  | no=>cases q
  | fro d0=>cases q;obtain⟨_,v,rfl,h5⟩:=h4;exact⟨v,h1,(kJ H A).rv _ _ h5⟩
  | own d0=>cases q;obtain⟨v,rfl,h5⟩:=h4;exact⟨v,h1,Ow.rv _ _ _ h5⟩
  | inn v d0=>cases q;obtain⟨rfl,h5⟩:=h4;exact⟨v,h1,Ow.rv _ _ _ h5⟩
theorem NP(a:gA (jH K H (out H A)) env A σ):pD K (out H A) (zE env) σ:=λi d q=>by
 unfold zE at q
 rw[D5]at q
 cases e:env[i]? with
 | none=>rw[e]at q;cases q
 | some s=>
  rw[e]at q
  obtain⟨y,A1,C,h1,h2,h3,h4,_⟩:=a.focus e
  cases s with
  | no=>cases q
  | fro d0=>cases q;obtain⟨_,v,rfl,h5⟩:=h4;exact⟨v,h1,h5⟩
  | own d0=>
   obtain⟨v,rfl,h5⟩:=h4
   have q:(if d0.eX=true then some d0 else none)=some d:=G1 q
   split at q
   ·rename_i im
    cases q
    exact⟨v,h1,(yS _ v im (Ow.rv _ _ _ h5)).out (λ_ z=>z.elim) λx hx=>(jO a x hx).2⟩
   ·cases q
  | inn v d0=>
   obtain⟨rfl,h5⟩:=h4
   have q:(if d0.eX=true then some d0 else none)=some d:=G1 q
   split at q
   ·rename_i im
    cases q
    exact⟨v,h1,(yS _ v im (Ow.rv _ _ _ h5)).out (λ_ z=>z.elim) λx hx=>(jO a x hx).2⟩
   ·cases q
theorem Rel.own{i:Nat}{d:D}{v:V}(h:Rel K B env σ H)(hi:i<env.length)(s:aN H H')(n:Bf K H H' d v):Rel K B (env.set i (.own d)) (σ.set i (some v)) H':=by
 obtain⟨A,a,b⟩:=h
 obtain⟨N,o,f⟩:=n
 have cl:=jO a
 obtain⟨y,A1,C,h1,h2,h3,h4,k⟩:=a.focus (B6 hi)
 have g:aN (out H A) (out H' (gZ N C)):=kY s λx q=>q.elim (λq=>.inr (f x q)) λq=>.inl ((h3 x).mpr (.inr q))
 refine⟨gZ N C,k (jH K H' (out H' (gZ N C))) (λe D z _ q=>q.same s g) (.own d) (some v) N (λx q c=>?_) ⟨v,rfl,o⟩,b.trans g⟩
 obtain⟨⟨u,e⟩,_⟩:=cl x ((h3 x).mpr (.inr c))
 rw[f x q]at e;cases e
theorem Fx{i:Nat}{d:D}{v:V}(a:gA (jH K H (out H A)) env A σ)(b:aN B (out H A))(hi:i<env.length)(s:aN H H')(t:aN (out H A) Z')(z:Zn K A Z' H')(r:Rv K Z' d v):Rel K B (env.set i (.fro d)) (σ.set i (some v)) H':=by
 obtain⟨y,A1,C,h1,h2,h3,h4,k⟩:=a.focus (B6 hi)
 have hC:∀x,gZ nil C x→A x:=λx q=>q.elim False.elim λq=>(h3 x).mpr (.inr q)
 have g:aN (out H A) (out H' (gZ nil C)):=kY s λx q=>.inl (hC x q)
 have g2:aN Z' (out H' (gZ nil C)):=λx o e=>bC.mpr ⟨λq=>(by rw[(z.no x (hC x q)).1]at e;cases e),z.sm x o e⟩
 exact⟨gZ nil C,k (jH K H' (out H' (gZ nil C))) (λe D z _ q=>q.same s g) (.fro d) (some v) nil (λx q c=>q) ⟨λ_ z=>z,v,rfl,g2.rv _ _ r⟩,b.trans g⟩
def Vs(env:EN)(j:Nat):EN:=match env[j]? with
 | some (.own d)=>env.set j (.fro d)
 | _=>env
def tZ(js:List Nat)(env:EN):EN:=js.foldl Vs env
theorem set_same{α:Type}{l:List α}{i:Nat}{x:α}(h:l[i]?=some x):l.set i x=l:=by
 apply List.ext_getElem?
 intro j
 rw[List.getElem?_set]
 by_cases c:i=j
 ·subst c
  rw[if_pos rfl,h]
  split
  ·rfl
  ·rename_i q;rw[List.getElem?_eq_none (by omega)]at h;cases h
 ·rw[if_neg c]
theorem Rel.Vs{j:Nat}(h:Rel K B env σ H):Rel K B (Vs env j) σ H:=by
 unfold L2.Vs
 cases e:env[j]? with
 | none=>exact h
 | some s=>
  cases s with
  | no=>exact h
  | fro d=>exact h
  | inn v d=>exact h
  | own d=>
   obtain⟨A,a,b⟩:=h
   have cl:=jO a
   obtain⟨y,A1,C,h1,h2,h3,h4,k⟩:=a.focus e
   obtain⟨v,rfl,o⟩:=h4
   have g:aN (out H A) (out H (gZ nil C)):=kY (aN.refl _) λx q=>q.elim False.elim λq=>.inl ((h3 x).mpr (.inr q))
   have:=k (jH K H (out H (gZ nil C))) (λe D z _ q=>q.same (aN.refl _) g) (.fro d) (some v) nil (λx q c=>q)
    ⟨λ_ z=>z,v,rfl,o.out (λx q c=>h2 x q (c.elim False.elim id)) λx q=>(cl x ((h3 x).mpr (.inr (q.elim False.elim id)))).2⟩
   rw[set_same h1]at this
   exact⟨gZ nil C,this,b.trans g⟩
theorem Rel.tZ{js:List Nat}(h:Rel K B env σ H):Rel K B (tZ js env) σ H:=by
 unfold L2.tZ
 induction js generalizing env with
 | nil=>exact h
 | cons j js ih=>exact ih h.Vs
end
inductive SR where
  | next (env:EN) | ret (d:D) | brk (env:EN) | cont (env:EN) | bad | rete (d:D) (env:EN)
def Bq(K:aA)(B:Hp)(E:Ends):SR→Prop
 | .next env=>∀σ H,Rel K B env σ H→E.nx σ H
 | .ret d=>∀v H A,aN B (out H A)→Ow K H d A v→E.rt v H
 | .brk env=>∀σ H,Rel K B env σ H→E.bk σ H
 | .cont env=>∀σ H,Rel K B env σ H→E.ct σ H
 | .bad=>False
 | .rete d env=>∀v σ H,Rel K B (env++[.own d]) (σ++[some v]) H→E.rt v H
theorem Bq.mono{K:aA}{B B':Hp}{E:Ends}{r:SR}(h:Bq K B E r)(s:aN B B'):Bq K B' E r:=by
 cases r with
 | next env=>exact λσ H q=>h σ H (q.mono s)
 | ret d=>exact λv H A q=>h v H A (s.trans q)
 | brk env=>exact λσ H q=>h σ H (q.mono s)
 | cont env=>exact λσ H q=>h σ H (q.mono s)
 | bad=>exact h
 | rete d env=>exact λv σ H q=>h v σ H (q.mono s)
abbrev GS:=EN→SR
def DS(K:aA)(t:TS)(g:GS):Prop:=∀(B:Hp)(E:Ends)(σ:St)(H:Hp)(env:EN),Rel K B env σ H→Bq K B E (g env)→t E σ H
def my(K:aA)(B:Hp)(E:Ends)(σ:St):SR→Prop
 | .next env=>∀H,Rel K B env σ H→E.nx σ H
 | r=>Bq K B E r
def WR(K:aA)(t:TS)(g:GS):Prop:=∀(B:Hp)(E:Ends)(σ:St)(H:Hp)(env:EN),Rel K B env σ H→my K B E σ (g env)→t E σ H
theorem WR.ds{K:aA}{t:TS}{g:GS}(h:WR K t g):DS K t g:=λB E σ H env r p=>h B E σ H env r (by
 cases q:g env with
 | next e=>rw[q]at p;exact λH' r'=>p σ H' r'
 | ret d=>rw[q]at p;exact p
 | brk e=>rw[q]at p;exact p
 | cont e=>rw[q]at p;exact p
 | bad=>rw[q]at p;exact p
 | rete d e=>rw[q]at p;exact p)
structure YS(K:aA)(X:Cx)(st:Stmt)(t:TS)(g:GS):Prop where
 ps:PS X st t
 ev:DS K t g
structure YB(K:aA)(X:Cx)(st:List Stmt)(t:TS)(g:GS):Prop where
 ps:Ce X st t
 ev:DS K t g
section
variable{K:aA}{X:Cx}{st:Stmt}{sts:List Stmt}{t u:TS}{g g1 g2:GS}{e a b c:Expr}{te ta tb:TE}{f fa fb:FE}{tc:TT}{fc:FT}{pos:Pos}
def aQ(g1 g2:GS):GS:=λenv=>match g1 env with
 | .next env'=>g2 env'
 | r=>r
theorem WT(h1:DS K t g1)(h2:DS K u g2):DS K (Rf t u) (aQ g1 g2):=λB E σ H env r p=>by
 unfold aQ at p
 refine h1 B {E with nx:=u E} σ H env r ?_
 cases q:g1 env with
 | next env'=>rw[q]at p;exact λσ' H' r'=>h2 B E σ' H' env' r' p
 | ret d=>rw[q]at p;exact p
 | brk d=>rw[q]at p;exact p
 | cont d=>rw[q]at p;exact p
 | bad=>rw[q]at p;exact p
 | rete d e=>rw[q]at p;exact p
def bG:GS:=λenv=>.next env
theorem bK:YB K X [] Hz bG:=⟨Od,λB E σ H env r p=>p σ H r⟩
theorem aR(h:YS K X st t g):YB K X [st] t g:=⟨xP h.ps,h.ev⟩
theorem aK(h:YS K X st t g1)(h2:YB K X sts u g2):YB K X (st::sts) (Rf t u) (aQ g1 g2):=⟨uC h.ps h2.ps,WT h.ev h2.ev⟩
def bD(i:Nat)(f:FE):GS:=λenv=>match f (rE env)with
 | some d=>if i<env.length then .next (env.set i (.own d))else .bad
 | none=>.bad
theorem Vt{i:Nat}(h:Dh K te f):DS K (nO te (cB i)) (bD i f):=λB E σ H env r p=>by
 unfold bD at p
 split at p
 ·rename_i d q
  split at p
  ·rename_i hi
   exact h σ H (rE env) d _ r.r q λv H' s n=>p _ _ (r.own hi s n)
  ·exact p.elim
 ·exact p.elim
def wQ(i:Nat)(f:FE):GS:=λenv=>match f (zE env)with
 | some d=>if i<env.length then .next (env.set i (.fro d))else .bad
 | none=>.bad
theorem CZ{i:Nat}(h:Dg K te f):DS K (nO te (cB i)) (wQ i f):=λB E σ H env r p=>by
 unfold wQ at p
 split at p
 ·rename_i d q
  split at p
  ·rename_i hi
   obtain⟨A,a,b⟩:=r
   exact h σ H (out H A) (zE env) d _ (Fw a) (NP a) q λv H' Z' s t z rv=>p _ _ (Fx a b hi s t z rv)
  ·exact p.elim
 ·exact p.elim
theorem bB{i:Nat}{x:Str}{pos':Pos}(h:XN K X e te f)(hp:PE X e te→PS X (.Assign [.Name x pos'] e pos) (nO te (cB i))):YS K X (.Assign [.Name x pos'] e pos) (nO te (cB i)) (bD i f):=⟨hp h.pe,Vt h.ev⟩
theorem DG{i:Nat}{x:Str}{pos':Pos}(h:XR K X e te f)(hp:PE X e te→PS X (.Assign [.Name x pos'] e pos) (nO te (cB i))):YS K X (.Assign [.Name x pos'] e pos) (nO te (cB i)) (wQ i f):=⟨hp h.pe,CZ h.ev⟩
def cU(f:FE):GS:=λenv=>match f (rE env)with
 | some d=>.ret d
 | none=>.bad
theorem bF(h:XN K X e te f):YS K X (.Return (some e) pos) (Kw te) (cU f):=⟨Ky h.pe,λB E σ H env r p=>by
 unfold cU at p
 split at p
 ·rename_i d q
  refine h.ev σ H (rE env) d _ r.r q λv H' s ⟨N,o,fr⟩=>p v H' N (λx u ex=>?_) o
  obtain⟨A,a,b⟩:=r
  have h1:=(bC.mp (b x u ex)).2
  exact bC.mpr ⟨λz=>(by rw[fr x z]at h1;cases h1),s x u h1⟩
 ·exact p.elim⟩
def mL(i:Nat):GS:=λenv=>match env[i]? with
 | some (.own d)=>.ret d
 | some (.fro d)=>if d.eX=true then .ret d else .bad
 | _=>.bad
theorem uP{i:Nat}(h:PE X e (jF i)):YS K X (.Return (some e) pos) (Kw (jF i)) (mL i):=⟨Ky h,λB E σ H env r p=>by
 unfold mL at p
 obtain⟨A,a,b⟩:=r
 split at p
 ·rename_i d q
  obtain⟨y,A1,C,h1,h2,h3,h4,_⟩:=a.focus q
  obtain⟨v,rfl,o⟩:=h4
  exact⟨v,h1,p v H A1 (b.trans (kY (aN.refl _) λx z=>.inl ((h3 x).mpr (.inl z)))) o⟩
 ·rename_i d q
  split at p
  ·rename_i im
   obtain⟨y,A1,C,h1,h2,h3,h4,_⟩:=a.focus q
   obtain⟨_,v,rfl,rv⟩:=h4
   exact⟨v,h1,p v H nil (b.trans (kY (aN.refl _) λx z=>z.elim)) (yS d v im ((kJ H A).rv _ _ rv))⟩
  ·exact p.elim
 ·exact p.elim⟩
def jJ(f:FT)(g1 g2:GS):GS:=λenv=>match f (rE env)with
 | some true=>g1 env
 | some false=>g2 env
 | none=>.bad
theorem cP{s1 s2:List Stmt}(hc:XT K X c tc fc)(h1:YB K X s1 t g1)(h2:YB K X s2 u g2):YS K X (.If c s1 s2 pos) (Rg tc t u) (jJ fc g1 g2):=⟨Um hc.pt h1.ps h2.ps,λB E σ H env r p=>by
 unfold jJ at p
 split at p
 ·rename_i q
  refine hc.ev σ H (rE env) true _ r.r q λH' s=>?_
  rw[if_pos rfl]
  exact h1.ev B E σ H' env (r.same s) p
 ·rename_i q
  refine hc.ev σ H (rE env) false _ r.r q λH' s=>?_
  rw[if_neg (by decide)]
  exact h2.ev B E σ H' env (r.same s) p
 ·exact p.elim⟩
def rW(i:Nat)(g:GS):List D→EN→SR
 | [],env=>.next env
 | x::xs,env=>if i<env.length then match g (env.set i (.fro x))with
   | .next env'=>rW i g xs env'
   | .cont env'=>rW i g xs env'
   | .brk env'=>.next env'
   | r=>r
  else .bad
def uQ(js:List Nat)(i:Nat)(fi:FA)(g:GS):GS:=λenv=>match fi (zE (tZ js env))with
 | some xs=>rW i g xs (tZ js env)
 | none=>.bad
theorem WW{js:List Nat}{i:Nat}{wi:TI}{fi:FA}{tb:TS}(hi:vy K wi fi)(h:DS K tb g):DS K (Lb wi (cB i) tb) (uQ js i fi g):=λB E σ H env r p=>by
 unfold uQ at p
 have r':Rel K B (tZ js env) σ H:=r.tZ
 generalize tZ js env=pH at r' p
 split at p
 ·rename_i xs q
  obtain⟨A,a,b⟩:=r'
  refine hi σ H (out H A) (zE pH) xs _ (Fw a) (NP a) q λJ H1 Z1 P vs s t z hJ hP rvs=>?_
  have hl:=rvs.length
  have g0:aN Z1 (out H1 A):=λx o e=>bC.mpr ⟨λqa=>(by rw[(z.no x qa).1]at e;cases e),z.sm x o e⟩
  have zm:Rel K Z1 pH σ H1:=⟨A,a.mono λe D y _ qq=>qq.same s (kY s λx q=>.inl q),g0⟩
  have bz:aN B Z1:=b.trans t
  have p':=p.mono bz
  refine Ff hJ (λk σ2 H2=>∃rY,Rel K Z1 rY σ2 H2∧Bq K Z1 E (rW i g (xs.drop k) rY)) ⟨pH,zm,by simpa using p'⟩ (λk σ2 H2 _ ⟨rY,⟨A2,a2,b2⟩,_⟩=>hP H2 (b2.trans (kJ H2 A2))) ?_ ?_
  ·rintro k x σ2 H2 hx ⟨rY,r2,p2⟩
   have hk:k<xs.length:=by
    have:=C4.mp hx
    obtain⟨h1,_⟩:=this
    omega
   rw[L7 hk]at p2
   unfold rW at p2
   obtain⟨x',hx',rx⟩:=rvs.get (B6 hk)
   rw[hx]at hx'
   cases hx'
   split at p2
   ·rename_i hlen
    obtain⟨A2,a2,b2⟩:=r2
    have r3:Rel K Z1 (rY.set i (.fro xs[k])) (σ2.set i (some x)) H2:=Fx a2 b2 hlen (aN.refl _) (aN.refl _) (Fw a2) (b2.rv _ _ rx)
    refine h Z1 _ _ H2 _ r3 ?_
    split at p2
    ·rename_i env' q2;rw[q2];exact λσ' H' r'=>⟨env',r',p2⟩
    ·rename_i env' q2;rw[q2];exact λσ' H' r'=>⟨env',r',p2⟩
    ·rename_i env' q2;rw[q2];exact p2
    ·rename_i n1 n2 n3
     cases q2:g (rY.set i (.fro xs[k]))with
     | next e=>exact absurd q2 (n1 e)
     | cont e=>exact absurd q2 (n2 e)
     | brk e=>exact absurd q2 (n3 e)
     | ret d=>rw[q2]at p2;exact p2
     | bad=>rw[q2]at p2;exact p2
     | rete d e=>rw[q2]at p2;exact p2
   ·exact p2.elim
  ·rintro σ2 H2 ⟨rY,r2,p2⟩
   rw[hl,T3]at p2
   exact p2 σ2 H2 r2
 ·exact p.elim
theorem vP{tg iter:Expr}{body:List Stmt}{wi:TI}{fi:FA}{tb:TS}{i:Nat}(js:List Nat)(hp:PassesOwn (model X.prog X.w) X.A X.env X.xe)(Ss:X.calm=true)(hi:XI K X tg iter wi fi)(hg:PG X tg (cB i))(hb:YB K X body tb g)
  (hs:∀x,foldedSetIterable iter X.env x=pure x:=by intro _;rfl):YS K X (.For tg iter body [] pos) (Lb wi (cB i) tb) (uQ js i fi g):=⟨Ld hp Ss hi.pi hg hb.ps hs,WW hi.ev hb.ev⟩
end
end L2


namespace L2
open PySem PySem.Spec PyProof.Rows
inductive Step where
  | ix (k:Nat) | key (k:Key) | fld (C:Addr) (f:Str)
def kids:D→List D
 | .lst ds=>ds
 | .dk _ ds=>ds
 | .ins _ _ ds=>ds
 | _=>[]
def uR:D→List D→D
 | .lst _,ds=>.lst ds
 | .dk ks _,ds=>.dk ks ds
 | .ins C nm _,ds=>.ins C nm ds
 | d,_=>d
def xM:Step→D→Option Nat
 | .ix k,.lst ds=>some k
 | .key k,.dk ks _=>posK ks k
 | .fld C f,.ins C' nm _=>if C'=C then posK nm f else none
 | _,_=>none
def qF:List Step→D→Option D
 | [],d=>some d
 | s::p,d=>(xM s d).bind λj=>((kids d)[j]?).bind (qF p)
def oU:List Step→D→D→D
 | [],_,d'=>d'
 | s::p,d,d'=>match xM s d with
  | some j=>(match (kids d)[j]? with
   | some c=>uR d ((kids d).set j (oU p c d'))
   | none=>d)
  | none=>d
def stepV(H:Hp)(s:Step)(v:V):Option V:=match v with
 | .ref a=>(match s,H a with
  | .ix k,some (.lst xs)=>xs[k]?
  | .key k,some (.dK kvs)=>Rw kvs k
  | .fld C f,some (.ins C' _ fs)=>if C'=C then fs.lookup f else none
  | _,_=>none)
 | _=>none
def Hw(H:Hp):List Step→V→Option V
 | [],v=>some v
 | s::p,v=>(stepV H s v).bind (Hw H p)
theorem Mj{H H':Hp}(e:aN H H'){s:Step}{v w:V}(h:stepV H s v=some w):stepV H' s v=some w:=by
 cases v with
 | ref a=>
  unfold stepV at h ⊢
  dsimp only at h ⊢
  cases q:H a with
  | none=>rw[q]at h;cases s<;>cases h
  | some o=>rw[e a o q];rw[q]at h;exact h
 | _=>unfold stepV at h;cases h
theorem Je{H H':Hp}(e:aN H H'):∀{p:List Step} {v w:V},Hw H p v=some w→Hw H' p v=some w
 | [],v,w,h=>h
 | s::p,v,w,h=>by
  unfold Hw at h ⊢
  obtain⟨u,h1,h2⟩:=aU h
  rw[Mj e h1]
  exact Je e h2
theorem Ml{nm:List Str}{xs:List V}{f:Str}(h:nm.length=xs.length):(nm.zip xs).lookup f=(posK nm f).bind λj=>xs[j]?:=by
 induction nm generalizing xs with
 | nil=>unfold posK;rfl
 | cons a nm ih=>
  cases xs with
  | nil=>simp at h
  | cons x xs=>
   have ih:=ih (xs:=xs) (by simpa using h)
   unfold posK
   rw[W0,Q3]
   by_cases c:a=f
   ·subst c;simp
   ·have c2:(f==a)=false:=by
     rw[beq_eq_false_iff_ne];exact λz=>c z.symm
    rw[c2,if_neg c,ih]
    cases posK nm f<;>rfl
theorem Ow.kids{K:aA}{H:Hp}{d:D}{A:Fp}{v:V}{s:Step}{j:Nat}(h:Ow K H d A v)(q:xM s d=some j):∃xs T Bt,(∀x,xs[j]?=some x→stepV H s v=some x)∧gB K H (kids d) Bt xs∧Is A (gZ T Bt)∧Apart T Bt ∧
  ∀H' ds' B',ds'.length=(kids d).length→gB K H' ds' B' xs→(∀a,T a→H' a=H a)→Apart T B'→Ow K H' (uR d ds') (gZ T B') v:=by
 cases d with
 | lst ds=>
  unfold Ow at h
  obtain⟨a,xs,B,rfl,h2,h3,h4,h5⟩:=h
  cases s with
  | ix k=>
   unfold xM at q
   cases q
   refine⟨xs,(·=a),B,λx hx=>?_,h5,h4,λx qx qb=>h3 (qx▸qb),λH' ds' B' hl o f ap=>?_⟩
   ·unfold stepV;dsimp only;rw[h2];exact hx
   ·show Ow K H' (.lst ds') _ _
    unfold Ow
    exact⟨a,xs,B',rfl,(f a rfl).trans h2,ap a rfl,λ_=>Iff.rfl,o⟩
  | _=>unfold xM at q;cases q
 | dk ks ds=>
  unfold Ow at h
  obtain⟨a,xs,B,rfl,h2,h2',h3,h4,h5⟩:=h
  cases s with
  | key k=>
   have q:posK ks k=some j:=q
   refine⟨xs,(·=a),B,λx hx=>?_,h5,h4,λx qx qb=>h3 (qx▸qb),λH' ds' B' hl o f ap=>?_⟩
   ·unfold stepV;dsimp only;rw[h2];show Rw (ks.zip xs) k=_;rw[Iz h2',q];exact hx
   ·show Ow K H' (.dk ks ds') _ _
    unfold Ow
    exact⟨a,xs,B',rfl,(f a rfl).trans h2,h2',ap a rfl,λ_=>Iff.rfl,o⟩
  | _=>unfold xM at q;cases q
 | ins C nm ds=>
  unfold Ow at h
  obtain⟨a,dx,xs,B,rfl,h2,h2',h3,h3',h3'',h4,h5⟩:=h
  cases s with
  | fld C0 k=>
   have q:(if C=C0 then posK nm k else none)=some j:=q
   by_cases hc:C=C0
   rotate_left
   ·rw[if_neg hc]at q;cases q
   rw[if_pos hc]at q
   refine⟨xs,(λx=>x=a∨x=dx),B,λx hx=>?_,h5,h4,λx qx qb=>qx.elim (λz=>h3' (z▸qb)) λz=>h3'' (z▸qb),λH' ds' B' hl o f ap=>?_⟩
   ·unfold stepV;dsimp only;rw[h2];show (if C=C0 then(nm.zip xs).lookup k else none)=_;rw[if_pos hc,Ml h3,q];exact hx
   ·show Ow K H' (.ins C nm ds') _ _
    unfold Ow
    exact⟨a,dx,xs,B',rfl,(f a (.inl rfl)).trans h2,(f dx (.inr rfl)).trans h2',h3,ap a (.inl rfl),ap dx (.inr rfl),λ_=>Iff.rfl,o⟩
  | _=>unfold xM at q;cases q
 | _=>cases s<;>(unfold xM at q;cases q)
theorem Ow.at{K:aA}{H:Hp}:∀{p:List Step} {d d1:D} {A:Fp} {v:V},Ow K H d A v→qF p d=some d1→∃w A1 C,Hw H p v=some w∧Apart A1 C∧Is A (gZ A1 C)∧Ow K H d1 A1 w ∧
    ∀H' d' A',Apart A' C→(∀a,C a→H' a=H a)→vJ K H H'→Ow K H' d' A' w→Ow K H' (oU p d d') (gZ A' C) v
  | [],d,d1,A,v,h,q=>by
    unfold qF at q
    cases q
    exact⟨v,A,nil,rfl,λ_ _ z=>z,λx=>⟨.inl,λz=>z.elim id False.elim⟩,h,λH' d' A' _ _ _ o=>o.congr λx=>⟨.inl,λz=>z.elim id False.elim⟩⟩
  | s::p,d,d1,A,v,h,q=>by
    unfold qF at q
    obtain⟨j,q1,q2⟩:=aU q
    obtain⟨c,q3,q4⟩:=aU q2
    obtain⟨xs,T,Bt,k1,k2,k3,k4,k5⟩:=h.kids q1
    obtain⟨y,B1,C1,f1,f2,f3,f4,f5⟩:=(fW.mp k2).focus q3
    obtain⟨w,A1,C2,g1,g2,g3,g4,g5⟩:=Ow.at f4 q4
    refine⟨w,A1,gZ T (gZ C1 C2),?_,?_,?_,g4,λH' d' A' ap fr tk o=>?_⟩
    · unfold Hw
      rw[k1 y f1]
      exact g1
    · intro x qx qc
      have b1:B1 x:=(g3 x).mpr (.inl qx)
      rcases qc with qc | qc | qc
      · exact k4 x qc ((f3 x).mpr (.inl b1))
      · exact f2 x b1 qc
      · exact g2 x qx qc
    · intro x
      rw[k3 x]
      constructor
      · rintro(z | z)
        · exact .inr (.inl z)
        · rcases(f3 x).mp z with z | z
          · rcases(g3 x).mp z with z | z
            · exact .inl z
            · exact .inr (.inr (.inr z))
          · exact .inr (.inr (.inl z))
      · rintro(z | z | z | z)
        · exact .inr ((f3 x).mpr (.inl ((g3 x).mpr (.inl z))))
        · exact .inl z
        · exact .inr ((f3 x).mpr (.inr z))
        · exact .inr ((f3 x).mpr (.inl ((g3 x).mpr (.inr z))))
    · have o1:Ow K H' (oU p c d') (gZ A' C2) y:=g5 H' d' A' (λx a b=>ap x a (.inr (.inr b))) (λa z=>fr a (.inr (.inr z))) tk o
      have ap1:Apart (gZ A' C2) C1:=λx a b=>a.elim (λz=>ap x z (.inr (.inl b))) λz=>f2 x ((g3 x).mpr (.inr z)) b
      have o2:=f5 (Ow K H') (λe B z hb qq=>Ow.frame tk e B z qq λa za=>fr a (.inr (.inl (hb a za)))) (oU p c d') y (gZ A' C2) ap1 o1
      rw[set_same f1]at o2
      have o3:=k5 H' ((L2.kids d).set j (oU p c d')) _ (by rw[O3]) (fW.mpr o2) (λa z=>fr a (.inl z)) (λx a b=>by
        rcases b with (b | b) | b
        · exact ap x b (.inl a)
        · exact k4 x a ((f3 x).mpr (.inl ((g3 x).mpr (.inr b))))
        · exact k4 x a ((f3 x).mpr (.inr b)))
      have e:oU (s::p) d d'=uR d ((L2.kids d).set j (oU p c d')):=by
        show (match xM s d with | some j=>_ | none=>_)=_
        rw[q1]
        show (match (L2.kids d)[j]? with | some c=>_ | none=>_)=_
        rw[q3]
      rw[e]
      refine o3.congr λx=>?_
      show (T x∨(A' x∨C2 x)∨C1 x)↔(A' x∨T x∨C1 x∨C2 x)
      constructor
      · rintro(z | (z | z) | z)
        · exact .inr (.inl z)
        · exact .inl z
        · exact .inr (.inr (.inr z))
        · exact .inr (.inr (.inl z))
      · rintro(z | z | z | z)
        · exact .inr (.inl (.inl z))
        · exact .inl z
        · exact .inr (.inr z)
        · exact .inr (.inl (.inr z))
section
variable{K:aA}{B H:Hp}{env:EN}{σ:St}
theorem Rel.at{i:Nat}{p:List Step}{d0 d:D}(h:Rel K B env σ H)(e:env[i]?=some (.own d0))(q:qF p d0=some d):∃v0 w A1 C,σ[i]?=some (some v0)∧Hw H p v0=some w∧Ow K H d A1 w∧Apart A1 C∧(∀a,C a→pR H a) ∧
    ∀H' d' A',Apart A' C→(∀a,C a→H' a=H a)→vJ K H H'→Ow K H' d' A' w→aN (out H (gZ A1 C)) (out H' (gZ A' C))→Rel K B (env.set i (.own (oU p d0 d'))) σ H':=by
  obtain⟨A,a,b⟩:=h
  have cl:=jO a
  obtain⟨y,A1,C,h1,h2,h3,h4,k⟩:=a.focus e
  obtain⟨v0,rfl,o⟩:=h4
  obtain⟨w,B1,C1,g1,g2,g3,g4,g5⟩:=o.at q
  refine⟨v0,w,B1,gZ C1 C,h1,g1,g4,λx z1 z2=>?_,λx z=>?_,λH' d' A' ap fr tk o' sm=>?_⟩
  · exact z2.elim (g2 x z1) (h2 x ((g3 x).mpr (.inl z1)))
  · exact cl x ((h3 x).mpr (z.elim (λz=>.inl ((g3 x).mpr (.inr z))) .inr))
  · have o2:=g5 H' d' A' (λx z1 z2=>ap x z1 (.inl z2)) (λx z=>fr x (.inl z)) tk o'
    have ap2:Apart (gZ A' C1) C:=λx z1 z2=>z1.elim (λz=>ap x z (.inr z2)) λz=>h2 x ((g3 x).mpr (.inr z)) z2
    have hA:Is A (gZ B1 (gZ C1 C)):=λx=>by
      rw[h3 x]
      constructor
      · rintro(z | z)
        · exact((g3 x).mp z).elim .inl λz=>.inr (.inl z)
        · exact .inr (.inr z)
      · rintro(z | z | z)
        · exact .inl ((g3 x).mpr (.inl z))
        · exact .inl ((g3 x).mpr (.inr z))
        · exact .inr z
    have g:aN (out H A) (out H' (gZ (gZ A' C1) C)):=λx u ex=>by
      obtain⟨e1,e2⟩:=bC.mp ex
      have:=sm x u (bC.mpr ⟨λz=>e1 ((hA x).mpr z),e2⟩)
      obtain⟨e3,e4⟩:=bC.mp this
      exact bC.mpr ⟨λz=>e3 (z.elim (λz=>z.elim .inl λz=>.inr (.inl z)) λz=>.inr (.inr z)),e4⟩
    have s:=k (jH K H' (out H' (gZ (gZ A' C1) C))) (λs D z hb qq=>by
      cases s with
      | no=>exact qq
      | fro d=>obtain⟨q1,v,q2,q3⟩:=qq;exact⟨q1,v,q2,g.rv _ _ q3⟩
      | inn v d=>exact⟨qq.1,Ow.frame tk _ _ _ qq.2 λx zx=>fr x (.inr (hb x zx))⟩
      | own d=>obtain⟨v,q1,q2⟩:=qq;exact⟨v,q1,Ow.frame tk _ _ _ q2 λx zx=>fr x (.inr (hb x zx))⟩) (.own (oU p d0 d')) (some v0) (gZ A' C1) ap2 ⟨v0,rfl,o2⟩
    rw[set_same h1]at s
    exact⟨_,s,b.trans g⟩
theorem Rel.Vu{i:Nat}{p:List Step}{d0:D}{ds:List D}(h:Rel K B env σ H)(e:env[i]?=some (.own d0))(q:qF p d0=some (.lst ds)):∃v0 a xs Bs,σ[i]?=some (some v0)∧Hw H p v0=some (.ref a)∧H a=some (.lst xs)∧¬Bs a∧gB K H ds Bs xs ∧
    ∀H2 ds' xs' Bn,aN H H2→gB K H2 ds' Bn xs'→(∀b,Bn b→Bs b∨H b=none)→Rel K B (env.set i (.own (oU p d0 (.lst ds')))) σ (upd H2 a (.lst xs')):=by
  obtain⟨v0,w,A1,C,h1,h2,h3,h4,h5,h6⟩:=h.at e q
  unfold Ow at h3
  obtain⟨a,xs,Bs,rfl,o2,o3,o4,o5⟩:=h3
  refine⟨v0,a,xs,Bs,h1,h2,o2,o3,o5,λH2 ds' xs' Bn s o hb=>?_⟩
  have nBa:¬Bn a:=λz=>(hb a z).elim o3 λz=>by rw[o2]at z;cases z
  have hC:∀x,C x→¬x=a:=λx z y=>h4 x ((o4 x).mpr (.inl y)) z
  have mz:H2 a=some (.lst xs):=s a _ o2
  refine h6 _ (.lst ds') (gZ (·=a) Bn) (λx z1 z2=>?_) (λx z=>?_) (s.tk.trans (Mi (rC mz))) ?_ (λx u ex=>?_)
  · rcases z1 with z1 | z1
    · exact hC x z2 z1
    · rcases hb x z1 with z | z
      · exact h4 x ((o4 x).mpr (.inr z)) z2
      · obtain⟨⟨u,eu⟩,_⟩:=h5 x z2
        rw[z]at eu;cases eu
  · obtain⟨⟨u,eu⟩,_⟩:=h5 x z
    rw[bH (hC x z),eu,s x u eu]
  · unfold Ow
    refine⟨a,xs',Bn,rfl,bW,nBa,λ_=>Iff.rfl,gB.frame (Mi (rC mz)) _ _ _ o λx zx=>bH λy=>nBa (y▸zx)⟩
  · obtain⟨e1,e2⟩:=bC.mp ex
    have na:x≠a:=λy=>e1 (.inl ((o4 x).mpr (.inl y)))
    refine bC.mpr ⟨λz=>?_,by rw[bH na];exact s x u e2⟩
    rcases z with (z | z) | z
    · exact na z
    · rcases hb x z with z | z
      · exact e1 (.inl ((o4 x).mpr (.inr z)))
      · rw[z]at e2;cases e2
    · exact e1 (.inr z)
end
end L2


namespace L2
open PySem PySem.Spec PyProof.Rows
abbrev FP:=DE→Option (List Step)
def ni(K:aA)(t:TE)(i:Nat)(π:FP):Prop:=∀(σ:St)(H:Hp)(e:DE)(v0:V)(p:List Step)(v:V)(Q:VK),pD K H e σ→σ[i]?=some (some v0)→π e=some p→Hw H p v0=some v→(∀H',aN H H'→Q v H')→t σ H Q
structure XP(K:aA)(X:Cx)(e:Expr)(t:TE)(i:Nat)(π:FP):Prop where
 hk:X.K=K
 pe:PE X e t
 ev:ni K t i π
theorem Jf{H:Hp}{s:Step}:∀{p:List Step} {v0 v:V},Hw H (p++[s]) v0=some v→∃w,Hw H p v0=some w∧stepV H s w=some v
 | [],v0,v,h=>by
  rw[O4]at h
  unfold Hw at h
  obtain⟨w,h1,h2⟩:=aU h
  unfold Hw at h2
  cases h2
  exact⟨v0,rfl,h1⟩
 | s'::p,v0,v,h=>by
  rw[M5]at h
  unfold Hw at h
  obtain⟨u,h1,h2⟩:=aU h
  obtain⟨w,h3,h4⟩:=Jf h2
  refine⟨w,?_,h4⟩
  unfold Hw
  rw[h1]
  exact h3
theorem Vv{H:Hp}{k:Nat}{w v:V}(h:stepV H (.ix k) w=some v):∃a xs,w=.ref a∧H a=some (.lst xs)∧xs[k]?=some v:=by
 cases w with
 | ref a=>
  unfold stepV at h
  dsimp only at h
  cases q:H a with
  | none=>rw[q]at h;cases h
  | some o=>
   rw[q]at h
   cases o with
   | lst xs=>exact⟨a,xs,rfl,q,h⟩
   | _=>cases h
 | _=>unfold stepV at h;cases h
def rZ:FP:=λ_=>some []
def Uh(π:FP)(g:FE):FP:=λe=>(π e).bind λp=>(g e).bind λd=>match d with
 | .int k=>if 0≤k then some (p++[.ix k.toNat])else none
 | _=>none
section
variable{K:aA}{X:Cx}{e a b c:Expr}{es:List Expr}{t ta tb te:TE}{f g:FE}{tA:TA}{fs:FA}{pos:Pos}{i j:Nat}{π:FP}{st:Stmt}
theorem Mm(h:PE X e (jF i))(hk:X.K=K:=by rfl):XP K X e (jF i) i rZ:=⟨hk,h,λσ H e v0 p v Q re h1 h2 h3 k=>by
 cases h2
 unfold Hw at h3
 cases h3
 exact⟨v0,h1,k H (aN.refl _)⟩⟩
theorem Vw(h:XP K X a ta i π)(hb:XR K X b tb g)(hs:xR b):XP K X (.Subscript a b pos) (Ck (vp K) ta tb) i (Uh π g):=⟨h.hk,Uy (NB h.hk) h.pe hb.pe hs,λσ H e v0 p v Q re h1 h2 h3 k=>by
 unfold Uh at h2
 obtain⟨p0,q1,q2⟩:=aU h2
 obtain⟨d,q3,q4⟩:=aU q2
 split at q4
 ·rename_i n
  split at q4
  ·rename_i hn
   cases q4
   obtain⟨w,w1,w2⟩:=Jf h3
   obtain⟨ad,xs,rfl,w3,w4⟩:=Vv w2
   refine h.ev σ H e v0 p0 _ _ re h1 q1 w1 λH1 s1=>hb.ev σ H1 H1 e _ _ (Zn.self K H1) (re.same s1) q3 λy H2 Z2 s2 t2 z2 ry=>?_
   unfold Rv at ry
   exact .inl ⟨ad,xs,n,v,rfl,ry,mC.of (s2 _ _ (s1 _ _ w3)),zf hn w4,k H2 (s1.trans s2)⟩
  ·cases q4
 ·cases q4⟩
def Br(i:Nat)(π:FP)(f:FE):GS:=λenv=>match env[i]?,π (rE env),f (rE env)with
 | some (.own d0),some p,some d=>(match qF p d0 with
  | some (.lst ds)=>if ds.length<100000 then .next (env.set i (.own (oU p d0 (.lst (ds++[d])))))else .bad
  | _=>.bad)
 | _,_,_=>.bad
theorem Mp{H H1:Hp}{A:Fp}{ds:List D}{xs:List V}{N:Fp}(o:gB K H ds A xs)(fr:∀a,N a→H a=none):Apart A N:=λx q1 q2=>by
 obtain⟨⟨u,eu⟩,_⟩:=gB.cells _ _ _ o x q1
 rw[fr x q2]at eu;cases eu
theorem WX(h:ni K ta i π)(he:Dh K te f):WR K (nM (Bl K "list" oO ta (bV te iM))) (Br i π f):=λB E σ H env r p=>by
 unfold Br at p
 split at p
 ·rename_i d0 pp d q1 q2 q3
  split at p
  ·rename_i ds q4
   split at p
   ·rename_i hl
    obtain⟨v0,a,xs,Bs,k1,k2,k3,k4,k5,k6⟩:=r.Vu q1 q4
    refine h σ H (rE env) v0 pp _ _ r.r k1 q2 k2 λH1 s1=>⟨.inl ⟨rfl,xs,mC.of (s1 _ _ k3)⟩,?_⟩
    refine he σ H1 (rE env) d _ (r.r.same s1) q3 λy H2 s2 n=>?_
    obtain⟨N,o,fr⟩:=n.back s1
    have s12:=s1.trans s2
    refine⟨a,xs,y,rfl,rfl,s12 _ _ k3,Iu (by rw[(gB.rv _ _ _ k5).length];omega),p _ ?_⟩
    exact k6 H2 (ds++[d]) (xs++[y]) (gZ Bs N) s12 (fW.mpr ((fW.mp (k5.same s12)).snoc o (Mp (H1:=H) k5 fr))) λb z=>z.imp id (fr b)
   ·exact p.elim
  ·exact p.elim
 ·exact p.elim
theorem Fy{m:Str}{apos cpos:Pos}(h:XP K X a ta i π)(he:XN K X e te f)(hp:PE X a ta→PE X e te→PS X (.Expr (.Call (.Attribute a m apos) [e] [] cpos) pos) (nM (Bl K "list" oO ta (bV te iM)))):YS K X (.Expr (.Call (.Attribute a m apos) [e] [] cpos) pos) (nM (Bl K "list" oO ta (bV te iM))) (Br i π f):=⟨hp h.pe he.pe,(WX h.ev he.ev).ds⟩
def wR(i:Nat)(π:FP)(g f:FE):GS:=λenv=>match env[i]?,π (rE env),g (rE env),f (rE env)with
 | some (.own d0),some p,some (.int k),some d=>(match qF p d0 with
  | some (.lst ds)=>(match Oj ds.length k with
   | some j=>.next (env.set i (.own (oU p d0 (.lst (ds.set j d)))))
   | none=>.bad)
  | _=>.bad)
 | _,_,_,_=>.bad
theorem WY{n:Nat}{k:Int}{j:Nat}(h:Oj n k=some j):j<n:=by
 unfold Oj at h
 split at h
 ·split at h
  ·cases h;omega
  ·cases h
 ·split at h
  ·cases h;omega
  ·cases h
theorem DK(h:ni K ta i π)(hx:Dg K tb g)(he:Dh K te f):WR K (nO te (Zi ta tb Om)) (wR i π g f):=λB E σ H env r p=>by
 unfold wR at p
 split at p
 ·rename_i d0 pp k d q1 q2 q3 zp
  split at p
  ·rename_i ds q4
   split at p
   ·rename_i j q5
    obtain⟨v0,a,xs,Bs,k1,k2,k3,k4,k5,k6⟩:=r.Vu q1 q4
    refine he σ H (rE env) d _ r.r zp λy H1 s1 n=>?_
    refine h σ H1 (rE env) v0 pp _ _ (r.r.same s1) k1 q2 (Je s1 k2) λH2 s2=>hx σ H2 H2 (rE env) _ _ (Zn.self K H2) (r.r.same (s1.trans s2)) q3 λy' H3 Z3 s3 t3 z3 ry=>?_
    unfold Rv at ry
    have gr:=s1.trans (s2.trans s3)
    obtain⟨N,o,fr⟩:=n.same (s2.trans s3)
    have hlen:=(gB.rv _ _ _ k5).length
    refine⟨a,xs,k,j,rfl,ry,gr _ _ k3,by rw[hlen];exact q5,p _ ?_⟩
    obtain⟨y0,A1,C,f1,f2,f3,f4,f5⟩:=(fW.mp (k5.same gr)).focus (B6 (WY q5))
    have ap:Apart N C:=λx q1 q2=>Mp (H1:=H) k5 fr x ((f3 x).mpr (.inr q2)) q1
    exact k6 H3 (ds.set j d) (xs.set j y) (gZ N C) gr (fW.mpr (f5 (Ow K H3) (λ_ _ _ _ qq=>qq) d y N ap o)) λb z=>z.elim (λz=>.inr (fr b z)) λz=>.inl ((f3 b).mpr (.inr z))
   ·exact p.elim
  ·exact p.elim
 ·exact p.elim
theorem DN{pos':Pos}(h:XP K X a ta i π)(hx:XR K X b tb g)(he:XN K X e te f)(hp:PE X a ta→PE X b tb→PE X e te→PS X (.Assign [.Subscript a b pos'] e pos) (nO te (Zi ta tb Om))):YS K X (.Assign [.Subscript a b pos'] e pos) (nO te (Zi ta tb Om)) (wR i π g f):=⟨hp h.pe hx.pe he.pe,(DK h.ev hx.ev he.ev).ds⟩
end
end L2


namespace L2
open PySem PySem.Spec PyProof.Rows
def aA5(K:aA)(B:Hp)(R:Fp)(env:EN)(σ:St)(H:Hp):Prop:=∃A,gA (jH K H (out H (gZ A R))) env A σ∧Apart A R∧aN B (out H (gZ A R))
section
variable{K:aA}{B H H':Hp}{env:EN}{σ:St}{R R' A1:Fp}
end
section
variable{K:aA}{X:Cx}{e a b c:Expr}{es:List Expr}{t ta tb te:TE}{f g:FE}{tA:TA}{fs:FA}{pos:Pos}{i j:Nat}{π:FP}{st:Stmt}
inductive wj(K:aA)(H:Hp):V→Value→Prop where
 | bl (x:Bool):wj K H (.bl x) (.type "bool")
 | int (i:Int):wj K H (.int i) (.type "int")
 | lst {a:Addr} {xs:List V} (e:mC K H a xs):wj K H (.ref a) (.type "list")
 | tup {a:Addr} {xs:List V} (e:pI K H a xs):wj K H (.ref a) (.type "tuple")
structure Pj(mg:Str→Option Value)(x:Str)(i:Int):Prop where
 ex:∃t,mg x=some (.int i t)
structure wU(K:aA)(mg:Str→Option Value)(x:Str)(ns:List Int):Prop where
 ex:∃a,mg x=some (.ref a)∧∀H:Hp,pI K H a (ns.map V.int)
theorem nq{x:Str}{i:Int}(G:Pj X.mg x i)(hg:Gl X x)(hd:(x==("__debug__" : Str))=false:=by decide) (hk:X.K=K:=by rfl):XN K X (.Name x pos) (tC (.int i)) (fC (.int i)):=by
 obtain⟨t,h⟩:=G.ex
 exact⟨hk,gP hg h ⟨t,rfl⟩ hd,Vk i⟩
def tGT(K:aA)(ns:List Int):TE:=λ_ H Q=>∀a,pI K H a (ns.map V.int)→Q (.ref a) H
def dTup(ns:List Int):D:=.tup (ns.map D.int)
theorem Dp{x:Str}{ns:List Int}(G:wU K X.mg x ns)(hg:Gl X x)(hd:(x==("__debug__" : Str))=false:=by decide) (hk:X.K=K:=by rfl):XN K X (.Name x pos) (tGT K ns) (fC (dTup ns)):=by
 obtain⟨a,h,hq⟩:=G.ex
 refine⟨hk,λpins s σ H Q I w=>?_,λσ H e d Q re q k=>?_⟩
 ·exact gP (v:=.ref a) hg h rfl hd pins s σ H Q I (w a (hq H))
 ·cases q
  intro a' ha
  refine k _ H (aN.refl _) (.eX ?_ ?_)
  ·unfold dTup D.eX;exact gF ns
  ·unfold dTup Rv;exact⟨a',_,rfl,ha,kW.mpr rfl⟩
end
def lJ(n m:Nat)(g:GS):List D→Option D:=λds=>if ds.length=m then(match g (ds.map SD.fro++B9 (n-m) SD.no)with
  | .ret d=>some d
  | .next _=>some .non
  | _=>none)else none
theorem Jg{K:aA}{H Z:Hp}{k:Nat}:∀{ds:List D} {vs:List V},cC K Z ds vs→gA (jH K H Z) (ds.map SD.fro++B9 k SD.no) nil (vs.map some++B9 k none)
 | [],vs,h=>by
  unfold cC at h
  subst h
  simp only[J7,O4]
  induction k with
  | zero=>exact⟨λ_ z=>z,rfl⟩
  | succ k ih=>
   rw[G9,G9]
   exact⟨none,_,nil,nil,rfl,λ_ z=>z.elim,λx=>⟨.inl,λz=>z.elim id id⟩,λ_ z=>z,ih⟩
 | d::ds,vs,h=>by
  unfold cC at h
  obtain⟨y,ys,rfl,h1,h2⟩:=h
  rw[D7,D7,M5,M5]
  exact⟨some y,_,nil,nil,rfl,λ_ z=>z.elim,λx=>⟨.inl,λz=>z.elim id id⟩,⟨λ_ z=>z,y,rfl,h1⟩,Jg h2⟩
theorem vQ{K:aA}{H:Hp}{k:Nat}{ds:List D}{vs:List V}(h:cC K H ds vs):Rel K H (ds.map SD.fro++B9 k SD.no) (vs.map some++B9 k none) H:=by
 have g:aN H (out H nil):=λx u e=>bC.mpr ⟨λz=>z,e⟩
 exact⟨nil,Jg (g.Ou _ _ h),g⟩
theorem Raw.sE{P:Program}{w:World}{K:aA}{mg:Str→Option Value}{base:Heap}{x:Str}{st:Stmt}{N ps:List Str}{k:Nat}{g:GS}(R:Raw K mg x st)(S:bO N ps (aM st))
  (hb:∀(kV doc pm:Value)(an:Option Addr)(cdv ct:Value)(us:List Value),us.length=ps.length→bindArgs (G6 x x (fV st) (cQ st) (aM st) .none kV doc pm an cdv ct) ⟨us,[]⟩=pure (ps.zip us))
  (hbody:∀(f:Addr)(cdv:Value)(A:Around)(outer:List Env)(s:Shared)(H:Hp)(E:XK),kI k (A.deeper (envOfC x (aM st) s.heap.objs.size f cdv)) →
   ∃t,YB K (jL Ue P w K mg base N x (aM st) f cdv A outer s H E).RC (cQ st) t g):mG P w K mg base x (k+1) ps.length (nC K ps.length (lJ N.length ps.length g)):=by
 refine R.cal S (λvs H Q E h=>?_) hb (λf cdv A outer s H vs Q E hr h=>?_)
 ·obtain⟨ds,d,h1,h2,_⟩:=h
  rw[h2.length];exact h1
 obtain⟨ds,d,h1,h2,h3,kk⟩:=h
 obtain⟨t,yb⟩:=hbody f cdv A outer s H E hr
 refine⟨t,yb.ps,yb.ev H _ _ H (ds.map SD.fro++B9 (N.length-ps.length) SD.no) ?_ ?_⟩
 ·have hl:vs.length=ps.length:=by rw[h2.length];exact h1
  have:=vQ (k:=N.length-ps.length) h2
  unfold start
  rw[hl]
  exact this
 ·unfold lJ at h3
  rw[if_pos h1]at h3
  cases q:g (ds.map SD.fro++B9 (N.length-ps.length) SD.no)with
  | ret d'=>
   rw[q]at h3
   cases h3
   refine λv H' A' s' o=>kk v H' (s'.trans (kJ _ _)) ⟨A',o,λa qa=>?_⟩
   cases e:H a with
   | none=>rfl
   | some u=>exact absurd qa (bC.mp (s' a u e)).1
  | next env'=>
   rw[q]at h3
   cases h3
   refine λσ' H' ⟨A',_,s'⟩=>kk .non H' (s'.trans (kJ _ _)) (.eX rfl (by unfold Rv;rfl))
  | brk env'=>rw[q]at h3;cases h3
  | cont env'=>rw[q]at h3;cases h3
  | bad=>rw[q]at h3;cases h3
  | rete d e=>rw[q]at h3;cases h3
end L2


namespace L2
open PySem PySem.Spec PyProof.Rows
section
variable{K:aA}{X:Cx}{e a b c:Expr}{es:List Expr}{t ta tb te:TE}{f g:FE}{tA:TA}{fs:FA}{pos:Pos}{i j:Nat}{π:FP}{st:Stmt}{gb:GS}{tc:TT}{fc:FT}
def nR(f:FE):FE:=λe=>(f e).bind λd=>match d with | .int i=>some (.int (-i)) | _=>none
theorem lK(ha:XR K X a ta f):XN K X (.UnaryOp .USub a pos) (yj (rU λi=>.int (-i)) ta) (nR f):=WN ha
theorem mO{tg elt iter:Expr}{ifs:List Expr}{scope:Scope}{spos py:Pos}{y:Str}{wi:TI}{fi:FA}{fe:FE}(N:List Str)(fr:List Nat)(hcalm:X.calm=true)(B:dC X.env.scope scope X.N N 1 fr)(hN:X.N.Nodup)(hy:X.N[i]?=some y)(hx:Loc X.env.scope y)(hi:XI K X tg iter wi fi)
  (hg:∀cl fp s H C,PG (bR X scope N cl fp s H C) tg (cB 0)) (hc:∀cl fp s H C,zj K (bR X scope N cl fp s H C) ifs tc fc) (he:∀cl fp s H C,XN K (bR X scope N cl fp s H C) elt te fe)
  (hsw:swapsWith (.ListComp elt [⟨tg,iter,ifs,0⟩] scope pos) (some (.Name y py)) spos.line X.env=pure true:=by rfl)
  (hs:∀x,foldedSetIterable iter X.env x=pure x:=by intro _;rfl) (hf:X.fn y=true∨X.env.scope.names.lookup y=some .local:=by first | exact .inl rfl | exact .inr rfl | assumption) :
  YS K X (.Assign [.Name y py] (.ListComp elt [⟨tg,iter,ifs,0⟩] scope pos) spos) (nO (Il wi 1 fr (cB 0) tc te) (cB i)) (bD i (cV fi fr fc fe)):=
 ⟨BW N 1 fr hcalm B hN hy hx hi.pi hg (λcl fp s H C=>(hc cl fp s H C).pts) (λcl fp s H C=>(he cl fp s H C).pe) hsw hs hf,Vt (Ph hi.ev (hc [] [] X.s₀ X.H₀ 0).ev (he [] [] X.s₀ X.H₀ 0).ev)⟩
def EvJ(K:aA)(wi:TI)(fi:FA):Prop:=∀(σ:St)(H:Hp)(e:DE)(ds:List D)(R:It→Hp→Prop),pD K H e σ→fi e=some ds →
 (∀J H' P vs,aN H H'→UJ J P vs→(∀H2,P H2)→(∀Z,cC K Z ds vs)→R J H')→wi σ H R
structure XJ(K:aA)(X:Cx)(tg iter:Expr)(wi:TI)(fi:FA):Prop where
 pi:PI X tg iter wi
 ev:EvJ K wi fi
theorem vR{tg:Expr}{p:Pos}(hg:Gl X "range") (hm:X.mg "range" = none) (ha:XA K X [a] tA fs) (hs:starEach [a] X.env=[(false,eval a X.env)]:=by rfl):XJ K X tg (.Call (.Name "range" p) [a] [] pos) (Uq tA) (nQ fs):=⟨Cj hg hm ha.pa hs,λσ H e ds R re q k=>by
 unfold nQ at q
 obtain⟨es,q1,q2⟩:=aU q
 split at q2
 ·rename_i n
  split at q2
  ·rename_i hl
   cases q2
   have hl:=Vr hl
   refine ha.ev σ H H e _ _ (Zn.self K H) re q1 λvs H1 Z1 s1 t1 z1 rs=>?_
   obtain⟨v,rfl,r⟩:=qC rs
   unfold Rv at r
   subst r
   exact⟨n,rfl,by omega,by omega,k _ H1 _ _ s1 Dc (λ_=>True.intro) λZ=>Dn 0 n.toNat⟩
  ·cases q2
 ·cases q2⟩
def qG(i:Nat)(fi:FA)(g:GS):GS:=λenv=>match fi (rE env)with
 | some xs=>rW i g xs env
 | none=>.bad
theorem DP{wi:TI}{fi:FA}{tb:TS}(hi:EvJ K wi fi)(h:DS K tb gb):DS K (Lb wi (cB i) tb) (qG i fi gb):=λB E σ H env r p=>by
 unfold qG at p
 split at p
 ·rename_i xs q
  refine hi σ H (rE env) xs _ r.r q λJ H1 P vs s hJ hP rvs=>?_
  have hl:=(rvs H).length
  refine Ff hJ (λk σ2 H2=>∃rY,Rel K B rY σ2 H2∧Bq K B E (rW i gb (xs.drop k) rY)) ⟨env,r.same s,by simpa using p⟩ (λk σ2 H2 _ _=>hP H2) ?_ ?_
  ·rintro k x σ2 H2 hx ⟨rY,r2,p2⟩
   have hk:k<xs.length:=by
    obtain⟨h1,_⟩:=C4.mp hx
    omega
   rw[L7 hk]at p2
   unfold rW at p2
   split at p2
   ·rename_i hlen
    obtain⟨A2,a2,b2⟩:=r2
    obtain⟨x',hx',rx⟩:=(rvs (out H2 A2)).get (B6 hk)
    rw[hx]at hx'
    cases hx'
    have r3:Rel K B (rY.set i (.fro xs[k])) (σ2.set i (some x)) H2:=Fx a2 b2 hlen (aN.refl _) (aN.refl _) (Fw a2) rx
    refine h B _ _ H2 _ r3 ?_
    split at p2
    ·rename_i env' q2;rw[q2];exact λσ' H' r'=>⟨env',r',p2⟩
    ·rename_i env' q2;rw[q2];exact λσ' H' r'=>⟨env',r',p2⟩
    ·rename_i env' q2;rw[q2];exact p2
    ·rename_i n1 n2 n3
     cases q2:gb (rY.set i (.fro xs[k]))with
     | next e=>exact absurd q2 (n1 e)
     | cont e=>exact absurd q2 (n2 e)
     | brk e=>exact absurd q2 (n3 e)
     | ret d=>rw[q2]at p2;exact p2
     | bad=>rw[q2]at p2;exact p2
     | rete d e=>rw[q2]at p2;exact p2
   ·exact p2.elim
  ·rintro σ2 H2 ⟨rY,r2,p2⟩
   rw[hl,T3]at p2
   exact p2 σ2 H2 r2
 ·exact p.elim
theorem Fz{tg iter:Expr}{body:List Stmt}{wi:TI}{fi:FA}{tb:TS}(hp:PassesOwn (model X.prog X.w) X.A X.env X.xe)(Ss:X.calm=true)(hi:XJ K X tg iter wi fi)(hg:PG X tg (cB i))(hb:YB K X body tb gb)
  (hs:∀x,foldedSetIterable iter X.env x=pure x:=by intro _;rfl):YS K X (.For tg iter body [] pos) (Lb wi (cB i) tb) (qG i fi gb):=⟨Ld hp Ss hi.pi hg hb.ps hs,DP hi.ev hb.ev⟩
end
theorem Mq{K:aA}{st:Stmt}{f:Addr}{fd:FuncData}(F:Zb K "law" "law" st f fd) (hb:∀(kV doc pm:Value)(an:Option Addr)(cdv ct:Value)(u:Value),bindArgs (G6 "law" "law" (fV st) (cQ st) (aM st) .none kV doc pm an cdv ct) ⟨[u],[]⟩=pure [(("script" : Str),u)]):∀(s:Shared)(u:Value),BindsTo s fd ⟨[u],[]⟩ [("script", u)]:=by
 obtain⟨oc,od,kV,doc,pm,an,cdv,ct,osl,rfl,lk,hcd⟩:=F.ex
 exact λs u=>.of_eq (hb kV doc pm an cdv ct u)
theorem Vx{K:aA}{h:Heap}{mg:Str→Option Value}{x:Str}{i:Int}{t:Tok}(X:K.In h)(G:h.Ns mainGlobals mg)(a:G7 K mainGlobals x=some (some (.int i t))):Pj mg x i:=⟨t,G4 X G a⟩
theorem Jh{K:aA}{h:Heap}{mg:Str→Option Value}{x:Str}{ns:List Int}{p:Addr}{od:Option Addr}{its:Array Value}{n:Nat}{osl:Array (Option Value)}(X:K.In h)(G:h.Ns mainGlobals mg)(a:G7 K mainGlobals x=some (some (.ref p)))
  (l:K.lookup p=some ⟨.type "tuple", od,.seq its n,osl⟩) (v:Vals (ns.map V.int) its.toList) (hs:ns.length≤100):wU K mg x ns:=
 ⟨p,G4 X G a,λH=>.inr ⟨_,its,n,l,rfl,rfl,by
  have h1:(ns.map V.int).length=its.toList.length:=v.length
  have h2:its.toList.length=its.size:=K8
  rw[B3]at h1
  exact jB (by omega),v⟩⟩
end L2


namespace L2
open PySem PySem.Spec PyProof.Rows
section
variable{K:aA}{X:Cx}{e a b c:Expr}{es:List Expr}{t ta tb te:TE}{f g:FE}{tA:TA}{fs:FA}{pos:Pos}{i j:Nat}{π:FP}{st:Stmt}
variable{lo hi:Option Expr}{tl th:TO}{fl fh:FO}{p2:Pos}
end
end L2


namespace L2
open PySem PySem.Spec PyProof.Rows
def Led(b:Bool)(t:SetTable):Prop:=t.led=b∧(t.plain=true→t.place.toList.Pairwise (·<·)∧t.dummies=#[])
end L2


namespace L2
open PySem PySem.Spec PyProof.Rows
section
variable{prog:Program}{w:World}{A:Around}{E:Value→Shared→Prop}{s:Shared}{b:Bool}
def aA7(prog:Program)(w:World)(b:Bool)(h:Heap)(a:Addr)(S:Int→Bool)(n:Nat):Prop:=
 ∃o es ep t,h.get? a=some o∧o.ExactSet∧o.data=.set es ep t∧ElemsOf (intKind prog w) es.toList∧(∀k,S k=true↔∃e∈es.toList,(intKind prog w).is k e.2=true)∧es.size<scanBound∧t.fits es.size=true∧es.size=n∧Led b t
end
section
variable{prog:Program}{w:World}{A:Around}{R:Result→Shared→Prop}{I:Addr}{fp wr:List Addr}{G:Array GenState→Array GenState→Prop}{n:Nat}{P:Nat→Value→Prop}{St:Nat→Shared→Prop}{b:Bool}
end
end L2


namespace L2
open PySem PySem.Spec PyProof.Rows
section
variable{prog:Program}{w:World}{A:Around}{E:Value→Shared→Prop}{s:Shared}
end
end L2


namespace L2
open PySem PySem.Spec PyProof.Rows
def SIt(h:Heap)(I:Addr)(f:Value)(i:Nat)(a:Addr)(n ep:Nat):Prop:=∃o,h.get? I=some o∧o.cls=.type "set_iterator" ∧ o.data=.fields #[f,.int (i:Int) 0,.ref a,.int (n:Int) 0,.int (ep:Int) 0]
def SAt(h:Heap)(a:Addr)(es:Array (Int×Value))(ep:Nat)(t:SetTable):Prop:=∃o,h.get? a=some o∧o.cls=.type "set" ∧ o.data=.set es ep t∧t.fits es.size=true
section
variable{prog:Program}{w:World}{A:Around}{E:Value→Shared→Prop}{s:Shared}{I a T:Addr}{f:Value}{i n ep:Nat}{es:Array (Int×Value)}{t:SetTable}
end
end L2


namespace L2
open PySem PySem.Spec PyProof.Rows
section
variable{prog:Program}{w:World}{A:Around}{E:Value→Shared→Prop}{s:Shared}{I a T:Addr}{f:Value}{i n ep:Nat}{es:Array (Int×Value)}{t:SetTable}
end
end L2


namespace L2
open PySem PySem.Spec PySem.Calls PyProof.Rows PyProof.V
section
variable{prog:Program}{w:World}{A:Around}{E:Value→Shared→Prop}{s:Shared}{I a T:Addr}{n:Nat}{S:Int→Bool}
end
end L2


namespace L2
open PySem PySem.Spec PySem.Calls PyProof.Rows PyProof.V
section
variable{X:Cx}{e:Expr}{t:TE}{x y:Str}{p p2 pos pos2:Pos}
end
end L2


namespace L2
open PySem PySem.Spec PySem.Calls PyProof.Rows PyProof.V
section
variable{prog:Program}{w:World}{A:Around}{E:Value→Shared→Prop}{s:Shared}{I l:Addr}
theorem NQ:∀{u v:List D},D.cT u=true→D.cT v=true→D.cT (u++v)=true
 | [],v,_,h=>h
 | x::u,v,h1,h2=>by
  unfold D.cT at h1
  rw[B4]at h1
  rw[M5]
  unfold D.cT
  rw[B4]
  exact⟨h1.1,NQ h1.2 h2⟩
end
section
variable{K:aA}{X:Cx}{e:Expr}{t:TE}{f:FE}{x y:Str}{p p2 pos pos2:Pos}
end
end L2


namespace L2
open PySem PySem.Spec PySem.Calls PyProof.Rows PyProof.V PySem.W Att
abbrev Small(k:Int):Prop:=Builtin.Int.intBits k≤1048576
theorem Vy{ns:List Int}(h:WData.layableAll [WData.list (ns.map WData.int)]=true):∀k∈ns,Small k:=λk hk=>by
 have h1:(WData.list (ns.map WData.int)).layable=true:=by simpa[WData.layableAll]using h
 obtain⟨c,_,w⟩:=layableW_iff.mp h1
 have c':WData.canLayAll (ns.map WData.int)=true:=by simpa[WData.canLay]using c
 have w':WData.weightAll (ns.map WData.int)≤2 ^ 20:=by simpa[WData.weight]using w
 have:=(items_part (M7.mpr ⟨k,hk,rfl⟩) c').2.2
 have e:(WData.int k).weight=Builtin.Int.intBits k:=by simp only[WData.weight,Builtin.Int.intBits]
 rw[e]at this
 exact F0 this w'
theorem Ji{l:OpenLaw}{n:Nat}{q:Program}{loose:List Str}{XP:(Str→Option Value)→Heap→Prop}{YP:World→Heap→Prop}{d:DefRec}(hn:l.most=some n)(hdf:d.params.defaults=[])
  (call:∀(w:World)(s₀ s₁:Shared)(mg mb:Str→Option Value)(fa:Addr)(o:Obj)(pm cd doc:Value)(a:Addr)(vs:List Value)(ns:List Int),Ground q loose [] XP w s₀ mg mb s₁.heap→YP w s₁.heap →
   s₁.heap.get? fa=some o→o.data=.func (docDef d.name d.params d.body d.scope pm cd doc)→s₁.heap.CodeRec cd d.name→mg d.name=some (.ref fa) →
   s₁.heap.get? a=some {cls:=.type "list", data:=.seq vs.toArray}→IntsAre vs ns→ns.length≤n→(∀k∈ns,Small k)→s₁.gens=#[] →
   codeAny (model l.prog w) callerA (.call (.ref fa) ⟨[.ref a],[]⟩) (λr s'=>r=.ok (.ret (.bool true))∧OldK s₁.heap s'.heap∧s'.os=s₁.os∧AllBare s'.gens) s₁) :
  WalkO q loose XP YP l.row.toRowW d [] (λf vs=>Y1 f vs):=by
 intro w s₀ s₁ mg mb G Y fa o pm cd doc dV kV ho hd hcd hD hmg hg args vals as hpre hlay hrd hwl hlo
 obtain rfl:dV=.none:=Dflts.none hD hdf
 obtain rfl:kV=.none:=Dflts.noKw hD
 obtain⟨a,vs,ns,rfl,rfl,hobj,hints,hlen⟩:=Rx hn hpre hwl
 refine enter_call (codeAny_mono (call w s₀ s₁ mg mb fa o pm cd doc a vs ns G Y ho (fd_plain hd) hcd hmg hobj hints hlen (Vy hlay) hg) λr s' hq=>?_)
 obtain⟨rfl,h2,h3,h4⟩:=hq
 exact⟨.inl ⟨.bool true,.bool true,[],rfl,λ_=>rfl,.bool true,Ry l _,λ_=>⟨List.Pairwise.nil,λ_ hm=>(nomatch hm)⟩⟩,h2,h3,h4⟩
theorem Su{l:Y2}{n k:Nat}{q:Program}{loose:List Str}{XP:(Str→Option Value)→Heap→Prop}{YP:World→Heap→Prop}{d:DefRec}{K:Params→aA}{CX:World→Ku}{sp:World→Sp}{x:Str}(hn:l.most=some n)(hn2:n≤sizeLine)(hdf:d.params.defaults=[])(hr:kI k callerA)
  (hY:∀(w:World)(h:Heap),YP w h→(K w.params).In h)
  (F:∀(w:World)(mg:Str→Option Value)(fa:Addr)(h:Heap),(K w.params).In h→h.Ns mainGlobals mg→mg d.name=some (.ref fa)→∃fd:FuncData,(∀(s:Shared)(u:Value),BindsTo s fd ⟨[u],[]⟩ [(x,u)])∧∀base:Heap,(K w.params).In base→base.Ns mainGlobals mg→uD l.prog w (K w.params) mg base (CX w) k fa fd [x] (sp w))
  (hsp:∀(w:World)(H:Hp)(a:Addr)(ns:List Int),ns.length≤n→(∀k∈ns,Small k)→Only H→mC (K w.params) H a (ns.map V.int)→sp w [.ref a] H (λv _=>v=.bl true) λ_ _ _=>False)
  (yw:∀(w:World)(H:Hp)(s:Shared)(e:Value)(s':Shared),CX w [] H s (λ_ _ _=>False) e s'→False) :
  Y7 q loose XP YP l.row.toRowW d [] (λf vs=>Y1 f vs):=by
 refine Ji hn hdf λw s₀ s₁ mg mb fa o pm cd doc a vs ns G Y ho hd hcd hmg hobj hints hlen hsm hg=>?_
 have KX:=hY w _ Y
 obtain⟨fd,hb,hF⟩:=F w mg fa _ KX G.T.g hmg
 exact Vd KX G.T.g G.T.b G.T.builtins G.T.nolimit hg hobj hints (F0 hlen hn2) hr hF hb (λH hO hS=>hsp w H a ns hlen hsm hO hS) λH e s'=>yw w H s₁ e s'
def zq(K:aA):Sp:=λvs H Q _=>∃(a:Addr)(ns:List Int),vs=[.ref a]∧mC K H a (ns.map V.int)∧ns.length≤63∧(∀k∈ns,Small k)∧∀H',Q (.bl true) H'
theorem Zb.okB{P:Program}{w:World}{K:aA}{mg:Str→Option Value}{base:Heap}{x:Str}{st:Stmt}{N:List Str}{k:Nat}{g:GS}{f:Addr}{fd:FuncData}(F:Zb K x x st f fd)(S:bO N ["script"] (aM st))
  (hbody:∀(cdv:Value)(A:Around)(outer:List Env)(s:Shared)(H:Hp)(E:XK),kI k (A.deeper (envOfC x (aM st) s.heap.objs.size f cdv))→∃t,YB K (jL Ue P w K mg base N x (aM st) f cdv A outer s H E).RC (cQ st) t g)
  (XD:∀ns:List Int,ns.length≤63→(∀k∈ns,Small k)→lJ N.length 1 g [.lst (ns.map D.int)]=some (.bl true)):uD P w K mg base Ue (k+1) f fd ["script"] (zq K):=by
 refine F.ok S (λvs H Q E h=>?_) (λcdv A outer s H vs Q E hr h=>?_)
 ·obtain⟨a,ns,rfl,_⟩:=h
  rfl
 obtain⟨a,ns,rfl,hS,hl,hb,q⟩:=h
 obtain⟨t,yb⟩:=hbody cdv A outer s H E hr
 have h3:=XD ns hl hb
 have rv:cC K H [.lst (ns.map D.int)] [.ref a]:=by
  unfold cC
  exact⟨_,_,rfl,by unfold Rv;exact⟨a,_,rfl,hS,kW.mpr rfl⟩,by unfold cC;rfl⟩
 refine⟨t,yb.ps,yb.ev H _ _ H ([D.lst (ns.map D.int)].map SD.fro++B9 (N.length-1) SD.no) (vQ rv) ?_⟩
 unfold lJ at h3
 rw[if_pos (show [D.lst (ns.map D.int)].length=1 from rfl)]at h3
 cases qq:g ([D.lst (ns.map D.int)].map SD.fro++B9 (N.length-1) SD.no)with
 | ret d'=>
  rw[qq]at h3
  cases h3
  refine λv H' A' s' o=>?_
  have:=Ow.rv _ _ _ o
  unfold Rv at this
  subst this
  exact q _
 | _=>
  rw[qq]at h3
  cases h3
section
variable{K:aA}{X:Cx}{e a b c:Expr}{es:List Expr}{t ta tb te:TE}{f g:FE}{pos:Pos}
def NT(i j:Int):Prop:=Builtin.Int.intBits i≤4000000∧Builtin.Int.intBits j≤4000000
instance (i j:Int):Decidable (NT i j):=by unfold NT;exact inferInstance
variable{lo hi:Option Expr}{tl th:TO}{fl fh:FO}{p2:Pos}
end
end L2


namespace L2
open PySem PySem.Spec PySem.Calls PyProof.Rows PyProof.V
section
variable{K:aA}{X:Cx}
end
end L2


namespace L2
open PySem PySem.Spec PySem.Calls PyProof.Rows PyProof.V
section
variable{X:Cx}{pins:List (Addr×Obj)}{σ:St}{H:Hp}{s:Shared}{h':Heap}
end
section
variable{K:aA}{X:Cx}{e a b c:Expr}{es:List Expr}{t ta tb te:TE}{f g fe:FE}{tc:TT}{fc:FT}{pos p p2:Pos}{x:Str}
end
end L2


namespace L2
open PySem PySem.Spec PySem.Calls PyProof.Rows PyProof.V
section
variable{K:aA}{B H:Hp}{env:EN}{σ:St}{i:Nat}{v:V}{d:D}
end
section
variable{K:aA}{X:Cx}{st:Stmt}{sts:List Stmt}{t u tb:TS}{g g1 g2:GS}{e a b c:Expr}{es:List Expr}{te ta t0:TE}{f f0 fa fb:FE}{gk:FE}{tA:TA}{fs:FA}{tc:TT}{fc:FT}{pos:Pos}{i:Nat}{π:FP}
end
end L2


namespace L2
open PySem PySem.Spec PySem.Calls PyProof.Rows PyProof.V
section
variable{α β:Type}{R:α→Fp→β→Prop}
theorem gA.Vz:∀{ds:List α} {A:Fp} {ys:List β} {d:α} {y:β},gA R (ds++[d]) A (ys++[y])→∃A0 A1,gA R ds A0 ys∧R d A1 y∧Apart A0 A1∧Is A (gZ A0 A1)
  | [],A,ys,d,y,h=>by
    obtain⟨y0,yt,A1,A2,h1,h2,h3,h4,h5,h6⟩:=h
    subst h6
    cases ys with
    | nil=>
      cases h1
      exact⟨nil,A1,⟨λ_ z=>z,rfl⟩,h4,λ_ z=>z.elim,λx=>⟨λq=>((h3 x).mp q).elim .inr λz=>absurd z (h5 x),λq=>q.elim False.elim λz=>(h3 x).mpr (.inl z)⟩⟩
    | cons z zs=>
      injection h1 with _ h1
      cases zs<;>cases h1
  | d0::ds,A,ys,d,y,h=>by
    obtain⟨y0,yt,A1,A2,h1,h2,h3,h4,h5⟩:=h
    have hl:=h5.len
    cases ys with
    | nil=>
      injection h1 with _ h1
      subst h1
      have hl:0=(ds++[d]).length:=hl
      rw[C6]at hl
      simp at hl
    | cons z zs=>
      injection h1 with e1 e2
      subst e1 e2
      obtain⟨B0,B1,k1,k2,k3,k4⟩:=gA.Vz h5
      refine⟨gZ A1 B0,B1,⟨z,zs,A1,B0,rfl,λx q q'=>h2 x q ((k4 x).mpr (.inl q')),λx=>Iff.rfl,h4,k1⟩,k2,λx q q'=>?_,λx=>?_⟩
      · rcases q with q | q
        · exact h2 x q ((k4 x).mpr (.inr q'))
        · exact k3 x q q'
      · rw[h3 x]
        constructor
        · rintro(q | q)
          · exact .inl (.inl q)
          · exact((k4 x).mp q).elim (λz=>.inl (.inr z)) .inr
        · rintro((q | q) | q)
          · exact .inl q
          · exact .inr ((k4 x).mpr (.inl q))
          · exact .inr ((k4 x).mpr (.inr q))
end
section
variable{K:aA}{B H H':Hp}{env:EN}{σ:St}{i:Nat}{v:V}{d:D}
theorem Rel.give(h:Rel K B env σ H)(e:env[i]?=some (.own d)):∃v,σ[i]?=some (some v)∧Rel K B (env.set i .no++[.own d]) (σ++[some v]) H:=by
 obtain⟨A,a,b⟩:=h
 obtain⟨y,A1,C,h1,h2,h3,h4,k⟩:=a.focus e
 obtain⟨v,rfl,o⟩:=h4
 have eA:A=gZ A1 C:=funext λx=>propext (h3 x)
 subst eA
 have s:=k _ (λ_ _ _ _ q=>q) .no (some v) nil (λ_ z=>z.elim) (λ_ z=>z)
 rw[set_same h1]at s
 have s2:=gA.snoc (d:=SD.own d) (y:=some v) (A1:=A1) s ⟨v,rfl,o⟩ (λx q q'=>q.elim False.elim (h2 x q'))
 have eA2:(gZ (gZ nil C) A1)=gZ A1 C:=funext λx=>propext ⟨λq=>q.elim (λq=>q.elim False.elim .inr) .inl,λq=>q.elim .inr λq=>.inl (.inr q)⟩
 rw[eA2]at s2
 exact⟨v,h1,_,s2,b⟩
end
def Sv:GS:=λ_=>.bad
theorem zB{K:aA}{X:Cx}{st:Stmt}:YS K X st yM Sv:=⟨Uo,λ_ _ _ _ _ _ p=>p.elim⟩
section
variable{K:aA}{X:Cx}{st:Stmt}{sts:List Stmt}{t u tb:TS}{g g1 g2:GS}{e a b c o:Expr}{es:List Expr}{te ta t0 tv:TE}{f f0 fa fb:FE}{gk:FE}{tA:TA}{fs:FA}{tc:TT}{fc:FT}{pos apos:Pos}{i:Nat}{π:FP}
structure aBa(K:aA)(C:Addr)(nm:List Str):Prop where
 cl:vm K C
 no:∀f∈nm,RZ K C f
end
section
variable{K:aA}{B H:Hp}{env:EN}{σ:St}
end
section
variable{K:aA}{X:Cx}{st:Stmt}{sts:List Stmt}{t u tb:TS}{g g1 g2:GS}{e a b c o:Expr}{es:List Expr}{te ta t0 tv:TE}{f f0 fa fb:FE}{gk:FE}{tA:TA}{fs:FA}{tc:TT}{fc:FT}{pos apos:Pos}{i:Nat}{π:FP}
end
end L2


namespace L2
open PySem PySem.Spec PySem.Calls PyProof.Rows PyProof.V
section
variable{K:aA}{B H H':Hp}{env:EN}{σ:St}{i:Nat}{p:List Step}{d0 d:D}
end
abbrev GM:=EN→Option (D×EN)
def EvM(K:aA)(t:TE)(g:GM):Prop:=∀(B:Hp)(σ:St)(H:Hp)(env:EN)(d:D)(env':EN)(Q:VK),Rel K B env σ H→g env=some (d,env')→(∀v H',Rel K B (env'++[.own d]) (σ++[some v]) H'→Q v H')→t σ H Q
structure XM(K:aA)(X:Cx)(e:Expr)(t:TE)(g:GM):Prop where
 hk:X.K=K
 pe:PE X e t
 ev:EvM K t g
abbrev GB:=EN→Option (Bool×EN)
def nu(K:aA)(t:TT)(g:GB):Prop:=∀(B:Hp)(σ:St)(H:Hp)(env:EN)(b:Bool)(env':EN)(Q:Bool→Hp→Prop),Rel K B env σ H→g env=some (b,env')→(∀H',Rel K B env' σ H'→Q b H')→t σ H Q
structure XTM(K:aA)(X:Cx)(e:Expr)(t:TT)(g:GB):Prop where
 hk:X.K=K
 pt:PT X e t
 ev:nu K t g
structure XWM(K:aA)(X:Cx)(e:Expr)(t:TT)(g:GB):Prop where
 hk:X.K=K
 pw:PW X e t
 ev:nu K t g
abbrev FA2:=DE→DE→Option (List D)
def zr(K:aA)(t:TA)(fs:FA2):Prop:=∀(A1:Fp)(σ:St)(H:Hp)(eF eZ:DE)(ds:List D)(Q:List V→Hp→Prop),(∀x,A1 x→pR H x)→pD K H eF σ→pD K (out H A1) eZ σ→fs eF eZ=some ds →
 (∀vs H',aN H H'→cC K (out H' A1) ds vs→Q vs H')→t σ H Q
structure XAB(K:aA)(X:Cx)(es:List Expr)(t:TA)(fs:FA2):Prop where
 hk:X.K=K
 pa:PA X es t
 ev:zr K t fs
section
variable{K:aA}{X:Cx}{st:Stmt}{sts:List Stmt}{t u tb:TS}{g:GM}{g1 g2:GS}{e a b c o:Expr}{es rest:List Expr}{te ta t0 tv:TE}{f f0 fa fb:FE}{tA:TA}{fs:FA2}{tc td:TT}{fc:FT}{gb gc:GB}{pos apos:Pos}{i:Nat}{π:FP}
structure aBc(P:Program)(w:World)(K:aA)(mg:Str→Option Value)(base:Heap)(C:Addr)(m:Str)(k n:Nat)(df:Bool)(sp:Sp):Prop where
 ex:∃f fd ps,ps.length=n∧uD P w K mg base Ue k f fd ps sp∧Binds K fd ps []∧(df=true→Binds K fd ps [Value.none])∧Meth K C m f
structure aBd(P:Program)(w:World)(K:aA)(mg:Str→Option Value)(base:Heap)(x:Str)(C:Addr)(k n:Nat)(sp:Sp):Prop where
 ex:∃f fd ps,ps.length=n∧uD P w K mg base Ue k f fd ps sp∧Binds K fd ps []∧Mk K C f∧mg x=some (.ref C)
end
end L2


namespace L2
open PySem PySem.Spec PySem.Calls PyProof.Rows PyProof.V
def zu(K:aA)(dN:Bool)(dV:Value):Prop:=match dN with
 | false=>dV=.none
 | true=>∃T o n,dV=.ref T∧K.lookup T=some o∧o.data=.seq #[.none] n
structure oh(K:aA)(f:Addr)(m q:Str)(st:Stmt)(dN:Bool):Prop where
 ex:∃(oc:Value)(od:Option Addr)(dV kV doc pm:Value)(an:Option Addr)(cdv ct:Value)(osl:Array (Option Value)),
  K.lookup f=some ⟨oc,od,.func (G6 m q (fV st) (cQ st) (aM st) dV kV doc pm an cdv ct),osl⟩∧N7 K cdv q=true∧zu K dN dV
structure aBe(K:aA)(C:Addr)(m q:Str)(st:Stmt)(dN:Bool):Prop where
 ex:∃f,oh K f m q st dN∧Meth K C m f
structure aBf(K:aA)(mg:Str→Option Value)(x:Str)(C:Addr)(q:Str)(st:Stmt):Prop where
 ex:∃f,oh K f "__init__" q st false∧Mk K C f∧mg x=some (.ref C)
def HB(x q:Str)(st:Stmt)(ps:List Str):Prop:=∀(kV doc pm:Value)(an:Option Addr)(cdv ct:Value)(us:List Value),us.length=ps.length→bindArgs (G6 x q (fV st) (cQ st) (aM st) .none kV doc pm an cdv ct) ⟨us,[]⟩=pure (ps.zip us)
def HBD(x q:Str)(st:Stmt)(ps:List Str):Prop:=∀(T:Addr)(kV doc pm:Value)(an:Option Addr)(cdv ct:Value)(us:List Value),(us.length=ps.length→∃k,bindArgs (G6 x q (fV st) (cQ st) (aM st) (.ref T) kV doc pm an cdv ct) ⟨us,[]⟩=seqItems? (Value.ref T) >>= k∧k (some #[Value.none])=pure (ps.zip us)) ∧
 (us.length+1=ps.length→∃k,bindArgs (G6 x q (fV st) (cQ st) (aM st) (.ref T) kV doc pm an cdv ct) ⟨us,[]⟩=seqItems? (Value.ref T) >>= k∧k (some #[Value.none])=pure (ps.zip (us++[Value.none])))
def HBs(dN:Bool)(x q:Str)(st:Stmt)(ps:List Str):Prop:=match dN with
 | false=>HB x q st ps
 | true=>HBD x q st ps
section
variable{P:Program}{w:World}{K:aA}{mg:Str→Option Value}{base:Heap}
end
section
variable{K:aA}{X:Cx}{st:Stmt}{g g1 g2 gb:GS}{e a b c o:Expr}{es rest:List Expr}{te ta tb tc t0 tv:TE}{f f0 fa fb fc:FE}{tA:TA}{fs:FA}{pos apos:Pos}{i j:Nat}{π:FP}{tbs:TS}
def Mr(φ φ':D→D→Option D)(f g h:FE):FT:=λe=>(f e).bind λa=>(g e).bind λb=>(φ a b).bind λr=>match r with
  | .bl true=>(h e).bind λc=>(φ' b c).bind λr2=>match r2 with | .bl k=>some k | _=>none
  | .bl false=>some false
  | _=>none
theorem Jj{op op':CmpOp}{r r':R2}{φ φ':D→D→Option D}(ho:lQ X (compareOp op) r)(ho':lQ X (compareOp op') r')(hd:Dj K r φ)(hd':Dj K r' φ')(ha:XR K X a ta fa)(hb:XR K X b tb fb)(hc:XR K X c tc fc)(hm:lastMarks [op,op'] [b,c]=false:=by with_unfolding_all rfl):XT K X (.Compare a [op,op'] [b,c] pos) (Ie (Er r r' ta tb tc)) (Mr φ φ' fa fb fc):=⟨ha.hk,Uv ho ho' ha.pe hb.pe hc.pe hm,λσ H e k Q re q kk=>by
 obtain⟨d1,q1,q⟩:=aU q
 obtain⟨d2,q2,q⟩:=aU q
 obtain⟨d3,q3,q⟩:=aU q
 refine ha.ev σ H H e d1 _ (Zn.self K H) re q1 λx H1 Z1 s1 t1 z1 rx=>hb.ev σ H1 H1 e d2 _ (Zn.self K H1) (re.same s1) q2 λy H2 Z2 s2 t2 z2 ry=>?_
 refine hd x y H2 d1 d2 d3 _ (s2.rv _ _ (z1.sm.rv _ _ rx)) (z2.sm.rv _ _ ry) q3 λz H3 s3 n=>?_
 have rz:=n.rv
 split at q
 ·obtain⟨d4,q4,q⟩:=aU q
  obtain⟨d5,q5,q⟩:=aU q
  unfold Rv at rz
  refine⟨true,rz,?_⟩
  rw[if_pos rfl]
  refine hc.ev σ H3 H3 e d4 _ (Zn.self K H3) (re.same (s1.trans (s2.trans s3))) q4 λw H4 Z4 s4 t4 z4 Li=>?_
  refine hd' y w H4 d2 d4 d5 _ ((s3.trans s4).rv _ _ (z2.sm.rv _ _ ry)) (z4.sm.rv _ _ Li) q5 λv H5 s5 n5=>?_
  have r5:=n5.rv
  split at q
  ·cases q
   unfold Rv at r5
   exact⟨_,r5,kk H5 (s1.trans (s2.trans (s3.trans (s4.trans s5))))⟩
  ·cases q
 ·cases q
  unfold Rv at rz
  refine⟨false,rz,?_⟩
  rw[if_neg (by decide)]
  exact⟨_,rfl,kk H3 (s1.trans (s2.trans s3))⟩
 ·cases q⟩
end
end L2


namespace L2
open PySem PySem.Spec PySem.Calls PyProof.Rows PyProof.V
section
variable{K:aA}{B H:Hp}{env:EN}{σ:St}
end
abbrev FK:=DE→Option (List Key)
def EvK(K:aA)(t:TE)(fk:FK):Prop:=∀(σ:St)(H:Hp)(e:DE)(k:List Key)(Q:VK),pD K H e σ→fk e=some k→(∀b H',aN H H'→H' b=some (.tup (k.map kV))→Q (.ref b) H')→t σ H Q
structure XKt(K:aA)(X:Cx)(e:Expr)(t:TE)(fk:FK):Prop where
 hk:X.K=K
 pe:PE X e t
 ev:EvK K t fk
section
variable{K:aA}{X:Cx}{st:Stmt}{e a b c o:Expr}{es rest:List Expr}{te ta tb tc t0 tv:TE}{f fa fb:FE}{g:FK}{gd:FE}{tA:TA}{fs:FA}{pos apos:Pos}{i j:Nat}{π:FP}{tbs:TS}
def zy(K:aA)(t:TA)(fs:FA)(i:Nat):Prop:=∀(σ:St)(H:Hp)(e:DE)(ds:List D)(v:V)(Q:List V→Hp→Prop),pD K H e σ→fs e=some ds→σ[i]?=some (some v)→(∀vs H',aN H H'→Bm K H H' ds vs→Q (vs++[v]) H')→t σ H Q
structure XBm(K:aA)(X:Cx)(es:List Expr)(t:TA)(fs:FA)(i:Nat):Prop where
 hk:X.K=K
 pa:PA X es t
 ev:zy K t fs i
end
end L2


namespace L2
open PySem PySem.Spec PySem.Calls PyProof.Rows PyProof.V
section
variable{K:aA}{X:Cx}{st:Stmt}{e a b c o:Expr}{es rest:List Expr}{te ta tb tc t0 tv:TE}{f fa fb g:FE}{gk:FK}{gd:FE}{tA:TA}{fs:FA}{pos apos:Pos}{i j:Nat}{π:FP}{tbs:TS}{gm:GM}
end
end L2
namespace L2
open PySem PySem.Spec PySem.Calls PyProof.Rows PyProof.V
def D.Wa:D→Bool
 | .non=>true
 | _=>false
theorem Wb{K:aA}{H:Hp}{d:D}{v:V}(r:Rv K H d v):decide (v=.non)=d.Wa:=by
 cases d with
 | non=>unfold Rv at r;subst r;rfl
 | bl b=>unfold Rv at r;subst r;rfl
 | int b=>unfold Rv at r;subst r;rfl
 | str b=>unfold Rv at r;subst r;rfl
 | lst ds=>unfold Rv at r;obtain⟨a,xs,rfl,_⟩:=r;rfl
 | tup ds=>unfold Rv at r;obtain⟨a,xs,rfl,_⟩:=r;rfl
 | dk ks ds=>unfold Rv at r;obtain⟨a,xs,rfl,_⟩:=r;rfl
 | dt ks ds=>unfold Rv at r;obtain⟨a,xs,rfl,_⟩:=r;rfl
 | ins C nm ds=>unfold Rv at r;obtain⟨a,dx,xs,rfl,_⟩:=r;rfl
def XF(neg:Bool)(a b:D):Option D:=match b with
 | .non=>some (.bl (if neg then !a.Wa else a.Wa))
 | _=>none
theorem XH{K:aA}:Dj K (λx y H Q=>y=.non∧Q (.bl (decide (x=.non))) H) (XF false):=λx y H a b d Q ra rb q k=>by
 unfold XF at q
 split at q
 ·cases q
  unfold Rv at rb
  refine⟨rb,?_⟩
  rw[Wb ra]
  exact k _ H (aN.refl _) (.eX rfl (by unfold Rv;rfl))
 ·cases q
end L2


namespace L2
open PySem PySem.Spec PySem.Calls PyProof.Rows PyProof.V
section
variable{K:aA}{X:Cx}{e stx:Expr}{te ts:TE}{f g:FE}{pos p2:Pos}
end
end L2


namespace L2
open PySem PySem.Spec PySem.Calls PyProof.Rows PyProof.V
abbrev FE2:=DE→DE→Option D
def EvZ(K:aA)(t:TE)(f:FE2):Prop:=∀{N:Fp}(σ:St)(H Z:Hp)(eF eZ:DE)(d:D)(Q:VK),Zn K N Z H→pD K H eF σ→pD K Z eZ σ→f eF eZ=some d →
 (∀v H' Z',aN H H'→aN Z Z'→Zn K N Z' H'→Rv K Z' d v→Q v H')→t σ H Q
def aAa(K:aA)(t:TA)(f:FA2):Prop:=∀{N:Fp}(σ:St)(H Z:Hp)(eF eZ:DE)(ds:List D)(Q:List V→Hp→Prop),Zn K N Z H→pD K H eF σ→pD K Z eZ σ→f eF eZ=some ds →
 (∀vs H' Z',aN H H'→aN Z Z'→Zn K N Z' H'→cC K Z' ds vs→Q vs H')→t σ H Q
structure XZ(K:aA)(X:Cx)(e:Expr)(t:TE)(f:FE2):Prop where
 hk:X.K=K
 pe:PE X e t
 ev:EvZ K t f
structure XZA(K:aA)(X:Cx)(es:List Expr)(t:TA)(f:FA2):Prop where
 hk:X.K=K
 pa:PA X es t
 ev:aAa K t f
section
variable{K:aA}{X:Cx}{e a b:Expr}{es:List Expr}{te ta tb:TE}{f:FE}{g h:FE2}{tA:TA}{fs:FA2}{pos:Pos}{i:Nat}
end
end L2


namespace L2
open PySem PySem.Spec PySem.Calls PyProof.Rows PyProof.V
inductive Ar where
  | ch (i:Nat) | rd (f:FE) | nw (f:FE)
def wk:List Ar→List Nat
 | []=>[]
 | .ch i::as=>i::wk as
 | .rd _::as=>wk as
 | .nw _::as=>wk as
def wu:List Ar→DE→DE→Option (List D)
 | [],_,_=>some []
 | .ch _::as,eF,eZ=>wu as eF eZ
 | .rd f::as,eF,eZ=>(f eZ).bind λd=>(wu as eF eZ).map λr=>d::r
 | .nw f::as,eF,eZ=>(f eF).bind λd=>(wu as eF eZ).map λr=>d::r
def Pk(K:aA)(Z:Hp)(σ:St):List Ar→List D→List V→Prop
 | [],ds,vs=>ds=[]∧vs=[]
 | .ch i::as,ds,vs=>∃v r,vs=v::r∧σ[i]?=some (some v)∧Pk K Z σ as ds r
 | .rd _::as,ds,vs=>∃d dr v r,ds=d::dr∧vs=v::r∧Rv K Z d v∧Pk K Z σ as dr r
 | .nw _::as,ds,vs=>∃d dr v r,ds=d::dr∧vs=v::r∧Rv K Z d v∧Pk K Z σ as dr r
def VsA(σ:St):List Nat→List V→Prop
 | [],vs=>vs=[]
 | j::js,vs=>∃v r,vs=v::r∧σ[j]?=some (some v)∧VsA σ js r
section
variable{K:aA}{X:Cx}{e:Expr}{es:List Expr}{te:TE}{f:FE}{tA:TA}{as:List Ar}{pos:Pos}{i:Nat}
def aAb(K:aA)(t:TA)(as:List Ar):Prop:=∀(A1:Fp)(σ:St)(H:Hp)(eF eZ:DE)(ds:List D)(cv:List V)(Q:List V→Hp→Prop),(∀x,A1 x→pR H x)→pD K H eF σ→pD K (out H A1) eZ σ→VsA σ (wk as) cv→wu as eF eZ=some ds →
 (∀vs H',aN H H'→Pk K (out H' A1) σ as ds vs→Q vs H')→t σ H Q
structure XAC(K:aA)(X:Cx)(es:List Expr)(t:TA)(as:List Ar):Prop where
 hk:X.K=K
 pa:PA X es t
 ev:aAb K t as
end
section
variable{K:aA}{H H' Z Z' B:Hp}{σ:St}
end
section
variable{K:aA}{X:Cx}{e:Expr}{es:List Expr}{tA:TA}{as:List Ar}{pos pf:Pos}
end
section
variable{P:Program}{w:World}{K:aA}{mg:Str→Option Value}{base:Heap}
end
section
variable{K:aA}{X:Cx}{a b:Expr}{rest:List Expr}{ta tb:TE}{g h:GM}{f:FE}{pos:Pos}
end
end L2


namespace L2
open PySem PySem.Spec PySem.Calls PyProof.Rows PyProof.V
section
variable{prog:Program}{w:World}{A:Around}{R:Result→Shared→Prop}{I:Addr}{fp wr:List Addr}{n:Nat}{P:Nat→Value→Prop}{St:Nat→Heap→Prop}{kw:List (Str×Value)}
end
section
variable{prog:Program}{w:World}{A:Around}{E:Value→Shared→Prop}{s:Shared}
end
section
variable{K:aA}{X:Cx}{e e2:Expr}{te t2:TE}{f g:FE}{x:Str}{p pos kp:Pos}
end
end L2


namespace L2
open PySem PySem.Spec PySem.Calls PyProof.Rows PyProof.V
section
variable{X:Cx}
def xW:V→List V→Hp→VK→Prop:=λx vs H Q=>∃l xs i y,x=.ref l∧vs=[.int i,y]∧H l=some (.lst xs)∧0≤i∧i.toNat≤xs.length∧xs.length<sizeLine∧Q .non (upd H l (.lst (xs.take i.toNat++y::xs.drop i.toNat)))
theorem Sw:yr X "list.insert" xW:=by
 intro pins s σ H x vs v us Q I rx rv h
 obtain⟨l,xs,i,y,rfl,rfl,hH,h0,h1,hz,q⟩:=h
 cases rx
 obtain⟨u1,u2,rfl,ru1,ru2⟩:=rv.two
 obtain⟨t,rfl⟩:=ru1
 obtain⟨z,its,n,r,hl,e⟩:=I.BL hH
 have hsl:sizeLine<2 ^ 62:=by decide
 refine call_meets F.slot_list_insert ⟨_,e,rfl⟩ F.entry_list_insert (F.args_list_insert_3 _ _ _) (AutoSeq1.list_insert_list_int_val_1 l its.toArray n i t u2 (by rw[fitsIndex_both (by omega) (by omega)];decide) (by rw[B7];omega)) ⟨e,?_⟩
 refine⟨.non,_,I.TX (its':=its.take i.toNat++u2::its.drop i.toNat) hH e ?_ ((r.take _).append (.cons ru2 (r.drop _))) ?_,rfl,q⟩
 ·show (its.toArray.extract 0 (if i<0 then(i+(its.toArray.size:Int)).toNat else min i.toNat its.toArray.size)).push u2++its.toArray.extract (if i<0 then(i+(its.toArray.size:Int)).toNat else min i.toNat its.toArray.size)=_
  rw[if_neg (by omega),B7,show min i.toNat its.length=i.toNat by omega]
  apply Array.ext'
  simp
  exact P8 (by rw[M4];omega)
 ·rw[C6,G8,J9,M4]
  omega
end
section
variable{K:aA}{X:Cx}{a b e:Expr}{ta tb te:TE}{f g:FE}{i:Nat}{π:FP}{pos apos cpos:Pos}{m:Str}
def Ms(i:Nat)(π:FP)(g f:FE):GS:=λenv=>match env[i]?,π (rE env),g (rE env),f (rE env)with
 | some (.own d0),some p,some (.int k),some (.int y)=>(match qF p d0 with
  | some (.lst ds)=>(match intsOf ds with
   | some ns=>if 0≤k∧k.toNat≤ns.length∧ns.length<1000 then .next (env.set i (.own (oU p d0 (.lst ((ns.take k.toNat++y::ns.drop k.toNat).map D.int)))))else .bad
   | none=>.bad)
  | _=>.bad)
 | _,_,_,_=>.bad
theorem XQ(h:ni K ta i π)(hx:Dg K tb g)(he:Dg K te f):WR K (nM (Bl K "list" xW ta (bV tb (bV te iM)))) (Ms i π g f):=λB E σ H env r p=>by
 unfold Ms at p
 split at p
 ·rename_i d0 pp k y q1 q2 q3 zp
  split at p
  ·rename_i ds q4
   split at p
   ·rename_i ns q5
    split at p
    ·rename_i hc
     obtain⟨c0,c1,c2⟩:=hc
     obtain⟨v0,a,xs,Bs,k1,k2,k3,k4,k5,k6⟩:=r.Vu q1 q4
     have ed:=qD q5
     subst ed
     have ex:=kW.mp (gB.rv _ _ _ k5)
     subst ex
     refine h σ H (rE env) v0 pp _ _ r.r k1 q2 k2 λH1 s1=>⟨.inl ⟨rfl,_,mC.of (s1 _ _ k3)⟩,?_⟩
     refine hx σ H1 H1 (rE env) _ _ (Zn.self K H1) (r.r.same s1) q3 λu H2 Z2 s2 t2 z2 ru=>he σ H2 H2 (rE env) _ _ (Zn.self K H2) (r.r.same (s1.trans s2)) zp λw H3 Z3 s3 t3 z3 Li=>?_
     unfold Rv at ru Li
     subst ru Li
     have gr:=s1.trans (s2.trans s3)
     refine⟨a,_,k,.int y,rfl,rfl,gr _ _ k3,c0,by rw[B3];exact c1,Iu (by rw[B3];omega),p _ ?_⟩
     have e:(ns.map V.int).take k.toNat++V.int y::(ns.map V.int).drop k.toNat=(ns.take k.toNat++y::ns.drop k.toNat).map V.int:=by rw[G5,D7,List.map_take,List.map_drop]
     rw[e]
     exact k6 H3 _ _ nil gr (uF _ _ (gF _) (kW.mpr rfl)) λb z=>z.elim
    ·exact p.elim
   ·exact p.elim
  ·exact p.elim
 ·exact p.elim
theorem XS(h:XP K X a ta i π)(hx:XR K X b tb g)(he:XR K X e te f)(hp:PE X a ta→PE X b tb→PE X e te→PS X (.Expr (.Call (.Attribute a m apos) [b,e] [] cpos) pos) (nM (Bl K "list" xW ta (bV tb (bV te iM))))):YS K X (.Expr (.Call (.Attribute a m apos) [b,e] [] cpos) pos) (nM (Bl K "list" xW ta (bV tb (bV te iM)))) (Ms i π g f):=⟨hp h.pe hx.pe he.pe,(XQ h.ev hx.ev he.ev).ds⟩
end
end L2


namespace L2
open PySem PySem.Spec PySem.Calls PyProof.Rows PyProof.V
def XX(ks:List Key)(vs:List V):List (V×V):=(ks.zip vs).map λkv=>(kV kv.1,kv.2)
def aAc(K:aA)(t:List (TE×TE))(ks:List Key)(is:List Nat)(fs:FA):Prop:=∀(σ:St)(H:Hp)(e:DE)(ds:List D)(xs:List V)(Q:List (V×V)→Hp→Prop),pD K H e σ→fs e=some ds→xs.length=is.length →
 (∀(k i:Nat),is[k]?=some i→∃x,xs[k]?=some x∧σ[i]?=some (some x))→(∀vs H',aN H H'→Bm K H H' ds vs→Q (XX ks (xs++vs)) H')→Lk t σ H Q
structure XDm(K:aA)(X:Cx)(p:Pos)(keys:List (Option Expr))(vals:List Expr)(t:List (TE×TE))(ks:List Key)(is:List Nat)(fs:FA):Prop where
 hk:X.K=K
 pps:PPs X p keys vals t
 ev:aAc K t ks is fs
section
variable{K:aA}{X:Cx}{st:Stmt}{e:Expr}{vals:List Expr}{keys:List (Option Expr)}{te:TE}{f:FE}{fs:FA}{pos p p1:Pos}{i j:Nat}{t:List (TE×TE)}{ks:List Key}{is:List Nat}{x:Str}
end
section
variable{X:Cx}{K:aA}{x y:Str}{p p2 pos pos2:Pos}{a b:Expr}{t:TA}{fs:FA}
end
end L2


namespace L2
open PySem PySem.Spec PySem.Calls PyProof.Rows PyProof.V
section
variable{K:aA}{X:Cx}{a e:Expr}{ta te:TE}{f:FE}{π:FP}{i:Nat}{m:Str}{apos cpos pos:Pos}
def zF(i:Nat)(π:FP)(f:FE):GS:=λenv=>match env[i]?,π (rE env),f (rE env)with
 | some (.own d0),some p,some (.int k)=>(match qF p d0 with
  | some (.lst ds)=>(match intsOf ds with
   | some ns=>if 0≤k∧k.toNat<ns.length∧ns.length<1000 then .next (env.set i (.own (oU p d0 (.lst ((ns.eraseIdx k.toNat).map D.int)))))else .bad
   | none=>.bad)
  | _=>.bad)
 | _,_,_=>.bad
theorem zG{α β:Type}(φ:α→β):∀(l:List α)(k:Nat),(l.map φ).eraseIdx k=(l.eraseIdx k).map φ
 | [],k=>by simp
 | a::l,0=>by simp
 | a::l,k+1=>by simp[zG φ l k]
theorem DQ(h:ni K ta i π)(he:Dg K te f):WR K (nM (Bl K "list" Fb ta (bV te iM))) (zF i π f):=λB E σ H env r p=>by
 unfold zF at p
 split at p
 ·rename_i d0 pp k q1 q2 q3
  split at p
  ·rename_i ds q4
   split at p
   ·rename_i ns q5
    split at p
    ·rename_i hc
     obtain⟨c0,c1,c2⟩:=hc
     obtain⟨v0,a,xs,Bs,k1,k2,k3,k4,k5,k6⟩:=r.Vu q1 q4
     have ed:=qD q5
     subst ed
     have ex:=kW.mp (gB.rv _ _ _ k5)
     subst ex
     refine h σ H (rE env) v0 pp _ _ r.r k1 q2 k2 λH1 s1=>⟨.inl ⟨rfl,_,mC.of (s1 _ _ k3)⟩,?_⟩
     refine he σ H1 H1 (rE env) _ _ (Zn.self K H1) (r.r.same s1) q3 λw H2 Z2 s2 t2 z2 Li=>?_
     unfold Rv at Li
     subst Li
     have s12:=s1.trans s2
     refine⟨a,ns.map V.int,k,k.toNat,.int (ns.getD k.toNat 0),rfl,rfl,s12 _ _ k3,by omega,by omega,?_,?_,p _ ?_⟩
     ·exact seqIndex_of c0 (by rw[B3];omega)
     ·rw[D5,F1,B6 c1]
      rfl
     ·rw[zG]
      exact k6 H2 _ _ nil s12 (uF _ _ (gF _) (kW.mpr rfl)) λb z=>z.elim
    ·exact p.elim
   ·exact p.elim
  ·exact p.elim
 ·exact p.elim
theorem DR(h:XP K X a ta i π)(he:XR K X e te f)(hp:PE X a ta→PE X e te→PS X (.Expr (.Call (.Attribute a m apos) [e] [] cpos) pos) (nM (Bl K "list" Fb ta (bV te iM)))):YS K X (.Expr (.Call (.Attribute a m apos) [e] [] cpos) pos) (nM (Bl K "list" Fb ta (bV te iM))) (zF i π f):=⟨hp h.pe he.pe,(DQ h.ev he.ev).ds⟩
end
end L2


namespace L2
open PySem PySem.Spec PySem.Calls PyProof.Rows PyProof.V
section
variable{K:aA}{X:Cx}{a b e:Expr}{es:List Expr}{ta tb te t:TE}{f g:FE}{tA:TA}{fs:FA}{pos apos cpos p2:Pos}{m:Str}
def sJ(a b:D):Option D:=match a,b with
 | .str x,.str y=>if x.length+y.length≤100000 then some (.str (x++y))else none
 | _,_=>none
theorem DW:Dj K (λx y H Q=>∃i j,x=.str i∧y=.str j∧i.length+j.length≤sizeLine∧Q (.str (i++j)) H) sJ:=λx y H a b d Q ra rb q k=>by
 unfold sJ at q
 split at q
 ·split at q
  ·rename_i c
   cases q
   unfold Rv at ra rb
   exact⟨_,_,ra,rb,jB c,k _ H (aN.refl _) (.eX rfl (by unfold Rv;rfl))⟩
  ·cases q
 ·cases q
theorem uT(ha:XR K X a ta f)(hb:XR K X b tb g):XN K X (.BinOp a .Add b pos) (Ck (λx y H Q=>∃i j,x=.str i∧y=.str j∧i.length+j.length≤sizeLine∧Q (.str (i++j)) H) ta tb) (f2 sJ f g):=Dk Lf DW ha hb
def Sx(x y:Str):Bool:=!(Builtin.Str.occurrences x y 0 x.length 1).isEmpty
def Wc(a b:D):Option D:=match a,b with
 | .str y,.str x=>some (.bl (Sx x y))
 | _,_=>none
def ou:R2:=λx y H Q=>∃i j,x=.str i∧y=.str j∧Q (.bl (!(Builtin.Str.occurrences j i 0 j.length 1).isEmpty)) H
theorem YC:Dj K ou Wc:=λx y H a b d Q ra rb q k=>by
 unfold Wc at q
 split at q
 ·cases q
  unfold Rv at ra rb
  exact⟨_,_,ra,rb,k _ H (aN.refl _) (.eX rfl (by unfold Rv Sx;rfl))⟩
 ·cases q
theorem YD:lQ X (compareOp .In) ou:=Rk
def Ga(a b:D):Option D:=match a,b with
 | .str x,.int i=>if x.length≤100000 then(Ik x.cps.toList i).map λc=>.str ⟨#[c]⟩else none
 | _,_=>none
theorem Mt(ha:XR K X a ta f)(hb:XR K X b tb g)(hs:xR b):XN K X (.Subscript a b pos) (Ck SN ta tb) (f2 Ga f g):=
 ⟨ha.hk,Uy Uz ha.pe hb.pe hs,Ov (λx y H a b d Q ra rb q k=>by
  unfold Ga at q
  split at q
  ·split at q
   ·rename_i c
    obtain⟨u,q1,rfl⟩:=iZ q
    unfold Rv at ra rb
    exact⟨_,_,u,ra,rb,jB c,q1,k _ H (aN.refl _) (.eX rfl (by unfold Rv;rfl))⟩
   ·cases q
  ·cases q) ha.ev hb.ev⟩
def qH:List D→Option D
 | [.str x]=>if x.length≤100000 then some (.int x.length)else none
 | _=>none
theorem xX:uO K (λxs H Q=>∃z,xs=[.str z]∧z.length≤sizeLine∧Q (.int z.length) H) qH:=λvs H ds d Q rs q k=>by
 unfold qH at q
 split at q
 ·split at q
  ·rename_i c
   cases q
   obtain⟨v,rfl,r⟩:=qC rs
   unfold Rv at r
   subst r
   exact⟨_,rfl,jB c,k _ H (aN.refl _) (.eX rfl (by unfold Rv;rfl))⟩
  ·cases q
 ·cases q
def Jk(i:Int):Str:=O6 (toString i)
def Pn:List D→Option D
 | [.int i]=>if i.natAbs.log2<1920 then some (.str (Jk i))else none
 | _=>none
theorem DX:uO K (λxs H Q=>∃i,xs=[.int i]∧i.natAbs.log2<1920∧Q (.str (toString i)) H) Pn:=λvs H ds d Q rs q k=>by
 unfold Pn at q
 split at q
 ·split at q
  ·rename_i c
   cases q
   obtain⟨v,rfl,r⟩:=qC rs
   unfold Rv at r
   subst r
   exact⟨_,rfl,c,k _ H (aN.refl _) (.eX rfl (by unfold Rv Jk;rfl))⟩
  ·cases q
 ·cases q
noncomputable def Wd:List D→Option D
 | [.str x]=>if x.length≤640 then(S0 x).map .int else none
 | _=>none
def NZ:List V→Hp→VK→Prop:=λxs H Q=>∃x n,xs=[.str x]∧S0 x=some n∧x.length≤640∧Q (.int n) H
theorem DY:iV X (.type "int") NZ:=by
 intro pins s σ H xs us Q I r h
 obtain⟨x,n,rfl,hn,hl,q⟩:=h
 obtain⟨u,rfl,t,rfl⟩:=vals1 r
 exact PySem.W.KIN.call_text hn hl ⟨.int n,H,I.tok _,⟨_,rfl⟩,q⟩
theorem EY:uO K NZ Wd:=λvs H ds d Q rs q k=>by
 unfold Wd at q
 split at q
 ·split at q
  ·rename_i c
   obtain⟨n,q1,rfl⟩:=iZ q
   obtain⟨v,rfl,r⟩:=qC rs
   unfold Rv at r
   subst r
   exact⟨_,n,rfl,q1,c,k _ H (aN.refl _) (.eX rfl (by unfold Rv;rfl))⟩
  ·cases q
 ·cases q
structure kZ(mg:Str→Option Value)(x:Str)(i:Str):Prop where
 ex:∃t,mg x=some (.str i t)
theorem nT{K:aA}{h:Heap}{mg:Str→Option Value}{x:Str}{i:Str}{t:Tok}(X:K.In h)(G:h.Ns mainGlobals mg)(a:G7 K mainGlobals x=some (some (.str i t))):kZ mg x i:=⟨t,G4 X G a⟩
theorem pF{x:Str}{i:Str}(G:kZ X.mg x i)(hg:Gl X x)(hd:(x==("__debug__" : Str))=false:=by decide) (hk:X.K=K:=by rfl):XN K X (.Name x pos) (tC (.str i)) (fC (.str i)):=by
 obtain⟨t,h⟩:=G.ex
 exact⟨hk,gP hg h ⟨t,rfl⟩ hd,Vl i⟩
def Mu:V→List V→Hp→VK→Prop:=λx vs H Q=>∃z y,x=.str z∧vs=[.str y]∧Q (.bl (Txt.startswith z y)) H
theorem We:ji X "str.startswith" Mu:=by
 intro pins s σ H x vs v us Q I rx rv h
 obtain⟨z,y,rfl,rfl,q⟩:=h
 obtain⟨t,rfl⟩:=rx
 obtain⟨u,rfl,ru⟩:=rv.one
 obtain⟨t',rfl⟩:=ru
 exact PySem.SC.startswith ⟨.bl _,H,I,rfl,q⟩
def Gb(a b:D):Option D:=match a,b with
 | .str x,.str y=>some (.bl (Txt.startswith x y))
 | _,_=>none
theorem Wf(ha:XR K X a ta f)(hb:XR K X b tb g)(hp:PE X a ta→PE X b tb→PE X (.Call (.Attribute a m apos) [b] [] cpos) (Bl X.K "str" Mu ta (bV tb iM))):XN K X (.Call (.Attribute a m apos) [b] [] cpos) (Bl X.K "str" Mu ta (bV tb iM)) (f2 Gb f g):=
 ⟨ha.hk,hp ha.pe hb.pe,λσ H e d Q re q k=>by
  obtain⟨x,y,q1,q2,q3⟩:=mH q
  unfold Gb at q3
  split at q3
  ·cases q3
   refine ha.ev σ H H e _ _ (Zn.self K H) re q1 λv H1 Z1 s1 t1 z1 rx=>?_
   unfold Rv at rx
   subst rx
   refine⟨rfl,hb.ev σ H1 H1 e _ _ (Zn.self K H1) (re.same s1) q2 λv' H2 Z2 s2 t2 z2 ry=>?_⟩
   unfold Rv at ry
   subst ry
   exact⟨_,_,rfl,rfl,k _ H2 (s1.trans s2) (.eX rfl (by unfold Rv;rfl))⟩
  ·cases q3⟩
def OD(i j:Int):Prop:=0<j∧j.natAbs.log2<9000
instance:∀i j,Decidable (OD i j):=λi j=>by unfold OD;exact inferInstance
end
def Its(x:Str):It:=⟨λi _=>i<x.cps.size,λi H v H'=>H'=H∧∃c,x.cps[i]?=some c∧v=.str ⟨#[c]⟩,λi _=>x.cps.size≤i⟩
section
variable{P:Program}{w:World}{K:aA}{tg:Expr}
theorem Jl{it:Addr}{ty:String}{x:Str}{t:Tok}(W:∀A:Around,A.handled=none→Walks P w A it [it] [it] x.cps.size (SignAt x) (λi h=>h.IsStrIter it ty x t i))
  (hn:["enumerate", "zip", "dict_itemiterator", "dict_reverseitemiterator", "odict_iterator", "itertools.zip_longest", "itertools.pairwise"].contains ty=false)
  (hd:∀(A:Around)(s:Shared)(i:Nat)(Q:Option Value→Shared→Prop)(E:Value→Shared→Prop),A.handled=none→s.heap.IsStrIter it ty x t i→x.cps[i]?=none→(∀h',Heap.ExtBut it s.heap h'→Q none {s with heap:=h'})→wpAny (model P w) A (pyNext (.ref it)) Q E s)
  (hs:∀(A:Around)(i:Nat)(s:Shared)(Q:Value→Shared→Prop)(E:Value→Shared→Prop),s.heap.IsStrIter it ty x t i→Q (.ref it) s→wpAny (model P w) A (pyIter (.ref it)) Q E s):Turn P w K tg (Its x) [it] it (λi h=>h.IsStrIter it ty x t i) where
 mem:=by simp
 obj:=λi h st b hb=>by
  have e:b=it:=by simpa using hb
  subst e
  obtain⟨o,e,c,d⟩:=st
  exact⟨o,e,λv z=>by rw[d]at z;cases z⟩
 keep:=λi h h' st k=>let ⟨o,ho,r⟩:=st;⟨o,k it (by simp) o ho,r⟩
 item:=by
  intro X hP hw hK hc i pins s σ H E I hf st hg
  subst hP hw hK
  obtain⟨f0,f1,f2,f3,f4,f5⟩:=hf it (by simp)
  refine(W X.A (I.ok.hd hc)).item i s _ _ hg st λv h' tk hv st' kk=>?_
  obtain⟨c,u,hx,rfl⟩:=hv
  have I1:Inv X pins σ H {s with heap:=h',toks:=tk}:=I.turned (λb o hb e=>kk b o (by simpa using hb) e) f0 f1 f3 f4 f5
  obtain⟨o,e,c',d⟩:=id st'
  exact⟨_,rfl,Oe (s:={s with heap:=h',toks:=tk}) e c' d hn ⟨.str ⟨#[c]⟩,H,I1,⟨u,rfl⟩,⟨rfl,c,hx,rfl⟩,st',λb hb=>(hf b hb).1⟩⟩
 done:=by
  intro X hP hw hK hc i pins s σ H E I hf st hg
  subst hP hw hK
  obtain⟨f0,f1,f2,f3,f4,f5⟩:=hf it (by simp)
  have hg:x.cps.size≤i:=hg
  exact hd X.A s i _ _ (I.ok.hd hc) st (by simp;omega) λh' eb=>⟨rfl,I.turned (t':=s.toks) (λb o hb e=>eb b o hb e) f0 f1 f3 f4 f5⟩
 self:=λA i s Q E st h=>hs A i s Q E st h
end
section
variable{K:aA}{X:Cx}{tg e l:Expr}{t tl:TE}{f:FE}
def ph(tl:TE):TI:=λσ H R=>tl σ H λx H1=>∃z,x=.str z∧R (Its z) H1
theorem YF(hl:PE X l tl):PI X tg l (ph tl):=by
 intro pins s σ H R I h
 refine eY (hl pins s σ H _ I h) λv s1 ⟨x,H1,I1,r1,q1⟩=>?_
 obtain⟨z,e,q⟩:=q1
 subst e
 obtain⟨t,rfl⟩:=r1
 have fin:∀b,b∈[s1.heap.objs.size]→xG X pins H1 b:=λb hb=>by
  have e:b=s1.heap.objs.size:=by simpa using hb
  subst e
  exact I1.Zj (D2 _) (I1.hok.fresh (D2 _))
 cases ha:z.cps.all (·<128)
 ·exact wpAny_pyIter_wide ha ⟨s1.heap.objs.size,[s1.heap.objs.size],_,_,H1,rfl,I1.kept (t':=s1.toks) λb o e=>Heap.get?_push_of_some _ e,Jl (t:=t) (λA hA=>Walks.strWide hA _ z t) (by decide) (λA s i Q E hh st hx hQ=>wpAny_pyNext_wide_end hh st hx hQ) (λA i s Q E st h=>wpAny_pyIter_striter_wide st h),⟨_,Heap.get?_push_size _ rfl,rfl,rfl⟩,fin,q⟩
 ·exact wpAny_pyIter_ascii ha ⟨s1.heap.objs.size,[s1.heap.objs.size],_,_,H1,rfl,I1.kept (t':=s1.toks) λb o e=>Heap.get?_push_of_some _ e,Jl (t:=t) (λA hA=>Walks.strAscii hA _ z t) (by decide) (λA s i Q E hh st hx hQ=>wpAny_pyNext_ascii_end hh st hx hQ) (λA i s Q E st h=>wpAny_pyIter_striter_ascii st h),⟨_,Heap.get?_push_size _ rfl,rfl,rfl⟩,fin,q⟩
def YG(x:Str):List V:=x.cps.toList.map λc=>V.str ⟨#[c]⟩
def sgD(x:Str):List D:=x.cps.toList.map λc=>D.str ⟨#[c]⟩
theorem FJ{x:Str}:UJ (Its x) (λ_=>True) (YG x):=λi H _=>by
 have hl:(YG x).length=x.cps.size:=by unfold YG;rw[B3,K8]
 refine⟨λh=>show i<x.cps.size by omega,λv H' ⟨e,c,hc,hv⟩=>⟨e,λh=>?_⟩,λh=>show x.cps.size≤i by omega⟩
 subst hv
 unfold YG
 rw[D5,U7,hc]
 rfl
theorem YH{H:Hp}(x:Str):cC K H (sgD x) (YG x):=by
 unfold sgD YG
 refine cC.of (by simp) λi d v h1 h2=>?_
 rw[D5]at h1 h2
 cases q:x.cps.toList[i]? with
 | none=>rw[q]at h1;cases h1
 | some j=>rw[q]at h1 h2;cases h1;cases h2;unfold Rv;rfl
def Mv(f:FE):FA:=λe=>(f e).bind λd=>match d with | .str z=>some (sgD z) | _=>none
theorem Wg(h:XR K X e t f):XI K X tg e (ph t) (Mv f):=⟨h.hk,YF h.pe,λσ H Z e ds R z re q k=>by
 unfold Mv at q
 obtain⟨d,q1,q2⟩:=aU q
 split at q2
 ·rename_i x
  cases q2
  refine h.ev σ H Z e _ _ z re q1 λv H1 Z1 s1 t1 z1 rv=>?_
  unfold Rv at rv
  subst rv
  exact⟨x,rfl,k _ H1 Z1 _ (YG x) s1 t1 z1 FJ (λ_ _=>trivial) (YH x)⟩
 ·cases q2⟩
end
end L2


namespace L2
open PySem PySem.Spec PySem.Calls PyProof.Rows PyProof.V
section
variable{K:aA}{X:Cx}{a b c e:Expr}{ta tb tc te t:TE}{f g fa fb fc:FE}{pos apos cpos:Pos}{m:Str}
def FN(φ φ':D→D→Option D)(f g h:FE):FE:=λe=>(Mr φ φ' f g h e).map .bl
theorem Wh{op op':CmpOp}{r r':R2}{φ φ':D→D→Option D}(ho:lQ X (compareOp op) r)(ho':lQ X (compareOp op') r')(hd:Dj K r φ)(hd':Dj K r' φ')(ha:XR K X a ta fa)(hb:XR K X b tb fb)(hc:XR K X c tc fc)(hm:lastMarks [op,op'] [b,c]=false:=by with_unfolding_all rfl):XN K X (.Compare a [op,op'] [b,c] pos) (Er r r' ta tb tc) (FN φ φ' fa fb fc):=⟨ha.hk,Uu ho ho' ha.pe hb.pe hc.pe hm,λσ H e k Q re q kk=>by
 obtain⟨k,q0,rfl⟩:=iZ q
 clear q
 obtain⟨d1,q1,q⟩:=aU q0
 clear q0
 obtain⟨d2,q2,q⟩:=aU q
 obtain⟨d3,q3,q⟩:=aU q
 refine ha.ev σ H H e d1 _ (Zn.self K H) re q1 λx H1 Z1 s1 t1 z1 rx=>hb.ev σ H1 H1 e d2 _ (Zn.self K H1) (re.same s1) q2 λy H2 Z2 s2 t2 z2 ry=>?_
 refine hd x y H2 d1 d2 d3 _ (s2.rv _ _ (z1.sm.rv _ _ rx)) (z2.sm.rv _ _ ry) q3 λz H3 s3 n=>?_
 have rz:=n.rv
 split at q
 ·obtain⟨d4,q4,q⟩:=aU q
  obtain⟨d5,q5,q⟩:=aU q
  unfold Rv at rz
  refine⟨true,rz,?_⟩
  rw[if_pos rfl]
  refine hc.ev σ H3 H3 e d4 _ (Zn.self K H3) (re.same (s1.trans (s2.trans s3))) q4 λw H4 Z4 s4 t4 z4 Li=>?_
  refine hd' y w H4 d2 d4 d5 _ ((s3.trans s4).rv _ _ (z2.sm.rv _ _ ry)) (z4.sm.rv _ _ Li) q5 λv H5 s5 n5=>?_
  have r5:=n5.rv
  split at q
  ·cases q
   exact kk v H5 (s1.trans (s2.trans (s3.trans (s4.trans s5)))) (.eX rfl r5)
  ·cases q
 ·cases q
  unfold Rv at rz
  refine⟨false,rz,?_⟩
  rw[if_neg (by decide)]
  exact kk _ H3 (s1.trans (s2.trans s3)) (.eX rfl (by unfold Rv;rfl))
 ·cases q⟩
theorem Jm:∀{xs:List Str} {us:List Value},Vals (xs.map V.str) us→∃l:List (Str×Tok),strValues l=us∧l.map (·.1)=xs
 | [],_,.nil=>⟨[],rfl,rfl⟩
 | x::xs,u::us,.cons r rs=>by
  obtain⟨t,rfl⟩:=r
  obtain⟨l,h1,h2⟩:=Jm rs
  exact⟨(x,t)::l,by rw[←h1];rfl,by rw[←h2];rfl⟩
def rJoin(K:aA):V→List V→Hp→VK→Prop:=λx vs H Q=>∃z p xs,x=.str z∧vs=[.ref p]∧mC K H p (xs.map V.str)∧JoinOk z xs=true∧Q (.str (Txt.join z xs)) H
theorem Gd:ji X "str.join" (rJoin X.K):=by
 intro pins s σ H x vs v us Q I rx rv h
 obtain⟨z,p,xs,rfl,rfl,hq,hok,q⟩:=h
 obtain⟨t,rfl⟩:=rx
 obtain⟨u,rfl,ru⟩:=rv.one
 cases ru
 obtain⟨its,r,pl,hz⟩:=I.list hq
 obtain⟨l,h1,h2⟩:=Jm r
 subst h1
 exact PySem.SC.join pl.isList h2 hok λt' k=>⟨.str _,H,I.tok _,⟨_,rfl⟩,q⟩
def strsOf:List D→Option (List Str)
 | []=>some []
 | .str x::ds=>(strsOf ds).map λr=>x::r
 | _::_=>none
theorem zH:∀xs:List Str,strsOf (xs.map D.str)=some xs
 | []=>rfl
 | x::xs=>by rw[D7];unfold strsOf;rw[zH xs];rfl
theorem Dq{H:Hp}:∀{ds:List D} {xs:List Str} {vs:List V},strsOf ds=some xs→cC K H ds vs→vs=xs.map V.str
 | [],xs,vs,h,r=>by unfold strsOf at h;cases h;unfold cC at r;exact r
 | d::ds,xs,vs,h,r=>by
  unfold cC at r
  obtain⟨y,ys,rfl,r1,r2⟩:=r
  unfold strsOf at h
  split at h
  ·rename_i hh;cases hh
  ·rename_i x ds' hh
   cases hh
   obtain⟨l,h1,rfl⟩:=iZ h
   unfold Rv at r1
   rw[r1,Dq h1 r2]
   rfl
  ·cases h
def Dr(a b:D):Option D:=match a,b with
 | .str z,.lst ds=>(strsOf ds).bind λxs=>if JoinOk z xs=true then some (.str (Txt.join z xs))else none
 | _,_=>none
theorem Ge(ha:XR K X a ta f)(hb:XR K X b tb g)(hp:PE X a ta→PE X b tb→PE X (.Call (.Attribute a m apos) [b] [] cpos) (Bl X.K "str" (rJoin X.K) ta (bV tb iM))):XN K X (.Call (.Attribute a m apos) [b] [] cpos) (Bl X.K "str" (rJoin X.K) ta (bV tb iM)) (f2 Dr f g):=
 ⟨ha.hk,hp ha.pe hb.pe,λσ H e d Q re q k=>by
  have hk:=ha.hk
  obtain⟨x,y,q1,q2,q3⟩:=mH q
  unfold Dr at q3
  split at q3
  ·obtain⟨xs,q4,q5⟩:=aU q3
   split at q5
   ·rename_i hok
    cases q5
    refine ha.ev σ H H e _ _ (Zn.self K H) re q1 λv H1 Z1 s1 t1 z1 rx=>?_
    unfold Rv at rx
    subst rx
    refine⟨rfl,hb.ev σ H1 H1 e _ _ (Zn.self K H1) (re.same s1) q2 λv' H2 Z2 s2 t2 z2 ry=>?_⟩
    have ry:=z2.sm.rv _ _ ry
    unfold Rv at ry
    obtain⟨p,vs,rfl,r2,r3⟩:=ry
    rw[Dq q4 r3]at r2
    subst hk
    exact⟨_,p,xs,rfl,rfl,r2,hok,k _ H2 (s1.trans s2) (.eX rfl (by unfold Rv;rfl))⟩
   ·cases q5
  ·cases q3⟩
theorem FQ(xs:List Str):∀tk:Nat,Vals (xs.map V.str) (strsFrom tk xs):=by
 induction xs with
 | nil=>intro tk;exact .nil
 | cons x xs ih=>intro tk;exact .cons ⟨tk,rfl⟩ (ih (tk+1))
def Mw:V→List V→Hp→VK→Prop:=λx vs H Q=>∃z y,x=.str z∧vs=[.str y]∧(y.length==0)=false∧z.length≤90000∧∀l,H l=none→Q (.ref l) (upd H l (.lst ((Txt.split z y).map V.str)))
theorem gG:ji X "str.split" Mw:=by
 intro pins s σ H x vs v us Q I rx rv h
 obtain⟨z,y,rfl,rfl,hy,hz,q⟩:=h
 obtain⟨t,rfl⟩:=rx
 obtain⟨u,rfl,ru⟩:=rv.one
 obtain⟨t',rfl⟩:=ru
 have hle:=U8 z y
 have q:=q _ I.fresh
 cases h1:(decide (z.length<y.length)||decide (Builtin.Str.strKind z<Builtin.Str.strKind y))
 ·cases hf:(Builtin.Str.occurrences z y 0 z.length (z.length+1)).isEmpty
  ·have e:Txt.split z y=Builtin.Str.partsBetween z (Builtin.Str.occurrences z y 0 z.length (z.length+1)) y.length:=by
    unfold Txt.split
    rw[if_neg (ne_true_of_eq_false h1),if_neg (ne_true_of_eq_false hf)]
   rw[e]at q hle
   refine call_meets F.slot_str_split (typeIs_str _ _ _) F.entry_str_split (F.args_str_split_2 _ _) (meets_str_split_sep z y t t' h1 hy hf (jB (by omega)) (jB (by omega))) ?_
   exact⟨.ref _,_,I.Ru (FQ _ _) (by rw[B3];exact jB (by omega)),rfl,q⟩
  ·have e:Txt.split z y=[z]:=by
    unfold Txt.split
    rw[if_neg (ne_true_of_eq_false h1),if_pos hf]
   rw[e]at q
   refine call_meets F.slot_str_split (typeIs_str _ _ _) F.entry_str_split (F.args_str_split_2 _ _) (meets_str_split_not_found z y t t' h1 hy hf) ?_
   exact⟨.ref _,_,I.Ru (t':=s.toks) (ys:=[.str z]) (its:=[.str z t]) (.cons ⟨t,rfl⟩ .nil) (jB (n:=1) (by decide)),rfl,q⟩
 ·have e:Txt.split z y=[z]:=by
   unfold Txt.split
   rw[if_pos h1]
  rw[e]at q
  refine call_meets F.slot_str_split (typeIs_str _ _ _) F.entry_str_split (F.args_str_split_2 _ _) (meets_str_split_cannot_occur z y t t' h1) ?_
  exact⟨.ref _,_,I.Ru (t':=s.toks) (ys:=[.str z]) (its:=[.str z t]) (.cons ⟨t,rfl⟩ .nil) (jB (n:=1) (by decide)),rfl,q⟩
def dJ(a b:D):Option D:=match a,b with
 | .str z,.str y=>if(y.length==0)=false∧z.length≤90000 then some (.lst ((Txt.split z y).map D.str))else none
 | _,_=>none
theorem Jo{H:Hp}:∀xs:List Str,cC K H (xs.map D.str) (xs.map V.str)
 | []=>by unfold cC;rfl
 | x::xs=>by
  rw[D7,D7]
  unfold cC
  exact⟨_,_,rfl,by unfold Rv;rfl,Jo xs⟩
theorem Ds:∀xs:List Str,D.cT (xs.map D.str)=true
 | []=>by rw[J7,D.cT]
 | x::xs=>by rw[D7,D.cT,Ds xs,Y8];unfold D.eX;rfl
theorem gH(ha:XR K X a ta f)(hb:XR K X b tb g)(hp:PE X a ta→PE X b tb→PE X (.Call (.Attribute a m apos) [b] [] cpos) (Bl X.K "str" Mw ta (bV tb iM))):XN K X (.Call (.Attribute a m apos) [b] [] cpos) (Bl X.K "str" Mw ta (bV tb iM)) (f2 dJ f g):=
 ⟨ha.hk,hp ha.pe hb.pe,λσ H e d Q re q k=>by
  obtain⟨x,y,q1,q2,q3⟩:=mH q
  unfold dJ at q3
  split at q3
  ·split at q3
   ·rename_i hc
    cases q3
    refine ha.ev σ H H e _ _ (Zn.self K H) re q1 λv H1 Z1 s1 t1 z1 rx=>?_
    unfold Rv at rx
    subst rx
    refine⟨rfl,hb.ev σ H1 H1 e _ _ (Zn.self K H1) (re.same s1) q2 λv' H2 Z2 s2 t2 z2 ry=>?_⟩
    unfold Rv at ry
    subst ry
    refine⟨_,_,rfl,rfl,hc.1,hc.2,λl hl=>?_⟩
    exact k _ _ ((s1.trans s2).trans (cM hl _)) (uI (s1.trans s2) (.cT (Ds _) (Jo _)) hl)
   ·cases q3
  ·cases q3⟩
end
end L2


namespace L2
open PySem PySem.Spec PySem.Calls PyProof.Rows PyProof.V
section
variable{K:aA}{B H H':Hp}{env:EN}{σ:St}{i j:Nat}{v:V}{d:D}
theorem Rel.YJ(h:Rel K B (env++[.own d]) (σ++[some v]) H):∃H0,Rel K B env σ H0∧aN H0 H∧Bf K H0 H d v:=by
 obtain⟨A,a,b⟩:=h
 obtain⟨A0,A1,k1,⟨v',e,o⟩,k3,k4⟩:=a.Vz
 cases e
 have cl:=Ow.cells _ _ _ o
 have tk:vJ K H (out H A1):=λp xs q=>by
  have np:(∃u,H p=some (.tup xs)∨H p=some (.tZ u (.tup xs)))→¬A1 p:=λz z2=>by
   obtain⟨u,z⟩:=z
   rcases z with z | z
   ·exact(cl p z2).2.1 _ z
   ·exact(cl p z2).2.2 _ _ z
  rcases q with (q | ⟨u,q⟩) | q
  ·exact .inl (.inl (by rw[Fi (np ⟨default,.inl q⟩)];exact q))
  ·exact .inl (.inr ⟨u,by rw[Fi (np ⟨u,.inr q⟩)];exact q⟩)
  ·exact .inr q
 have g:aN (out H A) (out (out H A1) A0):=λx u ex=>by
  obtain⟨e1,e2⟩:=bC.mp ex
  exact bC.mpr ⟨λz=>e1 ((k4 x).mpr (.inl z)),bC.mpr ⟨λz=>e1 ((k4 x).mpr (.inr z)),e2⟩⟩
 refine⟨out H A1,⟨A0,k1.mono λs D z hb qq=>?_,b.trans g⟩,kJ _ _,A1,o,λx z=>?_⟩
 ·have fr:∀x,D x→out H A1 x=H x:=λx zx=>Fi λz=>k3 x (hb x zx) z
  cases s with
  | no=>exact qq
  | fro d=>obtain⟨q1,v,q2,q3⟩:=qq;exact⟨q1,v,q2,g.rv _ _ q3⟩
  | inn v d=>exact⟨qq.1,Ow.frame tk _ _ _ qq.2 fr⟩
  | own d=>obtain⟨v,q1,q2⟩:=qq;exact⟨v,q1,Ow.frame tk _ _ _ q2 fr⟩
 ·unfold out
  rw[if_pos z]
def Dt(i j:Nat):GS:=λenv=>match env[i]?,env[j]? with
 | some (.own (.lst ds)),some (.own d)=>if i≠j∧ds.length<100000 then .next ((env.set j .no).set i (.own (.lst (ds++[d]))))else .bad
 | _,_=>.bad
theorem FW:WR K (nM (Bl K "list" oO (jF i) (bV (jF j) iM))) (Dt i j):=λB E σ H env r p=>by
 unfold Dt at p
 split at p
 ·rename_i ds d q1 q2
  split at p
  ·rename_i hc
   obtain⟨v,hv,r2⟩:=r.give q2
   obtain⟨H0,r0,s0,N,o,fr⟩:=r2.YJ
   have q1':(env.set j .no)[i]?=some (.own (.lst ds)):=by rw[K5 (Ne.symm hc.1)];exact q1
   obtain⟨v0,a,xs,Bs,k1,k2,k3,k4,k5,k6⟩:=r0.Vu (p:=[]) q1' rfl
   unfold Hw at k2
   cases k2
   refine⟨_,k1,.inl ⟨rfl,xs,mC.of (s0 _ _ k3)⟩,v,hv,?_⟩
   refine⟨a,xs,v,rfl,rfl,s0 _ _ k3,Iu (by rw[(gB.rv _ _ _ k5).length];omega),p _ ?_⟩
   exact k6 H (ds++[d]) (xs++[v]) (gZ Bs N) s0 (fW.mpr ((fW.mp (k5.same s0)).snoc o (Mp (H1:=H0) k5 fr))) λb z=>z.imp id (fr b)
  ·exact p.elim
 ·exact p.elim
theorem FZ{X:Cx}{a e:Expr}{m:Str}{pos apos cpos:Pos}(h:PE X a (jF i))(he:PE X e (jF j))(hp:PE X a (jF i)→PE X e (jF j)→PS X (.Expr (.Call (.Attribute a m apos) [e] [] cpos) pos) (nM (Bl K "list" oO (jF i) (bV (jF j) iM)))):YS K X (.Expr (.Call (.Attribute a m apos) [e] [] cpos) pos) (nM (Bl K "list" oO (jF i) (bV (jF j) iM))) (Dt i j):=⟨hp h he,FW.ds⟩
end
end L2


namespace L2
open PySem PySem.Spec PySem.Calls PyProof.Rows PyProof.V
abbrev vU(h:Heap)(l:List Env):Heap:=O2 h (frs l)
structure Fl(l:List Env)(s1:Shared)(e:Addr)(cls:Value)(s':Shared):Prop where
 wV:∃a0,Heap.FlyingW (vU s1.heap l) l e cls a0 s'.heap
 up:s1.heap.UpToSlots s'.heap
 os:s'.os=s1.os
 bare:AllBare s'.gens
def vV(P:Program)(w:World):Ku:=λouter H s E ev s'=>∃e cls H' s1,ev=.ref e∧s1.os=s.os∧AllBare s1.gens∧Un (frs outer) [] H H' s.heap s1.heap∧rQ P w H' s1.heap∧Fl outer s1 e cls s'∧E cls none H'
theorem nU{h:Heap}{l:List Env}{b:Addr}{o:Obj}(e:h.get? b=some o)(hb:b∉frs l):(vU h l).get? b=some o:=R6 _ e hb
theorem vW{h:Heap}{l:List Env}{b:Addr}(hb:b∈frs l):(vU h l).get? b=none:=Q8 _ hb
theorem xY{h:Heap}{l:List Env}{b:Addr}{o:Obj}(e:(vU h l).get? b=some o):h.get? b=some o∧b∉frs l:=by
 refine⟨S1 _ e,λhb=>?_⟩
 rw[vW hb]at e
 cases e
theorem Du{h:Heap}{l:List Env}{b:Addr}(e:(vU h l).get? b=none)(hb:b∉frs l):h.get? b=none:=by
 cases q:h.get? b with
 | none=>rfl
 | some o=>rw[nU q hb]at e;cases e
theorem uU{h base:Heap}:∀{l:List Env},h.FunFrames base l→∀b∈frs l,∃o,h.get? b=some o∧∀vs,o.data≠.fields vs
 | [],_,b,hb=>by cases hb
 | env::l,⟨_,⟨L,o,hf,_,ho,hd⟩,r⟩,b,hb=>by
  unfold frs at hb
  rw[K1,hf]at hb
  rcases G2.mp hb with z | z
  ·rw[z];exact⟨o,ho,hd⟩
  ·exact uU r b z
theorem zJ{h base base':Heap}:∀{l:List Env},h.FunFrames base l→(∀b∈frs l,base'.get? b=none)→h.FunFrames base' l
 | [],_,_=>trivial
 | env::l,⟨h1,⟨L,o,hf,_,ho,hd⟩,r⟩,k=>by
  have e:frs (env::l)=L::frs l:=by unfold frs;rw[K1,hf]
  exact⟨h1,⟨L,o,hf,k L (by rw[e];exact D1),ho,hd⟩,zJ r λb hb=>k b (by rw[e];exact C5 _ hb)⟩
section
variable{P:Program}{w:World}{l:List Env}{s1 s':Shared}{e:Addr}{cls:Value}{H:Hp}{base:Heap}
theorem Fl.keep(f:Fl l s1 e cls s'){b:Addr}{o:Obj}(q:s1.heap.get? b=some o)(hb:b∉frs l):s'.heap.get? b=some o:=by
 obtain⟨a0,x⟩:=f.wV
 exact x.1 b o (nU q hb)
theorem Fl.slot(f:Fl l s1 e cls s')(ff:s1.heap.FunFrames base l){b:Addr}{o:Obj}(q:s1.heap.get? b=some o)(hb:b∈frs l):∃sl,s'.heap.get? b=some {o with slots:=sl}:=by
 obtain⟨o',q',hd⟩:=uU ff b hb
 rw[q]at q'
 cases q'
 exact f.up b o q hd
theorem Fl.un(f:Fl l s1 e cls s')(ff:s1.heap.FunFrames base l):Un (frs l) [] H H s1.heap s'.heap where
 keep:=λb o q _ hb _=>f.keep q hb
 slot:=λb o q _ hb _=>f.slot ff q hb
 free:=λ_ _ _ n _=>n
 there:=λb o q _=>by
  by_cases hb:b∈frs l
  ·obtain⟨sl,z⟩:=f.slot ff q hb
   exact⟨_,z⟩
  ·exact⟨o,f.keep q hb⟩
 tups:=λ_ _ q=>q
 xF:=λ_ _ _ q=>q
 yJ:=λb ps q=>⟨#[],by rw[q];simp⟩
theorem Fl.hok(f:Fl l s1 e cls s')(hok:rQ P w H s1.heap)(hf:∀b∈frs l,H b=none):rQ P w H s'.heap:=λb u eb=>
 (hok b u eb).stay (λc v hc q=>f.keep q λz=>by
  have hz:=hf c z
  rcases hc with hc | hc
  ·rw[hc,eb]at hz;cases hz
  ·rw[hc]at hz;cases hz) (λ_ q=>q) λ_ _ q=>q
end
section
variable{X:Cx}{pins:List (Addr×Obj)}{σ:St}{H:Hp}{s s1 s':Shared}{e:Addr}{cls ev:Value}{E:XK}
theorem Inv.landed(I:Inv X pins σ H s1)(f:Fl X.stack s1 e cls s'):Inv X pins σ H s':=
 I.call' (ch:=[]) f.os (f.un I.stack) (f.hok I.hok I.Eo) f.bare λb z=>absurd z (by simp)
theorem Inv.ghost(I:Inv X pins σ H s)(c:vV X.prog X.w X.stack H s E ev s'):∃e cls H' s1,ev=.ref e∧Inv X pins σ H' s1∧Fl X.stack s1 e cls s'∧E cls none H':=by
 obtain⟨e,cls,H',s1,h1,h2,h3,h4,h5,h6,h7⟩:=c
 exact⟨e,cls,H',s1,h1,I.call' (ch:=[]) h2 h4 h5 h3 λb z=>absurd z (by simp),h6,h7⟩
end
section
variable{P:Program}{w:World}{env:Env}{outer:List Env}{L e:Addr}{cls a0:Value}{s0 s1:Shared}{H0 H:Hp}{E:XK}{base h':Heap}{s2:Shared}
theorem Gf(hf:env.frame=some L)(ff:s1.heap.FunFrames base (env::outer))(hL0:s0.heap.get? L=none)(hLH:H L=none)(hLo:L∉frs outer)(un:Un (frs outer) [] H0 H s0.heap s1.heap)(hok:rQ P w H s1.heap)(hos:s1.os=s0.os)(hg:AllBare s1.gens)
  (fl:Heap.FlyingW (vU s1.heap (env::outer)) outer e cls a0 h') (up:s1.heap.UpToSlots h') (os2:s2.os=s1.os) (pq:AllBare s2.gens) (hs2:s2.heap=h') (q:E cls none H):vV P w outer H0 s0 E (.ref e) s2:=by
 have ef:frs (env::outer)=L::frs outer:=by unfold frs;rw[K1,hf]
 obtain⟨oL,hoL,hdL⟩:=uU ff L (by rw[ef];exact D1)
 obtain⟨sl,hL'⟩:=up L oL hoL hdL
 obtain⟨k1,k2,k3,oe,vs,T,oT,ts,he,hc,hd,h1,hnT,hTe,hT,hdT,h3⟩:=fl
 have vd:∀{b:Addr} {o:Obj} {vs:Array Value},h'.get? b=some o→o.data=.fields vs→b≠L∧b∉frs outer:=λ{b o vs} q1 q2=>by
  refine⟨λz=>?_,λz=>?_⟩
  ·rw[z,hL']at q1
   cases q1
   exact hdL vs q2
  ·obtain⟨o',z1,z2⟩:=uU k3 b z
   rw[q1]at z1
   cases z1
   exact z2 vs q2
 have hself:(s1.heap.update L (λo=>{o with slots:=sl})).get? L=some {oL with slots:=sl}:=Heap.get?_update_self _ hoL ((PySem.W.kts_isFreed oL sl).trans (Heap.get?_some_iff.mp hoL).2)
 have hoth:∀b,b≠L→(s1.heap.update L (λo=>{o with slots:=sl})).get? b=s1.heap.get? b:=λb hb=>Heap.get?_update_other _ _ (Ne.symm hb)
 have fresh:∀{b:Addr} {o:Obj} {vs:Array Value},h'.get? b=some o→o.data=.fields vs→(vU s1.heap (env::outer)).get? b=none→(vU (s1.heap.update L (λo=>{o with slots:=sl})) outer).get? b=none:=λ{b o vs} q1 q2 q3=>by
  obtain⟨n1,n2⟩:=vd q1 q2
  have:=Du q3 (by rw[ef];exact λz=>(G2.mp z).elim n1 n2)
  cases q:(vU (s1.heap.update L (λo=>{o with slots:=sl})) outer).get? b with
  | none=>rfl
  | some o'=>
   have:=(xY q).1
   rw[hoth b n1]at this
   simp_all
 refine⟨e,cls,H,{s1 with heap:=s1.heap.update L (λo=>{o with slots:=sl})},rfl,hos,hg,?_,?_,⟨⟨a0,?_⟩,?_,os2,pq⟩,q⟩
 ·have old:∀{b:Addr} {o:Obj},s0.heap.get? b=some o→b≠L:=λ{b o} q z=>by rw[z,hL0]at q;cases q
  refine⟨λb o q n hb hx=>?_,λb o q n hb hx=>?_,un.free,λb o q hx=>?_,un.tups,un.xF,un.yJ⟩
  ·show (s1.heap.update L _).get? b=_
   rw[hoth b (old q)];exact un.keep b o q n hb hx
  ·show ∃sl',(s1.heap.update L _).get? b=_
   rw[hoth b (old q)];exact un.slot b o q n hb hx
  ·show ∃o',(s1.heap.update L _).get? b=_
   rw[hoth b (old q)];exact un.there b o q hx
 ·intro b u eb
  refine(hok b u eb).stay (λc v hc q=>?_) (λ_ q=>q) λ_ _ q=>q
  have:c≠L:=λz=>by
   rcases hc with hc | hc
   ·rw[←hc,z,hLH]at eb;cases eb
   ·rw[z,hLH]at hc;cases hc
  show (s1.heap.update L _).get? c=_
  rw[hoth c this];exact q
 ·rw[hs2]
  refine⟨λb o q=>?_,fresh he hd k2,zJ k3 λb hb=>vW hb,oe,vs,T,oT,ts,he,hc,hd,h1,fresh hT hdT hnT,hTe,hT,hdT,h3⟩
  obtain⟨q1,q2⟩:=xY q
  by_cases z:b=L
  ·subst z
   rw[hself]at q1
   cases q1
   exact hL'
  ·rw[hoth b z]at q1
   exact k1 b o (nU q1 (by rw[ef];exact λy=>(G2.mp y).elim z q2))
 ·rw[hs2]
  intro b o q hn
  by_cases z:b=L
  ·subst z
   have q:(s1.heap.update b _).get? b=some o:=q
   rw[hself]at q
   cases q
   exact⟨sl,hL'⟩
  ·have q:(s1.heap.update L _).get? b=some o:=q
   rw[hoth b z]at q
   exact up b o q hn
end
section
variable{P:Program}{w:World}{K:aA}{mg:Str→Option Value}{base:Heap}{N:List Str}{qual:Str}{scope:Scope}{f:Addr}{cd:Value}{A:Around}{outer:List Env}{s0:Shared}{H0:Hp}{E:XK}
theorem zK{pins:List (Addr×Obj)}{σ:St}{H:Hp}{s:Shared}{CX:Ku}(I:Inv (jL CX P w K mg base N qual scope f cd A outer s0 H0 E) pins σ H s) :
  s0.heap.get? s0.heap.objs.size=none∧H s0.heap.objs.size=none∧s0.heap.objs.size∉frs outer∧Un (frs outer) [] H0 H s0.heap s.heap∧rQ P w H s.heap∧s.os=s0.os∧AllBare s.gens∧s.heap.FunFrames base (envOfC qual scope s0.heap.objs.size f cd::outer):=by
 refine⟨Heap.get?_none_of_le (D2 _),I.free,λz=>?_,I.base,I.hok,I.os,I.bare,I.stack⟩
 obtain⟨_,o,ho,_⟩:=I.ok.rR.mem z
 have:=Heap.lt_size ho
 exact absurd this (G3 _)
theorem GC:Passes (vV P w) (jL (vV P w) P w K mg base N qual scope f cd A outer s0 H0 E) E:=λpins σ H s ev s' I c=>by
 obtain⟨e,cls,H',s1,rfl,I1,fl,q⟩:=I.ghost c
 obtain⟨a1,a2,a3,a4,a5,a6,a7,a8⟩:=zK I1
 obtain⟨a0,wV⟩:=fl.wV
 refine wpAny_leaves_onW I1.ok.frames rfl wV λh' fl' up=>?_
 exact Gf rfl a8 a1 a2 a3 a4 a5 a6 a7 fl' (fl.up.trans up) fl.os fl.bare rfl q
end
end L2


namespace L2
open PySem PySem.Spec PySem.Calls PyProof.Rows PyProof.V
abbrev GZ:=EN→Option Nat
def DZ(K:aA)(κ:Nat→Addr)(E:XK)(t:TS)(z:GZ):Prop:=∀(B:Hp)(D:Ends)(σ:St)(H:Hp)(env:EN)(i:Nat),Rel K B env σ H→z env=some i→(∀H',aN B H'→E (.ref (κ i)) none H')→t D σ H
structure YZ(K:aA)(κ:Nat→Addr)(X:Cx)(E:XK)(st:Stmt)(t:TS)(z:GZ):Prop where
 ps:PS X st t
 ev:DZ K κ E t z
structure Wi(K:aA)(κ:Nat→Addr)(X:Cx)(E:XK)(st:List Stmt)(t:TS)(z:GZ):Prop where
 ps:Ce X st t
 ev:DZ K κ E t z
def Ui(K:aA)(κ:Nat→Addr)(n:Nat)(r:List D→Option Nat):Sp:=λvs H _ E=>∃ds i,ds.length=n∧cC K H ds vs∧r ds=some i∧∀H',aN H H'→E (.ref (κ i)) none H'
structure Bu(P:Program)(w:World)(K:aA)(mg:Str→Option Value)(base:Heap)(x:Str)(k:Nat)(n:Nat)(sp:Sp):Prop where
 ex:∃f fd ps,ps.length=n∧uD P w K mg base (vV P w) k f fd ps sp∧Binds K fd ps []∧K6 K (.ref f)=true∧mg x=some (.ref f)
structure aAG(P:Program)(w:World)(K:aA)(mg:Str→Option Value)(base:Heap)(C:Addr)(m:Str)(k n:Nat)(df:Bool)(sp:Sp):Prop where
 ex:∃f fd ps,ps.length=n∧uD P w K mg base (vV P w) k f fd ps sp∧Binds K fd ps []∧(df=true→Binds K fd ps [Value.none])∧Meth K C m f
theorem Rel.sub{K:aA}{B H:Hp}{env:EN}{σ:St}(r:Rel K B env σ H):aN B H:=let ⟨_,_,b⟩:=r;b.trans (kJ _ _)
section
variable{K:aA}{κ:Nat→Addr}{X:Cx}{E:XK}{st:Stmt}{sts rest:List Stmt}{t u:TS}{z z1 z2:GZ}{g:GS}{c e o:Expr}{es:List Expr}{te ta:TE}{tA:TA}{tc:TT}{fc:FT}{f:FE}{fs:FA}{pos apos:Pos}{m:Str}
def qd(t u:TS):TS:=λD σ H=>t D σ H∨u D σ H
theorem YK(h1:Ce X sts t)(h2:Ce X sts u):Ce X sts (qd t u):=λpins s σ H D I h=>h.elim (h1 pins s σ H D I) (h2 pins s σ H D I)
def qe:GZ:=λ_=>none
theorem Gg:Wi K κ X E sts yM qe:=⟨Ci,λB D σ H env i r q k=>by cases q⟩
def Ze(z1 z2:GZ):GZ:=λenv=>match z1 env with
 | some i=>some i
 | none=>z2 env
theorem Gh(h1:Wi K κ X E sts t z1)(h2:Wi K κ X E sts u z2):Wi K κ X E sts (qd t u) (Ze z1 z2):=⟨YK h1.ps h2.ps,λB D σ H env i r q k=>by
 unfold Ze at q
 split at q
 ·rename_i j q1
  cases q
  exact .inl (h1.ev B D σ H env i r q1 k)
 ·exact .inr (h2.ev B D σ H env i r q k)⟩
theorem cZ(h:YZ K κ X E st t z):Wi K κ X E (st::rest) (Rf t yM) z:=⟨uC h.ps Ci,λB D σ H env i r q k=>h.ev B _ σ H env i r q k⟩
def uV(g:GS)(z:GZ):GZ:=λenv=>match g env with
 | .next env'=>z env'
 | _=>none
theorem qI(h:YS K X st t g)(h2:Wi K κ X E rest u z):Wi K κ X E (st::rest) (Rf t u) (uV g z):=⟨uC h.ps h2.ps,λB D σ H env i r q k=>by
 unfold uV at q
 split at q
 ·rename_i env' q1
  refine h.ev B {D with nx:=u D} σ H env r ?_
  rw[q1]
  exact λσ' H' r'=>h2.ev B D σ' H' env' i r' q k
 ·cases q⟩
def Uj(f:FT)(z1 z2:GZ):GZ:=λenv=>match f (rE env)with
 | some true=>z1 env
 | some false=>z2 env
 | none=>none
theorem Pq{s1 s2:List Stmt}(hc:XT K X c tc fc)(h1:Wi K κ X E s1 t z1)(h2:Wi K κ X E s2 u z2):YZ K κ X E (.If c s1 s2 pos) (Rg tc t u) (Uj fc z1 z2):=⟨Um hc.pt h1.ps h2.ps,λB D σ H env i r q k=>by
 unfold Uj at q
 split at q
 ·rename_i q1
  refine hc.ev σ H (rE env) true _ r.r q1 λH' s=>?_
  rw[if_pos rfl]
  exact h1.ev B D σ H' env i (r.same s) q k
 ·rename_i q1
  refine hc.ev σ H (rE env) false _ r.r q1 λH' s=>?_
  rw[if_neg (by decide)]
  exact h2.ev B D σ H' env i (r.same s) q k
 ·cases q⟩
def nF(r:List D→Option Nat)(fs:FA):DE→Option Nat:=λe=>(fs e).bind r
def wy(X:Cx)(pins:List (Addr×Obj))(σ:St)(e:Expr)(t:TE):Prop:=∀(s:Shared)(H:Hp)(Q:VK),Inv X pins σ H s→t σ H Q→wpAny (model X.prog X.w) X.A (eval e X.env) (EP X pins σ Q) X.xe s
def PS1(X:Cx)(pins:List (Addr×Obj))(σ:St)(st:Stmt)(t:TS):Prop:=∀(s:Shared)(H:Hp)(D:Ends),Inv X pins σ H s→t D σ H→wpAny (model X.prog X.w) X.A (exec st X.env) (SP X pins D) X.xe s
def Dv(CX:Ku)(X:Cx)(pins:List (Addr×Obj))(σ:St)(E:XK):Prop:=∀(H:Hp)(s:Shared)(e:Value)(s':Shared),Inv X pins σ H s→CX X.stack H s E e s'→X.xe e s'
theorem Passes.one{CX:Ku}(h:Passes CX X E)(pins:List (Addr×Obj))(σ:St):Dv CX X pins σ E:=λH s e s' I c=>h pins σ H s e s' I c
theorem GD{CX:Ku}{k:Nat}{f:Addr}{fd:FuncData}{ps:List Str}{sp:Sp}{Ro:List V}{ds:List Value}{pins:List (Addr×Obj)}{σ:St}{H:Hp}{s:Shared}{Q:VK}{us:List Value}{vs:List V}(F:uD X.prog X.w X.K X.mg X.base CX k f fd ps sp)(hr:kI k X.A)(hb:Binds X.K fd ps ds)(hd:Vals Ro ds)(hx:Dv CX X pins σ E)
  (I:Inv X pins σ H s) (r:Vals vs us) (h:sp (vs++Ro) H Q E):wpAny (model X.prog X.w) X.A (call (.ref f) us) (EP X pins σ Q) X.xe s:=by
 have r2:Vals (vs++Ro) (us++ds):=r.append hd
 have hl:(us++ds).length=ps.length:=by rw[←r2.length];exact F.len _ _ _ _ h
 refine wpAny_call (codeAny_mono (F.run X.A X.stack s H ⟨us,[]⟩ (us++ds) (vs++Ro) Q E hr I.env0 (hb s us I.uA hl) r2 h) λr s' hq=>?_)
 cases r with
 | error e=>exact hx H s e s' I hq
 | ok fl=>
  cases fl with
  | ret u=>exact I.after hq
  | next=>exact False.elim hq
  | brk=>exact False.elim hq
  | cont=>exact False.elim hq
structure OJ(K:aA)(κ:Nat→Addr)(X:Cx)(E:XK)(e:Expr)(t:TE)(z:DE→Option Nat):Prop where
 pe:∀(pins:List (Addr×Obj))(σ:St),Dv (vV X.prog X.w) X pins σ E→wy X pins σ e t
 ev:∀(σ:St)(H:Hp)(de:DE)(i:Nat)(Q:VK),pD K H de σ→z de=some i→(∀H',aN H H'→E (.ref (κ i)) none H')→t σ H Q
theorem uW{x:Str}{k n:Nat}{r:List D→Option Nat}{p:Pos}(C:Bu X.prog X.w X.K X.mg X.base x k n (Ui K κ n r))(hl:∀ds i,r ds=some i→ds.length=n)(hr:kI k X.A)(hg:Gl X x)(ha:XA K X (e::es) tA fs)(hdb:(x==("__debug__" : Str))=false:=by decide)
  (he:starEach (e::es) X.env=(false,eval e X.env)::starEach es X.env:=by rfl) (hpl:(backTo pos (starEach es X.env)).any (·.1)=false:=by rfl):OJ K κ X E (.Call (.Name x p) (e::es) [] pos) (Cq (Ui K κ n r) [] E tA) (nF r fs):=by
 have hk:=ha.hk
 subst hk
 obtain⟨f,fd,ps,_,F,hb,hk,hm⟩:=C.ex
 refine⟨λpins σ hx s H Q I h=>?_,λσ H de i Q re q k=>?_⟩
 ·refine wpAny_Call_Name_kw (rA I hg hm ?_ hdb)
  refine V8 (h₀:=X.base) I.ok.mod.il hk (eY (ha.pa pos pins s σ H _ I h) λus s1 ⟨vs,H1,I1,r,q⟩=>⟨I1.uA,?_⟩) he hpl
  exact GD F hr hb .nil hx I1 r q
 obtain⟨ds,q1,q2⟩:=aU q
 refine call_of (ha.ev σ H H de ds _ (Zn.self _ H) re q1 λvs H1 Z1 s1 t1 z1 rs=>?_)
 exact⟨ds,i,hl ds i q2,z1.sm.Ou _ _ rs,q2,λH' s'=>k H' (s1.trans s')⟩
def zX(z:DE→Option Nat):GZ:=λenv=>z (rE env)
end
def Sy(n m:Nat)(z:GZ):List D→Option Nat:=λds=>if ds.length=m then z (ds.map SD.fro++B9 (n-m) SD.no)else none
theorem uX{n m:Nat}{z:GZ}(ds:List D)(i:Nat)(h:Sy n m z ds=some i):ds.length=m:=by
 unfold Sy at h
 split at h
 ·assumption
 ·cases h
section
variable{P:Program}{w:World}{K:aA}{mg:Str→Option Value}{base:Heap}{κ:Nat→Addr}
theorem qg{X:Cx}{N ps:List Str}{z:GZ}{body:List Stmt}{t:TS}{vs:List V}{H:Hp}{Q:VK}{E:XK}(yb:Wi K κ X E body t z)(h:Ui K κ ps.length (Sy N.length ps.length z) vs H Q E):t {nx:=λ_ H'=>Q .non H',rt:=Q} (start N vs) H:=by
 obtain⟨ds,i,h1,h2,h3,kk⟩:=h
 unfold Sy at h3
 rw[if_pos h1]at h3
 refine yb.ev H _ _ H _ i ?_ h3 kk
 have hl:vs.length=ps.length:=by rw[h2.length];exact h1
 have:=vQ (k:=N.length-ps.length) h2
 unfold start
 rw[hl]
 exact this
end
section
variable{K:aA}{κ:Nat→Addr}{X:Cx}{E:XK}{z:GZ}{g:GS}{pos:Pos}
end
end L2


namespace L2
open PySem PySem.Spec PySem.Calls PyProof.Rows PyProof.V
abbrev nW:List Value:=[.type "ValueError", .type "Exception", .type "BaseException", .type "object"]
structure oJ(K:aA)(mg:Str→Option Value)(x:Str)(C:Addr):Prop where
 mg:mg x=some (.ref C)
 ok:J5 K C nW "ValueError.__new__" = true
theorem oJ.own{K:aA}{mg:Str→Option Value}{x:Str}{C:Addr}{h₀:Heap}(F:oJ K mg x C)(X:K.In h₀):OwnCls x C nW "ValueError.__new__" mg h₀:=by
 refine⟨F.mg,?_⟩
 have q:=F.ok
 unfold J5 at q
 split at q
 ·rename_i dd cd sl ho
  split at q
  ·rename_i C' bm k0 k1 k2 k3 n k5 hm hs
   simp only[B4,beq_iff_eq,K7]at q
   obtain⟨⟨⟨⟨⟨rfl,rfl⟩,hdel⟩,ht⟩,hok⟩,hni⟩:=q
   obtain⟨nm,bs,mro,ns,qn,hd,sn,sub,ab,col,del⟩:=cd
   dsimp only at hm hdel hok hni
   subst hm hdel
   have hsl:sl=#[k0,k1,k2,k3,some (.builtin "ValueError.__new__"),k5]:=by
    obtain⟨l⟩:=sl
    simp only at hs
    rw[hs]
   subst hsl
   exact⟨bm,ns,nm,qn,bs,hd,sn,sub,ab,col,dd,k0,k1,k2,k3,k5,_,X _ _ ho,.of_isNs (PySem.W.isNs_of_in X hok),PySem.W.nsMap_none_of_in X hok hni,PySem.W.tail_of_in X ht⟩
  ·cases q
 ·cases q
section
variable{P:Program}{w:World}{K:aA}{mg:Str→Option Value}{base:Heap}{N:List Str}{qual:Str}{scope:Scope}{f:Addr}{cd:Value}{A:Around}{outer:List Env}{s0:Shared}{H0:Hp}{E:XK}{κ:Nat→Addr}
 {x:Str} {C:Addr} {np cpos pos:Pos} {e:Expr} {es:List Expr} {tA:TA}
def tRz(E:XK)(C:Addr)(t:TA):TS:=λ_ σ H=>t σ H λvs H1=>vs.length≤sizeLine∧E (.ref C) none H1
theorem Wj(F:oJ K mg x C)(hg:Gl (jL (vV P w) P w K mg base N qual scope f cd A outer s0 H0 E) x)(ha:PA (jL (vV P w) P w K mg base N qual scope f cd A outer s0 H0 E) (e::es) tA)(hd:(x==("__debug__" : Str))=false:=by decide)
  (he:starEach (e::es) (jL (vV P w) P w K mg base N qual scope f cd A outer s0 H0 E).env=(false,eval e (jL (vV P w) P w K mg base N qual scope f cd A outer s0 H0 E).env)::starEach es (jL (vV P w) P w K mg base N qual scope f cd A outer s0 H0 E).env:=by rfl)
  (hpl:(backTo cpos (starEach es (jL (vV P w) P w K mg base N qual scope f cd A outer s0 H0 E).env)).any (·.1)=false:=by rfl) :
  PS (jL (vV P w) P w K mg base N qual scope f cd A outer s0 H0 E) (.Raise (some (.Call (.Name x np) (e::es) [] cpos)) none pos) (tRz E C tA):=by
 intro pins s σ H D I h
 obtain⟨tl,Nn,nm,q,bs,hdct,sn,sub,ab,col,dd,k0,k1,k2,k3,k5,mN,hC,hN,hni,T⟩:=(F.own I.mod.il).obj
 have hA:=ha cpos pins s σ H _ I h
 refine wpAny_Raise_call_subU (C:=C) (nm:=nm) (q:=q) (N:=Nn) (bs:=bs) (bm:=tl) (hdct:=hdct) (sn:=sn) (sub:=sub) (ab:=ab) (col:=col) (dd:=dd) (k0:=k0) (k1:=k1) (k2:=k2) (k3:=k3) (k5:=k5)
  N9 rfl N9 (mN:=mN) (T.hasType N9.hasBase) (I.ok.hd rfl) (by rw[he];show (false||(backTo cpos (starEach es _)).any (·.1))=false;rw[hpl];rfl) hni (rA I hg F.mg ⟨rfl,?_⟩ hd)
 rw[he]at hA ⊢
 refine Calls.evalArgs_plain (eY hA λus s1 ⟨vs,H1,I1,r,hl,q⟩=>⟨rfl,by show us.length≤sizeLine;rw[←r.length];exact hl,I1.bk _ _ hC,hN.keeps I1.bk,T.keeps I1.bk,λh' ee hx=>?_⟩)
 obtain⟨a1,a2,a3,a4,a5,a6,a7,a8⟩:=zK I1
 refine wpAny_leaves_madeW (base:=vU s1.heap (envOfC qual scope s0.heap.objs.size f cd::outer)) (h:=s1.heap) I1.ok.frames rfl (λb o q=>(xY q).1) (zJ a8 λb hb=>vW hb) hx λh'' t fl _ _ up=>?_
 exact Gf rfl a8 a1 a2 a3 a4 a5 a6 a7 fl ((Heap.UpToSlots.of_keeps hx.keeps).trans up) rfl I1.bare rfl q
def qi(i:Nat)(fs:FA):GZ:=λenv=>(fs (rE env)).bind λds=>if ds.length≤100 then some i else none
theorem uY{i:Nat}{fs:FA}(F:oJ K mg x (κ i))(hg:Gl (jL (vV P w) P w K mg base N qual scope f cd A outer s0 H0 E) x)(ha:XA K (jL (vV P w) P w K mg base N qual scope f cd A outer s0 H0 E) (e::es) tA fs)(hd:(x==("__debug__" : Str))=false:=by decide)
  (he:starEach (e::es) (jL (vV P w) P w K mg base N qual scope f cd A outer s0 H0 E).env=(false,eval e (jL (vV P w) P w K mg base N qual scope f cd A outer s0 H0 E).env)::starEach es (jL (vV P w) P w K mg base N qual scope f cd A outer s0 H0 E).env:=by rfl)
  (hpl:(backTo cpos (starEach es (jL (vV P w) P w K mg base N qual scope f cd A outer s0 H0 E).env)).any (·.1)=false:=by rfl) :
  YZ K κ (jL (vV P w) P w K mg base N qual scope f cd A outer s0 H0 E) E (.Raise (some (.Call (.Name x np) (e::es) [] cpos)) none pos) (tRz E (κ i) tA) (qi i fs):=⟨Wj F hg ha.pa hd he hpl,λB D σ H env j r q k=>by
 obtain⟨ds,q1,q2⟩:=aU q
 split at q2
 ·rename_i hl
  cases q2
  exact ha.ev σ H H (rE env) ds _ (Zn.self _ H) r.r q1 λvs H1 Z1 s1 t1 z1 rs=>⟨jB (by rw[rs.length];omega),k H1 (r.sub.trans s1)⟩
 ·cases q2⟩
end
abbrev Cx.tr(X:Cx)(pn:List (Addr×Obj))(Ex:Value→Shared→Prop):Cx:={X with pn:=pn,xe:=Ex}
abbrev Cx.hand(X:Cx)(pn:List (Addr×Obj))(e:Addr):Cx:={X with pn:=pn,A:=X.A.mark (some (.ref e)),calm:=false,xe:=λ_ _=>False}
section
variable{X:Cx}{pins yK pn:List (Addr×Obj)}{σ:St}{H:Hp}{s s':Shared}{Ex:Value→Shared→Prop}{e:Addr}{D:Ends}{fl:Flow}
theorem Inv.tr(I:Inv X pins σ H s)(Ex:Value→Shared→Prop):Inv (X.tr (X.pn++pins) Ex) [] σ H s:=
 ⟨⟨I.ok.mod,I.ok.kind,I.ok.glob,I.ok.blt,I.ok.above,I.ok.inj,I.ok.has,I.ok.cab,I.ok.hd,I.ok.frames,I.ok.LC,I.ok.dw,I.ok.bs,I.ok.Uc,I.ok.En,I.ok.Hx,I.ok.rR,I.ok.Yz⟩,I.os,I.bare,I.base,I.loc,I.cell,I.free,I.lF,λp hp=>I.pin p (by simpa using hp),I.hok,I.len⟩
theorem Inv.uZ(I:Inv (X.tr (X.pn++pins) Ex) yK σ H s):Inv X pins σ H s:=
 ⟨⟨I.ok.mod,I.ok.kind,I.ok.glob,I.ok.blt,I.ok.above,I.ok.inj,I.ok.has,I.ok.cab,I.ok.hd,I.ok.frames,I.ok.LC,I.ok.dw,I.ok.bs,I.ok.Uc,I.ok.En,I.ok.Hx,I.ok.rR,I.ok.Yz⟩,I.os,I.bare,I.base,I.loc,I.cell,I.free,I.lF,λp hp=>I.pin p (I0 _ hp),I.hok,I.len⟩
theorem Inv.hand(I:Inv X pins σ H s)(e:Addr):Inv (X.hand (X.pn++pins) e) [] σ H s:=
 ⟨⟨I.ok.mod,I.ok.kind,I.ok.glob,I.ok.blt,I.ok.above,I.ok.inj,I.ok.has,I.ok.cab,λz=>(by cases z),I.ok.frames,I.ok.LC,I.ok.dw,I.ok.bs,I.ok.Uc,I.ok.En,I.ok.Hx,I.ok.rR,I.ok.Yz⟩,I.os,I.bare,I.base,I.loc,I.cell,I.free,I.lF,λp hp=>I.pin p (by simpa using hp),I.hok,I.len⟩
theorem Inv.tH(hd:X.calm=true→X.A.handled=none)(I:Inv (X.hand (X.pn++pins) e) yK σ H s):Inv X pins σ H s:=
 ⟨⟨I.ok.mod,I.ok.kind,I.ok.glob,I.ok.blt,I.ok.above,I.ok.inj,I.ok.has,I.ok.cab,hd,I.ok.frames,I.ok.LC,I.ok.dw,I.ok.bs,I.ok.Uc,I.ok.En,I.ok.Hx,I.ok.rR,I.ok.Yz⟩,I.os,I.bare,I.base,I.loc,I.cell,I.free,I.lF,λp hp=>I.pin p (I0 _ hp),I.hok,I.len⟩
theorem SP.uZ(h:SP (X.tr (X.pn++pins) Ex) yK D fl s'):SP X pins D fl s':=by
 cases fl with
 | next=>obtain⟨σ',H',I,q⟩:=h;exact⟨σ',H',I.uZ,q⟩
 | brk=>obtain⟨σ',H',I,q⟩:=h;exact⟨σ',H',I.uZ,q⟩
 | cont=>obtain⟨σ',H',I,q⟩:=h;exact⟨σ',H',I.uZ,q⟩
 | ret u=>obtain⟨v,σ',H',I,r,q⟩:=h;exact⟨v,σ',H',I.uZ,r,q⟩
theorem SP.tH(hd:X.calm=true→X.A.handled=none)(h:SP (X.hand (X.pn++pins) e) yK D fl s'):SP X pins D fl s':=by
 cases fl with
 | next=>obtain⟨σ',H',I,q⟩:=h;exact⟨σ',H',I.tH hd,q⟩
 | brk=>obtain⟨σ',H',I,q⟩:=h;exact⟨σ',H',I.tH hd,q⟩
 | cont=>obtain⟨σ',H',I,q⟩:=h;exact⟨σ',H',I.tH hd,q⟩
 | ret u=>obtain⟨v,σ',H',I,r,q⟩:=h;exact⟨v,σ',H',I.tH hd,r,q⟩
end
abbrev Gi:=Nat→Nat→Bool
def sO(sub:Gi)(n nj:Nat):List (Nat×GS)→Nat→GS
 | [],_=>λ_=>.bad
 | (j,g)::r,i=>if i<n∧j<nj then(if sub i j=true then g else sO sub n nj r i)else λ_=>.bad
def Bv(z:GZ)(g:GS)(sub:Gi)(n nj:Nat)(hs:Nat→List (Nat×GS)):GS:=λenv=>match z env with
 | none=>g env
 | some i=>sO sub n nj (hs i) i env
section
variable{K:aA}{κ:Nat→Addr}{X:Cx}{sub:Gi}{n nj:Nat}{z:GZ}{g:GS}{st:Stmt}{pos:Pos}
theorem Rel.no{B H:Hp}{σ:St}{env:EN}{k:Nat}(h:Rel K B env σ H)(hk:k<env.length)(y:Option V):Rel K B (env.set k .no) (σ.set k y) H:=by
 obtain⟨A,a,b⟩:=h
 obtain⟨y0,A1,C,h1,h2,h3,h4,kk⟩:=a.focus (B6 hk)
 have g:aN (out H A) (out H (gZ nil C)):=kY (aN.refl _) λx q=>.inl ((h3 x).mpr (.inr (q.elim False.elim id)))
 exact⟨gZ nil C,kk (jH K H (out H (gZ nil C))) (λe D z _ q=>q.same (aN.refl _) g) .no y nil (λx q=>q.elim) (λ_ z=>z),b.trans g⟩
def gw(k:Nat)(g:GS):GS:=λenv=>if k<env.length then(match g (env.set k .no)with
 | .next env'=>if k<env'.length then .next (env'.set k .no)else .bad
 | _=>.bad)else .bad
structure YE(K:aA)(X:Cx)(k:Nat)(e:Addr)(sts:List Stmt)(t:TS)(g:GS):Prop where
 ps:Ce X sts t
 ev:∀(B:Hp)(D:Ends)(σ:St)(H:Hp)(env:EN),Rel K B env σ H→σ[k]?=some (some (.ref e))→Bq K B D (g env)→t D σ H
theorem Tc{M:Model}{A:Around}{E:Value→Shared→Prop}{pins:List (Addr×Obj)}{σ:St}{H:Hp}{s:Shared}{k:Nat}{nm:Str}{hp:Pos}{Q:Unit→Shared→Prop}(I:Inv X pins σ H s)(hN:X.N.Nodup)(hi:X.N[k]?=some nm)(hl:X.env.scope.names.lookup nm=some .local)
  (h:∀s',Inv X pins (σ.set k none) H s'→Q () s'):wpAny M A (do bindName X.env nm .none;unbindBehindTheSuite X.env nm hp) Q E s:=by
 obtain⟨m,hn,hlk⟩:=id I.loc
 have hcls:(X.env.scope.kind==.class||(X.env.scope.kind==.module&&X.env.locals != X.env.globals))=false:=by rw[I.ok.kind];rfl
 have vf:k<σ.length:=by rw[I.len];exact(C4.mp hi).1
 have Oc:=I.Oc
 refine wpAny_nameGoes_keeps hl hn hcls λh' v hn' hs=>?_
 refine h _ ⟨I.ok,I.os,I.bare,⟨λb o e n hb hx=>?_,λb o e n hb hx=>?_,I.base.free,λb o e hx=>?_,I.base.tups,I.base.xF,I.base.yJ⟩,⟨_,hn',λj y v' e1 e2 e3=>?_⟩,λy c e=>?_,I.free,I.lF,λp hp=>?_,λb ob e=>?_,by simpa using I.len⟩
 ·exact(hs.2 b (F2 (C3 (Heap.lt_size e) I.ok.above))).trans (I.base.keep b o e n hb hx)
 ·obtain⟨sl,e1⟩:=I.base.slot b o e n hb hx
  exact⟨sl,(hs.2 b (F2 (C3 (Heap.lt_size e) I.ok.above))).trans e1⟩
 ·obtain⟨o',e1⟩:=I.base.there b o e hx
  exact⟨o',(hs.2 b (F2 (C3 (Heap.lt_size e) I.ok.above))).trans e1⟩
 ·by_cases hj:j=k
  ·subst hj
   rw[L5 vf]at e2
   cases e2
  ·rw[K5 (Ne.symm hj)]at e2
   obtain⟨u',r',q⟩:=hlk j y v' e1 e2 e3
   refine⟨u',r',?_⟩
   rcases q with ⟨kk,e⟩ | ⟨kk,c,e,z⟩
   ·refine .inl ⟨kk,?_⟩
    have:y≠nm:=λe=>hj (yL hN e1 (e▸hi))
    simp[this,e]
   ·exact .inr ⟨kk,c,e,z.sameBut hs (Oc y c e)⟩
 ·obtain⟨w',z⟩:=I.cell y c e
  exact⟨w',z.sameBut hs (Oc y c e)⟩
 ·obtain⟨e,n,ne,nf,d⟩:=I.pin p hp
  exact⟨(hs.2 p.1 ne).trans e,n,ne,nf,d⟩
 ·refine(I.hok b ob e).stay (λc w' hc q=>(hs.2 c ?_).trans q) (λ_ q=>q) λ_ _ q=>q
  rintro rfl
  have hfree:=I.free
  rcases hc with hc | hc
  ·rw[←hc,hfree]at e;cases e
  ·rw[hfree]at hc;cases hc
theorem qj{P:Program}{w:World}{H:Hp}{h:Heap}{a:Addr}{o:HO}(x:gY P w H h a o):∃u,h.get? a=some u:=by
 cases o with
 | lst xs=>obtain⟨_,_,_,_,e⟩:=x;exact⟨_,e⟩
 | tup xs=>obtain⟨_,_,_,p⟩:=x;obtain⟨o,h1,_⟩:=p;exact⟨_,h1⟩
 | dK kvs=>obtain⟨_,_,_,_,o,_,_,e,_⟩:=x;exact⟨_,e⟩
 | dT kvs=>obtain⟨_,_,_,_,o,_,_,e,_⟩:=x;exact⟨_,e⟩
 | set S n=>obtain⟨o,_,_,_,e,_⟩:=x;exact⟨_,e⟩
 | ins C dx fs=>obtain⟨_,_,_,e,_⟩:=x;exact⟨_,e⟩
 | own y=>exact x
 | xd fs=>obtain⟨_,⟨_,_,_,e,_⟩,_⟩:=x;exact⟨_,e⟩
 | rng lo hi=>obtain⟨_,_,_,e⟩:=x;exact⟨_,e⟩
 | tZ ob u=>obtain⟨e,_⟩:=x;exact⟨_,e⟩
 | tbl ps=>exact⟨_,(show h.get? a=some _ from x)⟩
 | met f y=>exact⟨_,(show h.get? a=some _ from x)⟩
 | ext φ=>obtain⟨_,e,_⟩:=x;exact e
theorem Fl.e{P:Program}{w:World}{H:Hp}{l:List Env}{s1 s':Shared}{e:Addr}{cls:Value}(f:Fl l s1 e cls s')(hok:rQ P w H s1.heap):∃oe,s'.heap.get? e=some oe∧oe.cls=cls∧H e=none∧e∉frs l∧∀v,oe.data≠.cell v:=by
 obtain⟨a0,k1,k2,k3,oe,vs,T,oT,ts,he,hc,hd,_⟩:=f.wV
 have hn:e∉frs l:=λz=>by
  obtain⟨o',z1,z2⟩:=uU k3 e z
  rw[he]at z1
  cases z1
  exact z2 vs hd
 refine⟨oe,he,hc.1,?_,hn,λv z=>by rw[hd]at z;cases z⟩
 cases q:H e with
 | none=>rfl
 | some u=>
  obtain⟨o,q1⟩:=qj (hok e u q)
  rw[Du k2 hn]at q1
  cases q1
inductive HK(K:aA)(κ:Nat→Addr)(X:Cx)(n i:Nat):List ExceptHandler→List (Nat×GS)→Prop
 | nil:HK K κ X n i [] []
 | cons {x:Str} {np hp:Pos} {b₀:Stmt} {suite:List Stmt} {rest:List ExceptHandler} {j:Nat} {gh:GS} {r:List (Nat×GS)} (hm:X.mg x=some (.ref (κ j))) (hg:Gl X x) (hd:(x==("__debug__" : Str))=false)
   (hs:∀(pn:List (Addr×Obj))(e:Addr),∃t,YB K (X.hand pn e) (b₀::suite) t gh) (hr:HK K κ X n i rest r):HK K κ X n i (.ExceptHandler (some (.Name x np)) none (b₀::suite) hp::rest) ((j,gh)::r)
 | as {x nm:Str} {np hp:Pos} {b₀:Stmt} {suite:List Stmt} {rest:List ExceptHandler} {j k:Nat} {gh:GS} {r:List (Nat×GS)} (hm:X.mg x=some (.ref (κ j))) (hg:Gl X x) (hd:(x==("__debug__" : Str))=false) (hN:X.N.Nodup) (hk:X.N[k]?=some nm) (hl:X.env.scope.names.lookup nm=some .local)
   (hs:∀(pn:List (Addr×Obj))(e:Addr)(oe:Obj),i<n→oe.cls=.ref (κ i)→(e,oe)∈pn→∃t,YE K (X.hand pn e) k e (b₀::suite) t gh) (hr:HK K κ X n i rest r):HK K κ X n i (.ExceptHandler (some (.Name x np)) (some nm) (b₀::suite) hp::rest) ((j,gw k gh)::r)
theorem Fl.ty{M:Model}{l:List Env}{s1 s':Shared}{e:Addr}{cls:Value}(f:Fl l s1 e cls s'):K0 M s'.heap (typeOf (.ref e)) cls:=by
 obtain⟨a0,x⟩:=f.wV
 obtain⟨ob,h1,h2⟩:=x.there
 subst h2
 exact(T4 h1).andThen .now
theorem Td(XM:∀i j,i<n→j<nj→B5 K (.ref (κ i)) (.ref (κ j))=some (sub i j))(hk:X.K=K)(hst:X.stack=X.env::X.outer)(hfr:X.env.frame=some X.env.locals){pins:List (Addr×Obj)}{σ:St}{H B:Hp}{s1:Shared}{e:Addr}{i:Nat}{D:Ends}{env:EN}
  (r:Rel K B env σ H) (I:Inv X pins σ H s1) {hs:List ExceptHandler} {gs:List (Nat×GS)} (h:HK K κ X n i hs gs):∀(s':Shared),Fl X.stack s1 e (.ref (κ i)) s'→Bq K B D (sO sub n nj gs i env)→wpAny (model X.prog X.w) X.A (handleBy (.ref e) X.env hs) (SP X pins D) X.xe s':=by
 subst hk
 induction h with
 | nil=>intro s' f p;unfold sO at p;exact p.elim
 | @cons x np hp b₀ suite rest j gh rr hm hg hd hs hr ih=>
  intro s' f p
  unfold sO at p
  split at p
  ·rename_i hij
   have I':=I.landed f
   refine wpAny_handleBy_cons (codeAny_handlers_test ?_) (by intro q;cases q)
   have J:=I'.hand e
   refine rA (X:=X.hand (X.pn++pins) e) (u:=.ref (κ j)) J hg hm ?_ hd
   have xm:=XM i j hij.1 hij.2
   cases hb:sub i j with
   | true=>
    rw[hb]at xm
    rw[hb,if_pos rfl]at p
    refine(R0 (M:=model X.prog X.w) I'.uA f.ty xm).here ?_
    show codeAny _ _ _ _ _
    refine codeAny_handlers_suite ?_
    obtain⟨a0,wV⟩:=f.wV
    refine wpAny_setFlight_noneW wV.1 wV.2.2.1 wV.2.2.2.at λh' k1 k2 k3 k4=>?_
    have f':Fl X.stack s1 e (.ref (κ i)) {s' with heap:=h'}:=⟨⟨a0,k1,wV.2.1,k2,k3⟩,f.up.trans λb o hb hn=>⟨o.slots,k4 b o hb hn⟩,f.os,f.bare⟩
    have J2:=(I.landed f').hand e
    obtain⟨t,yb⟩:=hs (X.pn++pins) e
    exact wpAny_mono (yb.ps [] _ σ H D J2 (yb.ev B D σ H env r p)) (λfl s2 q=>q.tH I.ok.hd) λ_ _ z=>z.elim
   | false=>
    rw[hb]at xm
    rw[hb,if_neg B8]at p
    refine(R0 (M:=model X.prog X.w) I'.uA f.ty xm).here ?_
    exact ih s' f p
  ·exact p.elim
 | @as x nm np hp b₀ suite rest j k gh rr hm hg hd hN hkk hl hs hr ih=>
  intro s' f p
  unfold sO at p
  split at p
  ·rename_i hij
   have I':=I.landed f
   refine wpAny_handleBy_cons (codeAny_handlers_test ?_) (by intro q;cases q)
   have J:=I'.hand e
   refine rA (X:=X.hand (X.pn++pins) e) (u:=.ref (κ j)) J hg hm ?_ hd
   have xm:=XM i j hij.1 hij.2
   cases hb:sub i j with
   | true=>
    rw[hb]at xm
    rw[hb,if_pos rfl]at p
    refine(R0 (M:=model X.prog X.w) I'.uA f.ty xm).here ?_
    show codeAny _ _ _ _ _
    refine codeAny_handlers_suite_as ?_
    obtain⟨a0,wV⟩:=f.wV
    refine wpAny_setFlight_noneW wV.1 wV.2.2.1 wV.2.2.2.at λh' k1 k2 k3 k4=>?_
    have f':Fl X.stack s1 e (.ref (κ i)) {s' with heap:=h'}:=⟨⟨a0,k1,wV.2.1,k2,k3⟩,f.up.trans λb o hb hn=>⟨o.slots,k4 b o hb hn⟩,f.os,f.bare⟩
    have I2:=I.landed f'
    obtain⟨oe,x1,x2,x3,x4,x5⟩:=f'.e I.hok
    have ef:frs X.stack=X.env.locals::X.fs:=by rw[hst];show Y4 _ (X.env::X.outer)=X.env.locals::Y4 _ X.outer;rw[K1,hfr]
    rw[ef]at x4
    have I3:Inv X (pins++[(e,oe)]) σ H {s' with heap:=h'}:=I2.xO λp hp=>by
     rcases L8.mp hp with z | z
     ·exact I2.pin p (C9 _ z)
     ·rw[F6.mp z]
      exact⟨x1,x3,λz=>x4 (by have z:e=X.env.locals:=z;rw[z];exact D1),λz=>x4 (C5 _ z),x5⟩
    have J2:=I3.hand e
    obtain⟨t,yps,yev⟩:=hs (X.pn++(pins++[(e,oe)])) e oe hij.1 x2 (C9 _ (C9 _ D1))
    unfold gw at p
    split at p
    case isFalse=>exact p.elim
    rename_i hke
    refine uB (X:=X.hand (X.pn++(pins++[(e,oe)])) e) (v:=.ref e) J2 hN hkk (.inl hl) rfl (λs2 J3=>?_) (.inr hl)
    have hkσ:k<σ.length:=by rw[I.len];exact(C4.mp hkk).1
    have run:=yps [] s2 (σ.set k (some (.ref e))) H {nx:=λσ' H'=>∃env',gh (env.set k .no)=.next env'∧Rel X.K B env' σ' H',rt:=λ_ _=>False} J3 (yev B _ _ H (env.set k .no) (r.no hke _) (L5 hkσ) (by
     cases qq:gh (env.set k .no)with
     | next env'=>exact λσ' H' r'=>⟨env',rfl,r'⟩
     | ret d=>rw[qq]at p;exact p.elim
     | brk d=>rw[qq]at p;exact p.elim
     | cont d=>rw[qq]at p;exact p.elim
     | bad=>rw[qq]at p;exact p.elim
     | rete d e=>rw[qq]at p;exact p.elim))
    refine wpAny_mono run (λfl s3 q=>?_) λ_ _ z=>z.elim
    cases fl with
    | next=>
     obtain⟨σ',H',J4,env',q1,r'⟩:=q
     rw[q1]at p
     dsimp only at p
     split at p
     ·rename_i hk'
      have I5:Inv X (pins++[(e,oe)]) σ' H' s3:=J4.tH I.ok.hd
      have I6:Inv X pins σ' H' s3:=I5.xO λp hp=>I5.pin p (C9 _ (I0 _ hp))
      exact Tc I6 hN hkk hl λs4 I7=>⟨_,H',I7,p _ _ (r'.no hk' none)⟩
     ·exact p.elim
    | brk=>obtain⟨_,_,_,z⟩:=q;exact z.elim
    | cont=>obtain⟨_,_,_,z⟩:=q;exact z.elim
    | ret u=>obtain⟨_,_,_,_,_,z⟩:=q;exact z.elim
   | false=>
    rw[hb]at xm
    rw[hb,if_neg B8]at p
    refine(R0 (M:=model X.prog X.w) I'.uA f.ty xm).here ?_
    exact ih s' f p
  ·exact p.elim
structure ZS(K:aA)(κ:Nat→Addr)(X:Cx)(E:XK)(st:Stmt)(t:TS)(z:GZ):Prop where
 ps:∀(pins:List (Addr×Obj))(σ:St),Dv (vV X.prog X.w) X pins σ E→PS1 X pins σ st t
 ev:∀(B:Hp)(D:Ends)(σ:St)(H:Hp)(env:EN)(i:Nat),Rel K B env σ H→z env=some i→(∀H',aN H H'→E (.ref (κ i)) none H')→t D σ H
def aAg(K:aA)(z:GZ)(g:GS)(sub:Gi)(n nj:Nat)(gs:Nat→List (Nat×GS)):TS:=λD σ H=>∃B env,Rel K B env σ H∧Bq K B D (Bv z g sub n nj gs env)
theorem YL{h:ExceptHandler}{hs:List ExceptHandler}{gs:Nat→List (Nat×GS)}(XM:∀i j,i<n→j<nj→B5 K (.ref (κ i)) (.ref (κ j))=some (sub i j))(hN:∀pn,∃t,YB K (X.tr pn λ_ _=>False) [st] t g)(hZ:∀pn Ex E,∃t,ZS K κ (X.tr pn Ex) E st t z)(hH:∀i,HK K κ X n i (h::hs) (gs i))
  (hk:X.K=K:=by rfl) (hst:X.stack=X.env::X.outer:=by rfl) (hfr:X.env.frame=some X.env.locals:=by rfl) (Ss:X.calm=true:=by rfl):YS K X (.Try [st] (h::hs) [] [] pos) (aAg K z g sub n nj gs) (Bv z g sub n nj gs):=by
 refine⟨λpins s σ H D I ⟨B,env,r,p⟩=>?_,λB D σ H env r p=>⟨B,env,r,p⟩⟩
 refine wpAny_Try_except ?_
 unfold Bv at p
 cases hz:z env with
 | none=>
  rw[hz]at p
  obtain⟨t,yb⟩:=hN (X.pn++pins)
  refine wpAny_mono (yb.ps [] s σ H D (I.tr _) (yb.ev B D σ H env r p)) (λf s1 q=>?_) λ_ _ z=>z.elim
  cases f with
  | next=>exact wpAny_execs_nil q.uZ
  | brk=>exact q.uZ
  | cont=>exact q.uZ
  | ret u=>exact q.uZ
 | some i=>
  rw[hz]at p
  have fr:X.A.frames=some (X.env::X.outer):=by rw[←hst];exact I.ok.frames
  obtain⟨t,zs⟩:=hZ (X.pn++pins) (λev s'=>∃e H' s1,ev=.ref e∧Inv X pins σ H' s1∧Fl X.stack s1 e (.ref (κ i)) s'∧aN H H') (λcls _ H'=>cls=.ref (κ i)∧aN H H')
  have run:=zs.ps [] σ (λH2 s2 ev s' I2 c=>by
   obtain⟨e,cls,H',s1,rfl,I3,fl,rfl,sm⟩:=I2.ghost c
   exact⟨e,H',s1,rfl,I3.uZ,fl,sm⟩) s H D (I.tr _) (zs.ev B D σ H env i r hz λH' s=>⟨rfl,s⟩)
  refine wpAny_execs_cons (wpAny_mono run (λf s1 q=>?_) λev s1 q=>?_)
  ·cases f with
   | next=>exact wpAny_execs_nil (wpAny_execs_nil q.uZ)
   | brk=>exact q.uZ
   | cont=>exact q.uZ
   | ret u=>exact q.uZ
  ·obtain⟨e,H',sg,rfl,Ig,fl,sm⟩:=q
   obtain⟨a0,wV⟩:=fl.wV
   rw[hst]at wV
   refine wpAny_looks_onW fr hfr wV λh' held up=>wpAny_landsW held λh'' ql up'=>?_
   rw[←hst]at ql
   have fl2:Fl X.stack sg e (.ref (κ i)) {s1 with heap:=h''}:=⟨⟨a0,ql⟩,fl.up.trans (up.trans up'),fl.os,fl.bare⟩
   exact Td XM hk hst hfr (r.same sm) Ig (hH i) _ fl2 p
end
end L2


namespace L2
open PySem PySem.Spec PySem.Calls PyProof.Rows PyProof.V
theorem GF{K:aA}{c t:Value}{e:Addr}(hk:O9 K t c=some true):PySem.Answers (λs=>K.In s.heap∧∃oe,s.heap.get? e=some oe∧oe.cls=t) (.ref e) c true:=by
  intro dep tk prog w A R s hs
  obtain⟨h0,g,d,tt,os⟩:=s
  obtain⟨⟨X,oe,he,hc⟩,hq⟩:=hs
  have LT:K0 (model prog w) h0 (typeOf (.ref e)) t:=hc▸(T4 he).andThen .now
  unfold Builtin.«isinstance.nested»
  refine wpAny_bind (LT.at ?_)
  by_cases q:(t==c)=true
  · rw[if_pos q]
    first
      | ((repeat lk);exact hq tt)
      | exact wpAny_bind (wpAny_rule (hq tt))
      | exact wpAny_bind (wpAny_rule (wpAny_pure (hq tt)))
  · rw[if_neg q]
    obtain⟨hty,his,hsub⟩:=PySem.W.kit_cls (M:=model prog w) X hk
    have LI:K0 (model prog w) h0 (isInstance (.ref e) c) true:=LT.andThen hsub
    refine wpAny_bind (hty.at ?_)
    rw[if_pos (by decide)]
    k_delta "plainIsInstance"
    refine wpAny_bind (wpAny_bind (his.at ?_))
    simp only[Bool.not_true,V9,if_false]
    refine wpAny_bind (LI.at ?_)
    first
      | exact wpAny_pure (wpAny_pure (hq tt))
      | (simp only[if_true];first | exact wpAny_pure (wpAny_pure (hq tt)) | exact wpAny_pure (hq tt) | exact wpAny_bind (wpAny_pure (wpAny_pure (hq tt))))
section
variable{K:aA}{X:Cx}{κ:Nat→Addr}{pos p:Pos}
def YM(e:Addr)(T:String):List V→Hp→VK→Prop:=λxs H Q=>xs=[.ref e,.ty T]∧Q (.bl true) H
theorem YQ{pn:List (Addr×Obj)}{e:Addr}{oe:Obj}{t:Value}{T:String}(hpn:X.pn=pn)(hm:(e,oe)∈pn)(hc:oe.cls=t)(hk:O9 X.K t (.type T)=some true):iV X (.builtin "isinstance") (YM e T):=by
 intro pins s σ H xs us Q I r h
 obtain⟨rfl,q⟩:=h
 obtain⟨u,w',rfl,rx,rt⟩:=vals2 r
 cases rt
 cases rx
 have hp:=(I.pin (e,oe) (I0 _ (by rw[hpn];exact hm))).1
 exact PySem.call_isinstance (S:=λ_ R s=>(X.K.In s.heap∧∃oe,s.heap.get? e=some oe∧oe.cls=t)∧∀tk,R (.ok (.ret (.bool true))) {s with toks:=tk})
  (λprog w A R s hs=>PySem.isinstance_outer (GF hk 0 _ prog w A R s hs) (λz=>nomatch z)) ⟨⟨I.uA,oe,hp,hc⟩,λtk=>⟨.bl true,H,I.tok _,rfl,q⟩⟩
structure XE(K:aA)(X:Cx)(k:Nat)(ea:Addr)(e:Expr)(t:TE)(d:D):Prop where
 pe:PE X e t
 ev:∀(σ:St)(H:Hp)(Q:VK),σ[k]?=some (some (.ref ea))→(∀v H',aN H H'→Bf K H H' d v→Q v H')→t σ H Q
theorem YT{k:Nat}{ea:Addr}{e eT:Expr}{T:String}(h:PE X e (jF k))(hT:PE X eT (tC (.ty T)))(qm:iV X (.builtin "isinstance") (YM ea T)) (hg:Gl X "isinstance") (hm:X.mg "isinstance" = none) (hst:starEach (e::[eT]) X.env=(false,eval e X.env)::starEach [eT] X.env:=by rfl) (hst2:starEach [eT] X.env=(false,eval eT X.env)::starEach [] X.env:=by rfl)
  (hpl:(backTo pos (starEach [eT] X.env)).any (·.1)=false:=by rfl):XE K X k ea (.Call (.Name "isinstance" p) [e,eT] [] pos) (Zv (YM ea T) (bV (jF k) (bV (tC (.ty T)) iM))) (.bl true):=
 ⟨pM qm hg hm M6 (aV h (aV hT bI hst2) hst) (by decide) (by decide) hst hpl,λσ H Q hk q=>⟨_,hk,rfl,q _ H (aN.refl _) (.eX rfl (by unfold Rv;rfl))⟩⟩
end
section
variable{K:aA}{X:Cx}{g:GS}{pos:Pos}
def Bw(a b:D):Option D:=match a,b with
 | .lst ds,.int k=>if D.cT ds=true∧0≤k∧k≤1000∧ds.length≤1 then some (.lst (B9 k.toNat ds).flatten)else none
 | _,_=>none
theorem Jp{ds:List D}(h:D.cT ds=true):∀k:Nat,D.cT (B9 k ds).flatten=true
 | 0=>by rw[R7,T5,D.cT]
 | k+1=>by rw[G9,M3];exact NQ h (Jp h k)
theorem Pu{H:Hp}{ds:List D}{xs:List V}(h:cC K H ds xs):∀k:Nat,cC K H (B9 k ds).flatten (B9 k xs).flatten
 | 0=>by rw[R7,R7,T5,T5];unfold cC;rfl
 | k+1=>by rw[G9,G9,M3,M3];exact h.append (Pu h k)
theorem Wk{a b:Expr}{ta tb:TE}{f fb:FE}(ha:XN K X a ta f)(hb:XR K X b tb fb):XN K X (.BinOp a .Mult b pos) (Ck jl ta tb) (f2 Bw f fb):=⟨ha.hk,Ur TY ha.pe hb.pe,λσ H e d Q re q k=>by
 obtain⟨x,y,q1,q2,q3⟩:=mH q
 unfold Bw at q3
 split at q3
 ·split at q3
  ·rename_i ds kk hc
   cases q3
   refine ha.ev σ H e _ _ re q1 λv H1 s1 n1=>?_
   obtain⟨N,o,fr⟩:=n1
   unfold Ow at o
   obtain⟨ad,xs,B,rfl,o2,o3,o4,o5⟩:=o
   refine hb.ev σ H1 H1 e _ _ (Zn.self K H1) (re.same s1) q2 λv' H2 Z2 s2 t2 z2 rv=>?_
   unfold Rv at rv
   subst rv
   have rl:=gB.rv _ _ _ o5
   have hlen:=rl.length
   refine⟨ad,kk,xs,rfl,rfl,s2 _ _ o2,by omega,by omega,?_,λpp hpp=>?_⟩
   ·rw[hlen]
    refine jB ?_
    have:ds.length*kk.toNat≤1*kk.toNat:=Nat.mul_le_mul_right _ hc.2.2.2
    omega
   ·exact k _ _ ((s1.trans s2).trans (cM hpp _)) (uI (s1.trans s2) (.cT (Jp hc.1 _) (Pu (s2.Ou _ _ rl) _)) hpp)
  ·cases q3
 ·cases q3⟩
end
end L2


namespace L2
open PySem PySem.Spec PySem.Calls PyProof.Rows PyProof.V
section
variable{K:aA}{X:Cx}{pos p0:Pos}
end
end L2


namespace L2
open PySem PySem.Spec PySem.Calls PyProof.Rows PyProof.V Builtin Builtin.ObjectAttr Builtin.Getset_descriptor
section
variable{P:Program}{w:World}{A:Around}{E:Value→Shared→Prop}{s:Shared}{K:aA}{x D:Addr}{ox:Obj}{od:Option Obj}
theorem Wl:builtinKind "BaseException.__getattribute__" = some .slot:=by kernel_rfl
theorem Te:splitId "BaseException.__getattribute__" = some ("BaseException", "__getattribute__"):=by decide +kernel
theorem Wm(nm:Value):argsOk "BaseException.__getattribute__" ⟨.ref x::[nm],[]⟩:=F.args_bexc_ga _ _
theorem Tf{M:Model}{nm:Value}{Q:Unit→Shared→Prop}(L:K0 M s.heap (isInstance (.ref x) (.type "BaseException")) true) (q:Q () s):wpAny M A (checkBuiltinCall "BaseException.__getattribute__" ⟨.ref x::[nm],[]⟩) Q E s:=by
 have h:=@PySem.W.check_slot M A E s "BaseException.__getattribute__" "BaseException" "__getattribute__" (.ref x) [nm] [] Q Wl Te L (Wm nm) q
 exact h
structure zL(K:aA)(D:Addr):Prop where
 ga:J6 K (.ref D) "__getattribute__" = some (some (.builtin "BaseException.__getattribute__"))
 gt:J6 K (.ref D) "__getattr__" = some none
 cl:J6 K (.ref D) "__class__" = some (some (.builtin "object.__class__"))
 sp:P4 K (.builtin "object.__class__") "__get__" = some (some (.builtin "getset_descriptor.__get__"))
 tk:U0 K (.builtin "object.__class__")=some true
 mr:Q0 K D (.type "object")=some true
 bx:Y9 K (.ref D) (.type "BaseException")=some true
 ct:(Q2 K D).isSome=true
theorem Wn{M:Model}{h:Heap}(X:K.In h)(C:zL K D):K0 M h (Builtin.ObjectAttr.find (.ref x) (.ref D) "__class__") (.bind (.builtin "getset_descriptor.__get__") (.builtin "object.__class__")):=by
 have L1:=R1 (M:=M) X C.cl
 have L2:K0 M h (Builtin.ObjectAttr.getOf (some (.builtin "object.__class__"))) (some (.builtin "getset_descriptor.__get__")):=PySem.W.looks_specialIn X C.sp
 have L3:=PySem.W.looks_takesIn (M:=M) X C.tk
 exact L1.andThen (L2.andThen ((show K0 M h (Builtin.ObjectAttr.dataDescriptor? (some (.builtin "object.__class__")) (some (.builtin "getset_descriptor.__get__"))) (some (.builtin "getset_descriptor.__get__", .builtin "object.__class__"))from L3.andThen .now).andThen (PySem.W.Looks.tag .now)))
theorem GJ{R:Result→Shared→Prop}(X:K.In s.heap)(T:K0 (model P w) s.heap (typeOf (.ref x)) (.ref D))(C:zL K D)(h:R (.ok (.ret (.ref D))) s):codeAny (model P w) A (.call (.builtin "getset_descriptor.__get__") ⟨[.builtin "object.__class__", .ref x,.ref D],[]⟩) R s:=by
 obtain⟨hh,g,dr,t,os⟩:=s
 have L0:=T
 have L1:=PySem.W.looks_mroIn (M:=model P w) X C.mr
 refine codeAny_call_builtin W2.plain PySem.W.KF.entry_gs (W2.check _ _ _ _ _ _ _ _ PySem.W.KF.type_class (PySem.W.KF.args_gs _ _ _) ?_)
 unfold Builtin.«getset_descriptor.__get__» descrGet
 rw[PySem.W.dga_obj]
 refine wpAny_bind (wpAny_pure ?_)
 unfold descrGetter descrCheckInstance descrNameAndClass isInstance
 simp only[PySem.W.KF.owner_class]
 repeat lk
 refine⟨Code.quiet_builtin _ (by decide +kernel),codeAny_builtin PySem.W.KF.entry_class ?_⟩
 unfold Builtin.«object.__class__» shownTypeOf
 repeat lk
 exact h
theorem Tg{tk:Tok}{Q:Fin→Shared→Prop}(X:K.In s.heap)(T:K0 (model P w) s.heap (typeOf (.ref x)) (.ref D))(C:zL K D)(h:Q (.done (.ret (.ref D))) s):wpAny (model P w) A (Builtin.«object.__getattribute__» ⟨[.ref x,.str "__class__" tk],[]⟩) Q E s:=by
 obtain⟨hh,g,d,t,os⟩:=s
 have L0:=T
 have L3:=Wn (M:=model P w) (x:=x) X C
 unfold Builtin.«object.__getattribute__»
 refine wpAny_bind (wpAny_pure ?_)
 refine wpAny_bind (wpAny_pure ?_)
 refine wpAny_bind (L0.at ?_)
 refine wpAny_bind (L3.at ?_)
 show wpAny _ _ (holding [.builtin "object.__class__"] (call (.builtin "getset_descriptor.__get__") [.builtin "object.__class__", .ref x,.ref D]) >>= ret) _ _ _
 exact wpAny_bind (wpAny_holding (wpAny_call (GJ (s:=⟨hh,g,d,t,os⟩) X T C (wpAny_pure h))))
theorem Th{Q:Option Value→Shared→Prop}(X:K.In s.heap)(T:K0 (model P w) s.heap (typeOf (.ref x)) (.ref D))(C:zL K D)
  (h:Q (some (.ref D)) {s with toks:=s.toks+1}):wpAny (model P w) A (getAttr? (.ref x) "__class__") Q E s:=by
 obtain⟨hh,g,d,t,os⟩:=s
 have L0:=T
 have L1:=R1 (M:=model P w) X C.ga
 have L2:=R1 (M:=model P w) X C.gt
 have L4:K0 (model P w) hh (isInstance (.ref x) (.type "BaseException")) true:=L0.andThen (PySem.W.looks_subIn X C.bx)
 have bnd:=F.excAttr_ValueError.ga.bind (.ref x)
 unfold getAttr? getAttrBy? getAttrBy
 refine wpAny_bind (wpAny_mkText (wpAny_bind (wpAny_attempt (wpAny_holding (wpAny_bind (L0.at (wpAny_bind (L1.at ?_))))))))
 show wpAny _ _ (getAttrByItsOwn _ _ _ _ _ _) _ _ _
 unfold getAttrByItsOwn
 have e1:hookBefore (.ref D)=typeLookup (.ref D) "__getattr__" := rfl
 rw[e1]
 refine wpAny_bind (L2.at (wpAny_bind (wpAny_attempt (wpAny_holding ?_))))
 have e2:∀nm,callGetattribute (.ref x) nm (.builtin "BaseException.__getattribute__") false=boundAndCalled (.builtin "BaseException.__getattribute__") (.ref x) nm:=λ_=>rfl
 rw[e2]
 unfold boundAndCalled
 rw[bnd]
 refine wpAny_bind (wpAny_pure ?_)
 refine wpAny_call (f:=.builtin "BaseException.__getattribute__") (pos:=[.ref x,.str "__class__" t]) (kw:=[]) (codeAny_call_builtin F.excAttr_ValueError.ga.plain F.entry_bexc_ga ?_)
 refine Tf (s:=⟨hh,g,d,t+1,os⟩) L4 ?_
 refine Tg (s:=⟨hh,g,d,t+1,os⟩) X T C ?_
 show wpAny _ _ (handedOut (.ref D)) _ _ _
 refine PySem.W.handed_on rfl ?_
 exact wpAny_pure h
theorem PB{M:Model}{h:Heap}{e:Addr}{oe:Obj}{t:Value}(h1:h.get? e=some oe)(h2:oe.cls=t):K0 M h (typeOf (.ref e)) t:=h2▸(T4 h1).andThen .now
theorem Jq{e:Addr}(F:zL K D):PySem.W.KitX K (.ref e) (.ref D) (λh=>∃oe,h.get? e=some oe∧oe.cls=.ref D) where
 ty:=λ_ _ _ ⟨oe,h1,h2⟩=>PB h1 h2
 it:=λ_ _ X _=>by
  obtain⟨cd,hc⟩:=O5.mp F.ct
  unfold Q2 at hc
  split at hc
  ·rename_i ho
   intro A' Q' E' s' k q
   unfold isType loadHead
   exact wpAny_bind (wpAny_loadPart (k _ _ (X _ _ ho)) (wpAny_pure q))
  ·cases hc
 ne:=λh tp dd its n sl X htp=>by
  obtain⟨cd,hc⟩:=O5.mp F.ct
  refine W7.mpr λq=>?_
  have e:D=tp:=Value.ref.inj (beq_iff_eq.mp q)
  subst e
  unfold Q2 at hc
  split at hc
  ·rename_i ho
   have z:=(X _ _ ho).symm.trans htp
   cases z
  ·cases hc
 ca:=λX ⟨oe,h1,h2⟩ k=>Th X (PB h1 h2) F k
end
section
variable{K:aA}{X:Cx}{κ:Nat→Addr}{pos p:Pos}
def YW(e C:Addr)(b:Bool):List V→Hp→VK→Prop:=λxs H Q=>xs=[.ref e,.ref C]∧Q (.bl b) H
theorem YX{pn:List (Addr×Obj)}{e C D:Addr}{oe:Obj}{b:Bool}(hpn:X.pn=pn)(hm:(e,oe)∈pn)(hc:oe.cls=.ref D)(F:zL X.K D)(hk:O8 X.K (.ref D) (.ref C)=some b):iV X (.builtin "isinstance") (YW e C b):=by
 intro pins s σ H xs us Q I r h
 obtain⟨rfl,q⟩:=h
 obtain⟨u,w',rfl,rx,rt⟩:=vals2 r
 cases rt
 cases rx
 have hp:=(I.pin (e,oe) (I0 _ (by rw[hpn];exact hm))).1
 exact F8 (Jq F) I.uA ⟨oe,hp,hc⟩ hk (λz=>nomatch z) λtk=>⟨.bl b,H,I.tok _,rfl,q⟩
def ZC(K:aA)(e:Addr)(cs:List Addr)(b:Bool):List V→Hp→VK→Prop:=λxs H Q=>∃a,xs=[.ref e,.ref a]∧pI K H a (cs.map V.ref)∧Q (.bl b) H
theorem GK{cs:List Addr}:∀{us:List Value},Vals (cs.map V.ref) us→us=cs.map Value.ref:=by
 induction cs with
 | nil=>intro us h;cases h;rfl
 | cons c cs ih=>
  intro us h
  cases h with
  | cons h1 h2=>
   rw[ih h2]
   cases h1
   rfl
theorem Mx{pn:List (Addr×Obj)}{e D:Addr}{cs:List Addr}{oe:Obj}{b:Bool}(hpn:X.pn=pn)(hm:(e,oe)∈pn)(hc:oe.cls=.ref D)(F:zL X.K D)(hk:U9 X.K (.ref D) (cs.map Value.ref)=some b):iV X (.builtin "isinstance") (ZC X.K e cs b):=by
 intro pins s σ H xs us Q I r h
 obtain⟨a,rfl,ht,q⟩:=h
 obtain⟨u,w',rfl,rx,rt⟩:=vals2 r
 cases rt
 cases rx
 have hp:=(I.pin (e,oe) (I0 _ (by rw[hpn];exact hm))).1
 obtain⟨its,rv,pl,hz⟩:=I.tuple ht
 obtain⟨o,h1,h2,n,h3⟩:=pl
 rw[GK rv]at h3
 obtain⟨oc,dd,dt,sl⟩:=o
 dsimp only at h2 h3
 subst h2 h3
 exact PySem.W.kia_tup (Jq F) I.uA ⟨oe,hp,hc⟩ h1 hk (λz=>nomatch z) λtk=>⟨.bl b,H,I.tok _,rfl,q⟩
structure GP(K:aA)(X:Cx)(k:Nat)(ea:Addr)(e:Expr)(t:TE)(f:FE):Prop where
 hk:X.K=K
 pe:PE X e t
 ev:∀(σ:St)(H:Hp)(de:DE)(d:D)(Q:VK),pD K H de σ→σ[k]?=some (some (.ref ea))→f de=some d→(∀v H',aN H H'→Bf K H H' d v→Q v H')→t σ H Q
theorem qp{k:Nat}{ea:Addr}{e:Expr}{t:TE}{d:D}(h:XE K X k ea e t d)(hk:X.K=K:=by rfl):GP K X k ea e t (fC d):=⟨hk,h.pe,λσ H de d' Q re hs q kk=>by cases q;exact h.ev σ H Q hs kk⟩
theorem GQ{k:Nat}{ea C:Addr}{b:Bool}{e eT:Expr}(h:PE X e (jF k))(hT:PE X eT (tC (.ref C)))(qm:iV X (.builtin "isinstance") (YW ea C b)) (hg:Gl X "isinstance") (hm:X.mg "isinstance" = none) (hk:X.K=K:=by rfl) (hst:starEach (e::[eT]) X.env=(false,eval e X.env)::starEach [eT] X.env:=by rfl) (hst2:starEach [eT] X.env=(false,eval eT X.env)::starEach [] X.env:=by rfl)
  (hpl:(backTo pos (starEach [eT] X.env)).any (·.1)=false:=by rfl):GP K X k ea (.Call (.Name "isinstance" p) [e,eT] [] pos) (Zv (YW ea C b) (bV (jF k) (bV (tC (.ref C)) iM))) (fC (.bl b)):=
 ⟨hk,pM qm hg hm M6 (aV h (aV hT bI hst2) hst) (by decide) (by decide) hst hpl,λσ H de d Q re hs q kk=>by
  cases q
  exact⟨_,hs,rfl,kk _ H (aN.refl _) (.eX rfl (by unfold Rv;rfl))⟩⟩
def Px:List Addr→TA
 | []=>iM
 | c::cs=>bV (tC (.ref c)) (Px cs)
theorem Jr{σ:St}{H:Hp}:∀{cs:List Addr} {Q:List V→Hp→Prop},Q (cs.map V.ref) H→Px cs σ H Q
 | [],Q,q=>q
 | c::cs,Q,q=>Jr (cs:=cs) (Q:=λxs H1=>Q (.ref c::xs) H1) q
theorem Gj{k:Nat}{ea:Addr}{cs:List Addr}{b:Bool}{e eT:Expr}(hl:cs.length≤100)(h:PE X e (jF k))(hT:PE X eT (Uw (Px cs)))(qm:iV X (.builtin "isinstance") (ZC K ea cs b)) (hg:Gl X "isinstance") (hm:X.mg "isinstance" = none) (hk:X.K=K:=by rfl) (hst:starEach (e::[eT]) X.env=(false,eval e X.env)::starEach [eT] X.env:=by rfl) (hst2:starEach [eT] X.env=(false,eval eT X.env)::starEach [] X.env:=by rfl)
  (hpl:(backTo pos (starEach [eT] X.env)).any (·.1)=false:=by rfl):GP K X k ea (.Call (.Name "isinstance" p) [e,eT] [] pos) (Zv (ZC K ea cs b) (bV (jF k) (bV (Uw (Px cs)) iM))) (fC (.bl b)):=
 ⟨hk,pM qm hg hm M6 (aV h (aV hT bI hst2) hst) (by decide) (by decide) hst hpl,λσ H de d Q re hs q kk=>by
  cases q
  refine⟨_,hs,?_⟩
  refine Jr ⟨jB (by rw[B3];omega),λl hl=>?_⟩
  exact⟨l,rfl,pI.of bW,kk _ _ (cM hl _) (.eX rfl (by unfold Rv;rfl))⟩⟩
structure wz(K:aA)(X:Cx)(k:Nat)(ea:Addr)(es:List Expr)(t:TA)(fs:FA):Prop where
 hk:X.K=K
 pa:PA X es t
 ev:∀(σ:St)(H:Hp)(de:DE)(ds:List D)(Q:List V→Hp→Prop),pD K H de σ→σ[k]?=some (some (.ref ea))→fs de=some ds→(∀vs H',aN H H'→Bm K H H' ds vs→Q vs H')→t σ H Q
theorem Gk{k:Nat}{ea:Addr}(hk:X.K=K:=by rfl):wz K X k ea [] iM aG:=⟨hk,bI,λσ H de ds Q re hs q kk=>by
 cases q
 exact kk [] H (aN.refl _) ⟨nil,by unfold gB;exact⟨λ_ z=>z,rfl⟩,λ_ z=>z.elim⟩⟩
theorem qJ{k:Nat}{ea:Addr}{e:Expr}{es:List Expr}{t:TE}{tA:TA}{f:FE}{fs:FA}(h:GP K X k ea e t f)(hs:wz K X k ea es tA fs)(hst:starEach (e::es) X.env=(false,eval e X.env)::starEach es X.env:=by rfl):wz K X k ea (e::es) (bV t tA) (aB f fs):=⟨h.hk,aV h.pe hs.pa hst,λσ H de ds Q re hσ q kk=>by
 obtain⟨a,r,h1,h2,rfl⟩:=pU q
 refine h.ev σ H de a _ re hσ h1 λx H1 s1 n1=>hs.ev σ H1 de r _ (re.same s1) hσ h2 λvs H2 s2 n2=>?_
 refine kk _ H2 (s1.trans s2) ?_
 obtain⟨A,oA,fA⟩:=n1
 obtain⟨B,oB,fB⟩:=n2
 refine⟨gZ A B,?_,λp q=>q.elim (fA p) λz=>s1.free (fB p z)⟩
 unfold gB
 refine⟨x,vs,A,B,rfl,λp qa qb=>?_,λ_=>Iff.rfl,oA.same s2,oB⟩
 obtain⟨⟨o,e1⟩,_⟩:=Ow.cells _ _ _ oA p qa
 rw[fB p qb]at e1;cases e1⟩
theorem Gm{k:Nat}{ea:Addr}{es:List Expr}{tA:TA}{fs:FA}(h:wz K X k ea es tA fs):GP K X k ea (.List es pos) (Rn tA) (eG fs):=⟨h.hk,Lg h.pa,λσ H de d Q re hs q kk=>by
 unfold eG at q
 obtain⟨ds,h1,h2⟩:=aU q
 obtain⟨hc,rfl⟩:=uH h2
 refine h.ev σ H de ds _ re hs h1 λxs H1 s1 n=>⟨jB (by rw[n.rv.length];exact hc),λp hp=>?_⟩
 exact kk _ _ (s1.trans (cM hp _)) (uI s1 n hp)⟩
theorem GR{k i:Nat}{ea:Addr}{e:Expr}{te:TE}{f:FE}{x:Str}{pos':Pos}(h:GP K X k ea e te f)(hp:PE X e te→PS X (.Assign [.Name x pos'] e pos) (nO te (cB i))):YE K X k ea [.Assign [.Name x pos'] e pos] (nO te (cB i)) (bD i f):=
 ⟨xP (hp h.pe),λB D σ H env r hk q=>by
  unfold bD at q
  split at q
  ·rename_i d qf
   split at q
   ·rename_i hi
    exact h.ev σ H (rE env) d _ r.r hk qf λv H' s n=>q _ _ (r.own hi s n)
   ·exact q.elim
  ·exact q.elim⟩
theorem Wo{k i:Nat}{ea:Addr}{e:Expr}{te:TE}{f:FE}{x:Str}{pos':Pos}{st:Stmt}{sts:List Stmt}{t:TS}{g:GS}(hki:i≠k)(h:GP K X k ea e te f)(hp:PE X e te→PS X (.Assign [.Name x pos'] e pos) (nO te (cB i)))(hr:YE K X k ea (st::sts) t g):YE K X k ea (.Assign [.Name x pos'] e pos::st::sts) (Rf (nO te (cB i)) t) (aQ (bD i f) g):=
 ⟨uC (hp h.pe) hr.ps,λB D σ H env r hk q=>by
  cases qf:f (rE env)with
  | none=>
   have z:aQ (bD i f) g env=.bad:=by unfold aQ bD;rw[qf]
   rw[z]at q
   exact q.elim
  | some d=>
   by_cases hi:i<env.length
   ·have z:aQ (bD i f) g env=g (env.set i (.own d)):=by unfold aQ bD;rw[qf];dsimp only;rw[if_pos hi]
    rw[z]at q
    exact h.ev σ H (rE env) d _ r.r hk qf λv H' s n=>hr.ev B D _ H' _ (r.own hi s n) (by rw[K5 hki];exact hk) q
   ·have z:aQ (bD i f) g env=.bad:=by unfold aQ bD;rw[qf];dsimp only;rw[if_neg hi]
    rw[z]at q
    exact q.elim⟩
end
end L2


namespace L2
open PySem PySem.Spec PySem.Calls PyProof.Rows PyProof.V
section
variable{P:Program}{w:World}{K:aA}{mg:Str→Option Value}{base:Heap}{κ:Nat→Addr}
theorem Raw.GX{x:Str}{st:Stmt}{N ps:List Str}{k:Nat}{z:GZ}(R:Raw K mg x st)(S:bO N ps (aM st))
  (hb:∀(kV doc pm:Value)(an:Option Addr)(cdv ct:Value)(us:List Value),us.length=ps.length→bindArgs (G6 x x (fV st) (cQ st) (aM st) .none kV doc pm an cdv ct) ⟨us,[]⟩=pure (ps.zip us))
  (hbody:∀(f:Addr)(cdv:Value)(A:Around)(outer:List Env)(s:Shared)(H:Hp)(E:XK),kI k (A.deeper (envOfC x (aM st) s.heap.objs.size f cdv))→∃t,Wi K κ (jL (vV P w) P w K mg base N x (aM st) f cdv A outer s H E) E (cQ st) t z):Bu P w K mg base x (k+1) ps.length (Ui K κ ps.length (Sy N.length ps.length z)):=by
 obtain⟨f,fd,F,m⟩:=R.ex
 have kp:=F.kp
 obtain⟨oc,od,kV,doc,pm,an,cdv,ct,osl,rfl,lk,hcd⟩:=F.ex
 refine⟨f,_,ps,rfl,MF lk hcd S (λvs H Q E h=>?_) λA outer s H vs Q E hr hsp=>?_,.all (hb kV doc pm an cdv ct),kp,m⟩
 ·obtain⟨ds,d,h1,h2,_⟩:=h
  rw[h2.length];exact h1
 obtain⟨t,yb⟩:=hbody f cdv A outer s H E hr
 exact⟨t,yb.ps,qg yb hsp⟩
end
section
variable{K:aA}{κ:Nat→Addr}{X:Cx}{E:XK}{pos:Pos}
theorem HD{i:Nat}{x:Str}{e:Expr}{te:TE}{pos':Pos}{pins:List (Addr×Obj)}{σ:St}(hN:X.N.Nodup)(hi:X.N[i]?=some x)(hx:Loc X.env.scope x)(he:wy X pins σ e te)(hs:swapsWith e (some (.Name x pos')) pos.line X.env=pure false)(hf:X.fn x=true∨X.env.scope.names.lookup x=some .local) :
  PS1 X pins σ (.Assign [.Name x pos'] e pos) (nO te (cB i)):=by
 intro s H D I h
 refine wpAny_Assign_Name (eY (he s H _ I h) λv s1 ⟨y,H1,I1,r1,q1⟩=>?_) hs
 exact uB I1 hN hi hx r1 (λs2 I2=>⟨_,H1,I2,q1⟩) hf
theorem ZD{i:Nat}{x:Str}{e:Expr}{te:TE}{pos':Pos}{zz:DE→Option Nat}(h:OJ K κ X E e te zz)(hN:X.N.Nodup)(hi:X.N[i]?=some x)(hx:Loc X.env.scope x)(hs:swapsWith e (some (.Name x pos')) pos.line X.env=pure false:=by rfl)(hf:X.fn x=true∨X.env.scope.names.lookup x=some .local:=by first | exact .inl rfl | exact .inr rfl | assumption):ZS K κ X E (.Assign [.Name x pos'] e pos) (nO te (cB i)) (zX zz):=
 ⟨λpins σ hp=>HD hN hi hx (h.pe pins σ hp) hs hf,λB D σ H env i r q k=>h.ev σ H (rE env) i _ r.r q k⟩
end
end L2


namespace L2
open PySem PySem.Spec PySem.Calls PyProof.Rows PyProof.V
def xf:D→Option String
  | .int _=>some "int" | .bl _=>some "bool" | .str _=>some "str" | .non=>some "NoneType" | .lst _=>some "list" | .tup _=>some "tuple" | .dk _ _=>some "dict"
  | _=>none
abbrev Py:List String:=["int", "bool", "str", "list", "tuple"]
def Ti(t T:String):Bool:=t==T||(t == "bool" && T == "int")
theorem oV{K:aA}:∀t∈["int", "bool", "str", "NoneType", "list", "tuple", "dict"],∀T∈Py,O8 K (.type t) (.type T)=some (Ti t T):=by
 intro t ht T hT
 simp only[G2,X6,or_false]at ht hT
 rcases ht with rfl | rfl | rfl | rfl | rfl | rfl | rfl<;>rcases hT with rfl | rfl | rfl | rfl | rfl<;>with_unfolding_all rfl
section
variable{K:aA}{X:Cx}{e:Expr}{t:TE}{f:FE}{pos:Pos}
def HF(T:String)(d:D):Option D:=if T∈Py then(xf d).map λt=>.bl (Ti t T)else none
def mF(T:String)(f:FE):FE:=λe=>(f e).bind (HF T)
def qt(K:aA)(T:String):List V→Hp→VK→Prop:=λxs H Q=>T∈Py∧∃x d t,xs=[x,.ty T]∧Rv K H d x∧xf d=some t∧Q (.bl (Ti t T)) H
theorem ZF{T:String}(hk:X.K=K):iV X (.builtin "isinstance") (qt K T):=by
 subst hk
 intro pins s σ H xs us Q I r h
 obtain⟨hT,x,d,t,rfl,rv,ht,q⟩:=h
 obtain⟨u,w',rfl,rx,rt⟩:=vals2 r
 cases rt
 have fin:∀tk,EP X pins σ Q (.bool (Ti t T)) {s with toks:=tk}:=λtk=>⟨.bl _,H,I.tok _,rfl,q⟩
 cases d with
 | non=>cases ht;unfold Rv at rv;subst rv;exact rB I rx .non (oV _ (by decide) T hT) fin
 | bl b=>cases ht;unfold Rv at rv;subst rv;exact rB I rx (.bl b) (oV _ (by decide) T hT) fin
 | int i=>cases ht;unfold Rv at rv;subst rv;exact rB I rx (.int i) (oV _ (by decide) T hT) fin
 | str y=>cases ht;unfold Rv at rv;subst rv;exact rB I rx (.str y) (oV _ (by decide) T hT) fin
 | lst ds=>
  cases ht
  unfold Rv at rv
  obtain⟨a,xs,rfl,e2,_⟩:=rv
  cases(show u=Value.ref a from rx)
  obtain⟨its,_,pl,_⟩:=I.list e2
  obtain⟨o,n,h1,h2,_⟩:=pl
  exact F8 S7 I.uA ⟨o,h1,h2⟩ (oV _ (by decide) T hT) (λz=>nomatch z) fin
 | tup ds=>
  cases ht
  unfold Rv at rv
  obtain⟨a,xs,rfl,e2,_⟩:=rv
  cases(show u=Value.ref a from rx)
  obtain⟨its,_,pl,_⟩:=I.tuple e2
  obtain⟨o,h1,h2,_⟩:=pl
  exact F8 V7 I.uA ⟨o,h1,h2⟩ (oV _ (by decide) T hT) (λz=>nomatch z) fin
 | dk ks ds=>
  cases ht
  unfold Rv at rv
  obtain⟨a,xs,rfl,e2,_⟩:=rv
  cases(show u=Value.ref a from rx)
  obtain⟨_,_,vs,_,p⟩:=jq I.hok e2
  obtain⟨o,es,ep,h1,h2,_⟩:=p
  exact F8 S8 I.uA ⟨o,h1,h2.1⟩ (oV _ (by decide) T hT) (λz=>nomatch z) fin
 | dt ks ds=>cases ht
 | ins C nm ds=>cases ht
theorem lD{T:String}{p:Pos}{eT:Expr}(h:XR K X e t f)(hT:PE X eT (tC (.ty T)))(hg:Gl X "isinstance") (hm:X.mg "isinstance" = none) (hst:starEach (e::[eT]) X.env=(false,eval e X.env)::starEach [eT] X.env:=by rfl) (hst2:starEach [eT] X.env=(false,eval eT X.env)::starEach [] X.env:=by rfl)
  (hpl:(backTo pos (starEach [eT] X.env)).any (·.1)=false:=by rfl):XN K X (.Call (.Name "isinstance" p) [e,eT] [] pos) (Zv (qt K T) (bV t (bV (tC (.ty T)) iM))) (mF T f):=
 ⟨h.hk,pM (ZF h.hk) hg hm M6 (aV h.pe (aV hT bI hst2) hst) (by decide) (by decide) hst hpl,λσ H e d Q re q k=>by
  unfold mF at q
  obtain⟨d0,q1,q2⟩:=aU q
  unfold HF at q2
  split at q2
  ·rename_i hT'
   obtain⟨ty,q3,rfl⟩:=iZ q2
   refine h.ev σ H H e d0 _ (Zn.self K H) re q1 λv H1 Z1 s1 t1 z1 rv=>?_
   exact⟨hT',v,d0,ty,rfl,z1.sm.rv _ _ rv,q3,k _ H1 s1 (.eX rfl (by unfold Rv;rfl))⟩
  ·cases q2⟩
end
end L2


set_option maxHeartbeats 1000000
namespace L2
open PySem PySem.Spec PySem.Calls PyProof.Rows PyProof.V
theorem HH{lo hi:Option Int}{n:Nat}(hl:∀i,lo=some i→0≤i)(hh:∀j,hi=some j→0≤j):Builtin.Str.strSliceIndices lo hi 1 n=Builtin.Str.strSliceIndices (some ((HT.pJ n 0 lo:Nat):Int)) (some ((HT.pJ n n hi:Nat):Int)) 1 n:=by
 have k:∀(v:Option Int)(d:Nat),d≤n→(∀i,v=some i→0≤i)→(match v with | none=>(d:Int) | some i=>max 0 (min (if i<0 then i+(n:Int)else i) (n:Int)))=max 0 (min (if((HT.pJ n d v:Nat):Int)<0 then((HT.pJ n d v:Nat):Int)+(n:Int)else((HT.pJ n d v:Nat):Int)) (n:Int)):=by
  intro v d hd hv
  cases v with
  | none=>
   show (d:Int)=_
   rw[HT.Ux,if_neg (by omega)]
   omega
  | some i=>
   have:=hv i rfl
   show max 0 (min (if i<0 then i+(n:Int)else i) (n:Int))=_
   rw[show HT.pJ n d (some i)=min i.toNat n from by show (if i<0 then _ else _)=_;rw[if_neg (by omega)],if_neg (by omega),if_neg (by omega)]
   omega
 have k1:=k lo 0 (O1 _) hl
 have k2:=k hi n (D2 _) hh
 unfold Builtin.Str.strSliceIndices
 simp only[show ((1:Int) > 0)=True from by simp,if_true]
 rw[←k1,←k2]
 cases lo<;>cases hi<;>rfl
def Wq(z:Str)(lo hi:Option Int):Str:=⟨(iY z.cps.toList lo hi).toArray⟩
theorem Wr{z:Str}{t:Tok}{l u:Option (Int×Tok)}(hl:∀i,l.map (·.1)=some i→0≤i)(hh:∀j,u.map (·.1)=some j→0≤j)(hab:HT.pJ z.length 0 (l.map (·.1))≤HT.pJ z.length z.length (u.map (·.1))) :
  sliceMade z t l u none=.str (Wq z (l.map (·.1)) (u.map (·.1)))∨(sliceMade z t l u none=.val (.str z t)∧Wq z (l.map (·.1)) (u.map (·.1))=z):=by
 have hlen:z.cps.toList.length=z.length:=K8
 have hb:HT.pJ z.length z.length (u.map (·.1))≤z.length:=by
  cases hu:u.map (·.1)with
  | none=>exact D2 _
  | some j=>
   have:=hh j hu
   show (if j<0 then _ else min j.toNat z.length)≤_
   rw[if_neg (by omega)]
   omega
 have e:slicePicked z l u none=Builtin.Str.strSliceIndices (some ((HT.pJ z.length 0 (l.map (·.1)):Nat):Int)) (some ((HT.pJ z.length z.length (u.map (·.1)):Nat):Int)) 1 z.length:=HH hl hh
 have cut:(slicePicked z l u none).filterMap (z.cps[·]?)=iY z.cps.toList (l.map (·.1)) (u.map (·.1)):=by
  rw[e,StrLaws.sliced_plain z hab hb]
  unfold iY
  rw[hlen]
 unfold sliceMade
 split
 ·rename_i c
  refine .inr ⟨rfl,?_⟩
  rw[B4]at c
  have c:=beq_iff_eq.mp c.2
  rw[e,StrLaws.strSliceIndices_plain hab hb,B3,P5]at c
  unfold Wq iY
  rw[hlen]
  have a0:HT.pJ z.length 0 (l.map (·.1))=0:=by omega
  rw[a0,V0,W3,P8 (by omega)]
 ·exact .inl (by rw[cut];rfl)
theorem part_of{v:Value}{lo:Option Int}(h:IsPart v lo):∃l:Option (Int×Tok),l.map (·.1)=lo∧partValue l=v:=by
 cases h with
 | none=>exact⟨none,rfl,rfl⟩
 | int i t=>exact⟨some (i,t),rfl,rfl⟩
section
variable{K:aA}{X:Cx}{e:Expr}{t:TE}{f:FE}{pos p2:Pos}
def My(z:Str)(lo hi:Option Int):Prop:=(∀i∈lo.toList,0≤i)∧(∀j∈hi.toList,0≤j)∧HT.pJ z.length 0 lo≤HT.pJ z.length z.length hi∧z.length≤100000
instance:∀z lo hi,Decidable (My z lo hi):=λz lo hi=>by unfold My;exact inferInstance
def qu:V→Option Int→Option Int→Hp→VK→Prop:=λx lo hi H Q=>∃z,x=.str z∧My z lo hi∧Q (.str (Wq z lo hi)) H
theorem ZG:vo X qu:=by
 intro pins s σ H x v vl vu lo hi sl Q I rx hs pl pu h
 obtain⟨z,rfl,⟨h1,h2,h3,h4⟩,q⟩:=h
 obtain⟨t,rfl⟩:=rx
 obtain⟨l,rfl,rfl⟩:=part_of pl
 obtain⟨u,rfl,rfl⟩:=part_of pu
 refine⟨"str", _,F.slot_str_getitem.lookup,typeIs_str _ _ _,wpAny_getItem_str_slice (l:=l) (u:=u) (st:=none) hs rfl ?_⟩
 rcases Wr (z:=z) (t:=t) (l:=l) (u:=u) (λi e=>h1 i (by rw[e];exact F6.mpr rfl)) (λj e=>h2 j (by rw[e];exact F6.mpr rfl)) h3 with hm | ⟨hm,hc⟩
 ·rw[hm]
  refine⟨?_,.str _,H,I.tok _,⟨_,rfl⟩,q⟩
  show (iY z.cps.toList _ _).toArray.size≤sizeLine
  rw[B7]
  have hl:z.cps.toList.length=z.length:=K8
  have:(iY z.cps.toList (l.map (·.1)) (u.map (·.1))).length≤z.length:=by
   unfold iY
   rw[J9,M4]
   omega
  exact F0 this (jB h4)
 ·rw[hm]
  rw[hc]at q
  exact⟨.str z,H,I,⟨_,rfl⟩,q⟩
def HJ(d:D)(lo hi:Option Int):Option D:=match d with
 | .str z=>if My z lo hi then some (.str (Wq z lo hi))else none
 | _=>none
def vX(f:FE)(fl fh:FO):FE:=λe=>(f e).bind λd=>(fl e).bind λlo=>(fh e).bind λhi=>HJ d lo hi
theorem oW{lo hi:Option Expr}{tl th:TO}{fl fh:FO}(h:XR K X e t f)(hl:XO K X lo tl fl)(hu:XO K X hi th fh):XN K X (.Subscript e (.Slice lo hi none p2) pos) (yp qu t tl th) (vX f fl fh):=⟨h.hk,Ii ZG h.pe hl.po hu.po,λσ H e d Q re q k=>by
 unfold vX at q
 obtain⟨d0,q1,qa⟩:=aU q
 obtain⟨lo,q2,qb⟩:=aU qa
 obtain⟨hi,q3,qc⟩:=aU qb
 clear q qa qb
 unfold HJ at qc
 split at qc
 ·split at qc
  ·rename_i c
   cases qc
   refine h.ev σ H H e _ _ (Zn.self K H) re q1 λv H1 Z1 s1 t1 z1 rv=>hl.ev σ H1 e lo _ (re.same s1) q2 λH2 s2=>hu.ev σ H2 e hi _ (re.same (s1.trans s2)) q3 λH3 s3=>?_
   unfold Rv at rv
   subst rv
   exact⟨_,rfl,c,k _ H3 (s1.trans (s2.trans s3)) (.eX rfl (by unfold Rv;rfl))⟩
  ·cases qc
 ·cases qc⟩
def Ws:V→List V→Hp→VK→Prop:=λx vs H Q=>∃z y,x=.str z∧vs=[.str y]∧Q (.int (Txt.find z y)) H
theorem HN:ji X "str.find" Ws:=by
 intro pins s σ H x vs v us Q I rx rv h
 obtain⟨z,y,rfl,rfl,q⟩:=h
 obtain⟨t,rfl⟩:=rx
 obtain⟨u,rfl,ru⟩:=rv.one
 obtain⟨t',rfl⟩:=ru
 exact PySem.W.KXw.find rfl λt' k=>⟨.int _,H,I.tok _,⟨_,rfl⟩,q⟩
def Pz(a b:D):Option D:=match a,b with
 | .str x,.str y=>some (.int (Txt.find x y))
 | _,_=>none
theorem HQ{a b:Expr}{ta tb:TE}{f g:FE}{m:Str}{apos cpos:Pos}(ha:XR K X a ta f)(hb:XR K X b tb g)(hp:PE X a ta→PE X b tb→PE X (.Call (.Attribute a m apos) [b] [] cpos) (Bl X.K "str" Ws ta (bV tb iM))):XN K X (.Call (.Attribute a m apos) [b] [] cpos) (Bl X.K "str" Ws ta (bV tb iM)) (f2 Pz f g):=
 ⟨ha.hk,hp ha.pe hb.pe,λσ H e d Q re q k=>by
  obtain⟨x,y,q1,q2,q3⟩:=mH q
  unfold Pz at q3
  split at q3
  ·cases q3
   refine ha.ev σ H H e _ _ (Zn.self K H) re q1 λv H1 Z1 s1 t1 z1 rx=>?_
   unfold Rv at rx
   subst rx
   refine⟨rfl,hb.ev σ H1 H1 e _ _ (Zn.self K H1) (re.same s1) q2 λv' H2 Z2 s2 t2 z2 ry=>?_⟩
   unfold Rv at ry
   subst ry
   exact⟨_,_,rfl,rfl,k _ H2 (s1.trans s2) (.eX rfl (by unfold Rv;rfl))⟩
  ·cases q3⟩
end
end L2


namespace L2
open PySem PySem.Spec PySem.Calls PyProof.Rows PyProof.V
section
variable{K:aA}{X:Cx}{pos:Pos}
theorem Qa{k:Nat}{ea:Addr}{a b:Expr}{op:Operator}{ta tb:TE}{f g:FE}{r:R2}{φ:D→D→Option D}(o:Dj K r φ)(hr:lQ X (binaryOp op) r)(ha:XR K X a ta f)(hb:GP K X k ea b tb g):GP K X k ea (.BinOp a op b pos) (Ck r ta tb) (f2 φ f g):=⟨ha.hk,Ur hr ha.pe hb.pe,λσ H de d Q re hs q kk=>by
 obtain⟨x,y,q1,q2,q3⟩:=mH q
 refine ha.ev σ H H de x _ (Zn.self K H) re q1 λv H1 Z1 s1 t1 z1 rv=>hb.ev σ H1 de y _ (re.same s1) hs q2 λv' H2 s2 n2=>?_
 exact o _ _ _ _ _ _ _ (s2.rv _ _ (z1.sm.rv _ _ rv)) n2.rv q3 λu H3 s3 n3=>kk u H3 ((s1.trans s2).trans s3) (n3.back (s1.trans s2))⟩
variable{κ:Nat→Addr}{sub:Gi}{n nj:Nat}
theorem qw(hn:n≤nj)(XM:∀i j,i<n→j<nj→B5 K (.ref (κ i)) (.ref (κ j))=some (sub i j))(hr:∀i,i<n→sub i i=true)(i j:Nat)(hi:i<n)(hj:j<nj):O8 K (.ref (κ i)) (.ref (κ j))=some (sub i j):=by
 have h:=XM i j hi hj
 unfold O8
 split
 ·rename_i q
  have e:=beq_iff_eq.mp q
  have h2:=XM i i hi (C3 hi hn)
  rw[←e,h2,hr i hi]at h
  exact h
 ·unfold B5 at h
  split at h
  ·exact h
  ·cases h
theorem HR(hn:n≤nj)(XM:∀i j,i<n→j<nj→B5 K (.ref (κ i)) (.ref (κ j))=some (sub i j))(hr:∀i,i<n→sub i i=true)(i:Nat)(hi:i<n):∀js:List Nat,(∀j∈js,j<nj)→U9 K (.ref (κ i)) ((js.map κ).map Value.ref)=some (js.any (sub i))
 | [],_=>rfl
 | j::js,h=>by
  have h1:=qw hn XM hr i j hi (h j (D1 ..))
  have ih:=HR hn XM hr i hi js λk hk=>h k (C5 _ hk)
  rw[D7,D7,Q1]
  unfold U9
  rw[h1]
  cases sub i j with
  | true=>rfl
  | false=>exact ih
end
end L2


namespace L2
open PySem PySem.Spec PySem.Calls PyProof.Rows PyProof.V
theorem zM:∀{p:List Bool} {us:List Value},Vals (p.map V.bl) us→us=p.map Value.bool
 | [],us,h=>by cases h;rfl
 | b::p,us,h=>by
  cases h with
  | cons h1 h2=>
   rw[zM h2]
   cases h1
   rfl
theorem Tj{p q:List Bool}(hl:p.length=q.length):((K4 p.length).all λi=>p.getD i false==q.getD i false)=decide (p=q):=by
 rw[F7,D9,decide_eq_true_iff]
 constructor
 ·intro h
  apply X5 hl
  intro i h1 h2
  have:=h i (N1.mpr h1)
  rw[F1,F1,B6 h1,B6 h2]at this
  exact beq_iff_eq.mp this
 ·rintro rfl i _
  simp
section
variable{K:aA}{X:Cx}
def ZJ(K:aA):R2:=λx y H Q=>∃(a b:Addr)(p q:List Bool),x=.ref a∧y=.ref b∧mC K H a (p.map V.bl)∧mC K H b (q.map V.bl)∧Q (.bl (decide (p=q))) H
theorem ZK(hu:X.A.units+64<cLine):lQ X (compareOp .Eq) (ZJ X.K):=by
 intro pins s σ H x y v u Q I rx ry h
 obtain⟨a,b,p,q,rfl,rfl,h1,h2,k⟩:=h
 cases rx
 cases ry
 obtain⟨xK,v1,xT,_⟩:=I.list h1
 obtain⟨its2,v2,Df,_⟩:=I.list h2
 have e1:=zM v1
 have e2:=zM v2
 subst e1 e2
 have rc:SeqAt.RcAt X.A s (.ref a) (.ref b) (decide (p=q)):=by
  by_cases hl:p.length=q.length
  ·have z:=SeqAt.RcAt.lists (e:=λi=>p.getD i false==q.getD i false) (A:=X.A) (s:=s) xT.isList Df.isList (by simpa using hl) (by omega) (λj h1 h2=>by
    have g1:j<p.length:=by simpa using h1
    have g2:j<q.length:=by simpa using h2
    have t1:(p.map Value.bool).toArray[j]=.bool (p.getD j false):=by
     rw[F1,B6 g1]
     simp
    have t2:(q.map Value.bool).toArray[j]=.bool (q.getD j false):=by
     rw[F1,B6 g2]
     simp
    rw[t1,t2]
    exact SeqAt.EqAt.bool_bool _ _)
   rw[B7,B3,Tj hl]at z
   exact z
  ·rw[decide_eq_false (λz=>hl (by rw[z]))]
   exact SeqAt.RcAt.lists_lengths xT.isList Df.isList (by simpa using hl) (by omega)
 exact rc X.prog X.w X.xe _ ⟨.bl _,H,I,rfl,k⟩
def Tn:List D→Option (List Bool)
 | []=>some []
 | .bl b::ds=>(Tn ds).map (b::·)
 | _=>none
def HS(a b:D):Option D:=match a,b with
 | .lst xs,.lst ys=>(Tn xs).bind λp=>(Tn ys).map λq=>.bl (decide (p=q))
 | _,_=>none
theorem Gn{H:Hp}:∀{ds:List D} {p:List Bool} {vs:List V},Tn ds=some p→cC K H ds vs→vs=p.map V.bl
 | [],p,vs,h,r=>by unfold Tn at h;cases h;unfold cC at r;exact r
 | d::ds,p,vs,h,r=>by
  cases d<;>unfold Tn at h<;>first | cases h | skip
  obtain⟨p',q1,rfl⟩:=iZ h
  unfold cC at r
  obtain⟨y,ys,rfl,r1,r2⟩:=r
  unfold Rv at r1
  rw[r1,Gn q1 r2]
  rfl
theorem Wt:Dj K (ZJ K) HS:=λx y H a b d Q ra rb q k=>by
 unfold HS at q
 split at q
 ·obtain⟨p,q1,q2⟩:=aU q
  obtain⟨p',q3,rfl⟩:=iZ q2
  unfold Rv at ra rb
  obtain⟨la,xs,rfl,a1,a2⟩:=ra
  obtain⟨lb,ys,rfl,b1,b2⟩:=rb
  rw[Gn q1 a2]at a1
  rw[Gn q3 b2]at b1
  exact⟨la,lb,p,p',rfl,rfl,a1,b1,k _ H (aN.refl _) (.eX rfl (by unfold Rv;rfl))⟩
 ·cases q
theorem Wu(hu:X.A.units+64<cLine)(hk:X.K=K):lQ X (compareOp .Eq) (ZJ K):=by subst hk;exact ZK hu
theorem Wv{i:Nat}{x:Str}{e:Expr}{te:TE}{f:FE}{pos pos':Pos}(h:XR K X e te f)(hN:X.N.Nodup)(hi:X.N[i]?=some x)(hx:Loc X.env.scope x)(hs:swapsWith e (some (.Name x pos')) pos.line X.env=pure false:=by rfl)(hf:X.fn x=true∨X.env.scope.names.lookup x=some .local:=by first | exact .inl rfl | exact .inr rfl | assumption):YS K X (.Assign [.Name x pos'] e pos) (nO te (cB i)) (wQ i f):=DG h λq=>aY hN hi hx q hs hf
end
end L2


namespace L2
open PySem PySem.Spec PySem.Calls PyProof.Rows PyProof.V
section
variable{K:aA}{X:Cx}{a e0 eM:Expr}{es:List Expr}{t0 tM:TE}{f0:FE}{gM:GM}{tA:TA}{fs:FA}{pos:Pos}{i:Nat}
end
end L2


namespace L2
open PySem PySem.Spec PySem.Calls PyProof.Rows PyProof.V
section
variable{K:aA}{X:Cx}{e1 e2:Expr}{t1 t2 te:TE}{f g fe:FE}{tc:TT}{fc:FT}{pos p p2:Pos}{x:Str}
end
end L2


namespace L2
open PySem PySem.Spec PySem.Calls PyProof.Rows PyProof.V
inductive Ap where
  | ch (i:Nat) (π:FP) | rd (f:FE) | nw (f:FE)
def xg:List Ap→DE→Option (List (Nat×List Step))
 | [],_=>some []
 | .ch i π::as,e=>(π e).bind λp=>(xg as e).map λr=>(i,p)::r
 | .rd _::as,e=>xg as e
 | .nw _::as,e=>xg as e
def xj:List Ap→DE→DE→Option (List D)
 | [],_,_=>some []
 | .ch _ _::as,eF,eZ=>xj as eF eZ
 | .rd f::as,eF,eZ=>(f eZ).bind λd=>(xj as eF eZ).map λr=>d::r
 | .nw f::as,eF,eZ=>(f eF).bind λd=>(xj as eF eZ).map λr=>d::r
def Qc(K:aA)(Z:Hp):List Ap→List V→List D→List V→Prop
 | [],cv,ds,vs=>cv=[]∧ds=[]∧vs=[]
 | .ch _ _::as,cv,ds,vs=>∃v cr r,cv=v::cr∧vs=v::r∧Qc K Z as cr ds r
 | .rd _::as,cv,ds,vs=>∃d dr v r,ds=d::dr∧vs=v::r∧Rv K Z d v∧Qc K Z as cv dr r
 | .nw _::as,cv,ds,vs=>∃d dr v r,ds=d::dr∧vs=v::r∧Rv K Z d v∧Qc K Z as cv dr r
def VsP(σ:St)(H:Hp):List (Nat×List Step)→List V→Prop
 | [],vs=>vs=[]
 | (j,p)::js,vs=>∃v0 v r,vs=v::r∧σ[j]?=some (some v0)∧Hw H p v0=some v∧VsP σ H js r
section
variable{K:aA}{X:Cx}{e:Expr}{es:List Expr}{te:TE}{f:FE}{tA:TA}{as:List Ap}{pos:Pos}{i:Nat}{π:FP}
def aAh(K:aA)(t:TA)(as:List Ap):Prop:=∀(A1:Fp)(σ:St)(H:Hp)(eF eZ:DE)(ds:List D)(ps:List (Nat×List Step))(cv:List V)(Q:List V→Hp→Prop),(∀x,A1 x→pR H x)→pD K H eF σ→pD K (out H A1) eZ σ→xg as eF=some ps→VsP σ H ps cv→xj as eF eZ=some ds →
 (∀vs H',aN H H'→Qc K (out H' A1) as cv ds vs→Q vs H')→t σ H Q
structure XAP(K:aA)(X:Cx)(es:List Expr)(t:TA)(as:List Ap):Prop where
 hk:X.K=K
 pa:PA X es t
 ev:aAh K t as
end
section
variable{K:aA}{H H' Z Z' B:Hp}{σ:St}
end
section
variable{K:aA}{X:Cx}{e:Expr}{es:List Expr}{tA:TA}{as:List Ap}{pos pf:Pos}
end
section
variable{K:aA}{X:Cx}{a b e:Expr}{ta tb te:TE}{g:FE}{gm:GM}{i:Nat}{π:FP}{pos pos':Pos}
end
end L2


namespace L2
open PySem PySem.Spec PySem.Calls PyProof.Rows PyProof.V
section
variable{K:aA}{te:TE}{f:FE}{i:Nat}{c:Int}
end
end L2


namespace L2
open PySem PySem.Spec PySem.Calls PyProof.Rows PyProof.V HT
section
variable{X:Cx}{K:aA}{e:Expr}{t:TE}{f:FE}{x y:Str}{p p2 pos pos2:Pos}
end
end L2


namespace L2
open PySem PySem.Spec PySem.Calls PyProof.Rows PyProof.V
def sU(base:Heap)(l:List Env)(e:Addr)(cls a0:Value)(h:Heap):Prop:=base.StaysIn h∧base.get? e=none∧h.FunFrames base l∧∃fl,h.TracedAtW base e cls a0 fl
section
variable{M:Model}{A:Around}{E:Value→Shared→Prop}{s:Shared}{base:Heap}{env:Env}{outer l:List Env}{L e:Addr}{cls a0:Value}
theorem Mz{Q:Unit→Shared→Prop}(hfr:A.frames=some (env::outer))(hf:env.frame=some L)(hh:sU base (env::outer) e cls a0 s.heap)
  (hQ:∀h',Heap.FlyingW base outer e cls a0 h'→s.heap.UpToSlots h'→Q () {s with heap:=h'}):wpAny M A (leaving env (.ref e)) Q E s:=by
 obtain⟨f1,f2,f3,fl,f4⟩:=hh
 by_cases c:fl=rawInt L
 ·subst c
  unfold leaving
  refine wpAny_bind (wpAny_noteFrame_againW hf f4 ?_)
  refine wpAny_landsW ⟨f1,f2,f3,f4⟩ λh' hfl up=>?_
  obtain⟨k1,k2,⟨_,_,k3⟩,k4⟩:=hfl
  exact hQ h' ⟨k1,k2,k3,k4⟩ up
 ·obtain⟨oe,vs,T,oT,ts,he,⟨hcls,h0⟩,hd,h1,hnT,hTe,hT,hdT,h3⟩:=f4
  subst hcls
  unfold leaving noteFrame
  simp only[hf]
  refine wpAny_bind (wpAny_bind (wpAny_field he hd h1 ?_))
  rw[if_pos (show (Value.ref T != Value.none)=true from by simp)]
  refine wpAny_bind (wpAny_field hT hdT h3 ?_)
  rw[if_neg (show ¬((fl==rawInt L)=true)from by simpa using c)]
  refine wpAny_bind (wpAny_setField hT hdT (O0.mp h3).1 ?_)
  have other:∀b,b≠T→(s.heap.update T (Obj.mapFields (·.setIfInBounds 3 Value.none))).get? b=s.heap.get? b:=λb hb=>Heap.get?_update_other _ _ (Ne.symm hb)
  have noRecord:∀b o,s.heap.get? b=some o→(∀vs,o.data≠.fields vs)→b≠T:=λb o hb hnf q=>by
   rw[q,hT]at hb;injection hb with hb;subst hb;exact hnf ts hdT
  refine wpAny_newEntryW hfr (f3.of_keeps λb o hb hnf=>⟨o,(other b (noRecord b o hb hnf)).trans hb,rfl⟩) hf ((other e (Ne.symm hTe)).trans he)
   (λb o hbo=>(other b λq=>by rw[q,hnT]at hbo;cases hbo).trans (f1 b o hbo)) f2 hd (O0.mp h1).1 h0
   λh' ⟨x1,⟨_,_,x2⟩,x3,x4⟩=>hQ h' ⟨x1,f2,x2,x3⟩ λb o hb hnf=>x4 b o ((other b (noRecord b o hb hnf)).trans hb) hnf
theorem zN{f:Option Addr}{Q:Unit→Shared→Prop}(hh:sU base l e cls a0 s.heap)(h:∀h',sU base l e cls a0 h'→s.heap.UpToSlots h'→Q () {s with heap:=h'}):wpAny M A (setFlight (.ref e) f) Q E s:=by
 obtain⟨hkb,hen,hl,fl,oe,vs,T,oT,ts,he,hcls,hd,h1,hnT,hTe,hT,hdT,h3⟩:=hh
 have hsz3:3<ts.size:=(O0.mp h3).1
 have other:∀b,b≠T→(s.heap.update T (Obj.mapFields (·.setIfInBounds 3 (f.elim Value.none λf=>rawInt f)))).get? b=s.heap.get? b:=
  λb hb=>Heap.get?_update_other _ _ (Ne.symm hb)
 have noRecord:∀b o,s.heap.get? b=some o→(∀vs,o.data≠.fields vs)→b≠T:=λb o hb hnf q=>by
  rw[q,hT]at hb;injection hb with hb;subst hb;exact hnf ts hdT
 unfold setFlight
 refine wpAny_bind (wpAny_field he hd h1 ?_)
 rw[if_pos (show (Value.ref T != Value.none)=true from by simp)]
 refine wpAny_setField hT hdT hsz3 (h _ ⟨λb o hbo=>(other b λq=>by rw[q,hnT]at hbo;cases hbo).trans (hkb b o hbo),hen,
  hl.of_keeps λb o hb hnf=>⟨o,(other b (noRecord b o hb hnf)).trans hb,rfl⟩,(f.elim Value.none λf=>rawInt f),?_⟩ λb o hb hnf=>⟨o.slots,(other b (noRecord b o hb hnf)).trans hb⟩)
 exact⟨oe,vs,T,_,_,(other e (Ne.symm hTe)).trans he,hcls,hd,h1,hnT,hTe,Heap.get?_update_self _ hT (Obj.isFreed_of_fields (Obj.data_mapFields hdT _)),Obj.data_mapFields hdT _,by simp[hsz3]⟩
theorem Nb{α:Type}{what:String}{cenv:Env}{Q:α→Shared→Prop}(hh:sU base l e cls a0 s.heap)(hE:∀h',sU base l e cls a0 h'→s.heap.UpToSlots h'→E (.ref e) {s with heap:=h'}):wpAny M A (Z7 what (.ref e) cenv:Sem α) Q E s:=by
 have hh':=hh
 obtain⟨_,_,_,fl,oe,vs,T,oT,ts,he,hcls,hd,h1,hnT,hTe,hT,hdT,h3⟩:=hh
 unfold Z7
 refine wpAny_bind (wpAny_field he hd h1 ?_)
 rw[if_neg (show ¬((Value.ref T==Value.none)=true)from by simp)]
 first
  | exact wpAny_bind (wpAny_pure (wpAny_bind (zN hh' λh' x up=>wpAny_throw (hE h' x up))))
  | exact wpAny_bind (zN hh' λh' x up=>wpAny_throw (hE h' x up))
theorem HW{env env':Env}{x:Value}(h:env.frame=env'.frame):noteFrame x env=noteFrame x env':=by
 unfold noteFrame PySem.frameOf
 rw[h]
theorem Qd{h h' base base':Heap}{C:Addr}(k:∀b,b≠C→h'.get? b=h.get? b)(kb:∀b,base.get? b=none→base'.get? b=none):∀{l:List Env},h.FunFrames base l→C∉frs l→h'.FunFrames base' l
 | [],_,_=>trivial
 | env::l,⟨h1,⟨L,o,hf,hb,ho,hd⟩,r⟩,hC=>by
  have e:frs (env::l)=L::frs l:=by unfold frs;rw[K1,hf]
  rw[e]at hC
  have hLC:L≠C:=λz=>hC (z▸D1)
  exact⟨h1,⟨L,o,hf,kb L hb,(k L hLC).trans ho,hd⟩,Qd k kb r λz=>hC (C5 _ z)⟩
theorem sU.but{h h' base base':Heap}{C:Addr}{oC:Obj}(x:sU base l e cls a0 h)(hC:h.get? C=some oC)(hCd:∀vs,oC.data≠.fields vs)(hCl:C∉frs l)(k:∀b,b≠C→h'.get? b=h.get? b)(kb:∀b o,base'.get? b=some o→base.get? b=some o∧b≠C):sU base' l e cls a0 h':=by
 obtain⟨hkb,hen,hl,fl,oe,vs,T,oT,ts,he,hcls,hd,h1,hnT,hTe,hT,hdT,h3⟩:=x
 have kn:∀b,base.get? b=none→base'.get? b=none:=λb hb=>by
  cases q:base'.get? b with
  | none=>rfl
  | some o=>rw[(kb b o q).1]at hb;cases hb
 have ne:∀{b:Addr} {o:Obj} {vs:Array Value},h.get? b=some o→o.data=.fields vs→b≠C:=λ{b o vs} q1 q2 z=>by
  rw[z,hC]at q1
  cases q1
  exact hCd _ q2
 refine⟨λb o q=>?_,kn e hen,Qd k kn hl hCl,fl,oe,vs,T,oT,ts,(k e (ne he hd)).trans he,hcls,hd,h1,kn T hnT,hTe,(k T (ne hT hdT)).trans hT,hdT,h3⟩
 obtain⟨q1,q2⟩:=kb b o q
 exact(k b q2).trans (hkb b o q1)
end
structure Hl(l:List Env)(s1:Shared)(e:Addr)(cls:Value)(s':Shared):Prop where
 held:∃a0,sU (vU s1.heap l) l e cls a0 s'.heap
 up:s1.heap.UpToSlots s'.heap
 os:s'.os=s1.os
 bare:AllBare s'.gens
def Ww(X:Cx)(E:XK):Prop:=∀(pins:List (Addr×Obj))(σ:St)(H:Hp)(s1:Shared)(e:Addr)(cls:Value)(s':Shared),Inv X pins σ H s1→Hl X.stack s1 e cls s'→E cls none H→X.xe (.ref e) s'
section
variable{P:Program}{w:World}{K:aA}{mg:Str→Option Value}{base:Heap}{N:List Str}{qual:Str}{scope:Scope}{f:Addr}{cd:Value}{A:Around}{outer:List Env}{s0:Shared}{H0:Hp}{E:XK}
theorem vY:Ww (jL (vV P w) P w K mg base N qual scope f cd A outer s0 H0 E) E:=λpins σ H s1 e cls s' I1 hl q=>by
 obtain⟨a1,a2,a3,a4,a5,a6,a7,a8⟩:=zK I1
 obtain⟨a0,held⟩:=hl.held
 refine Mz I1.ok.frames rfl held λh' fl' up=>?_
 exact Gf rfl a8 a1 a2 a3 a4 a5 a6 a7 fl' (hl.up.trans up) hl.os hl.bare rfl q
end
theorem qK{prog:Program}{w:World}{A:Around}{R:Result→Shared→Prop}{s:Shared}{elt target iter:Expr}{scope:Scope}{pos:Pos}{it acc:Value}{env:Env}{NE:Value→Shared→Prop}(I:Nat→Shared→Prop)
  (hNE:∀e s',NE e s'→notedBy (model prog w) A env (λx s''=>R (.error x) s'') e s')
  (turn:∀n s,I n s→wpAny (model prog w) A (pyNext it) (λr s₁=>match r with
   | none=>R (.ok .next) s₁
   | some v=>wpAny (model prog w) A (letOwnedTupleGo target it v) (λ_ s₀=>wpAny (model prog w) A (assign target env v) (λ_ s₂=>
     wpAny (model prog w) A (eval elt env) (λx s₄=>
       wpAny (model prog w) A (call (.builtin "list.append") [acc,x]) (λ_ s₅=>∃m,m<n∧I m s₅) (λ_ _=>False) s₄) NE s₂) (λ_ _=>False) s₀) (λ_ _=>False) s₁) (λ_ _=>False) s)
  (n:Nat) (h:I n s) :
  codeAny (model prog w) A (.compLoop (.ListComp elt [⟨target,iter,[],0⟩] scope pos) 0 it acc env) R s:=by
 refine codeAny_loop rfl I (λn s hI=>?_) n h
 show wpAny _ A ((compTurn (.ListComp elt [⟨target,iter,[],0⟩] scope pos) 0 it acc env).onRaise (λx=>do noteFrame x env;theTreesLotGoes x)) _ _ s
 refine wpAny_noted ?_
 rw[compTurn_list]
 refine wpAny_mono (E:=NE) ?_ (λ_ _ q=>q) hNE
 refine wpAny_bind (wpAny_standAt (wpAny_bind (wpAny_mono (turn n s hI) (λr s₁ h₁=>?_) λ_ _ h'=>h'.elim)))
 cases r with
 | none=>exact wpAny_pure h₁
 | some v=>
  refine wpAny_bind (wpAny_mono h₁ (λ_ s₀ h₀=>?_) λ_ _ h'=>h'.elim)
  refine wpAny_bind (wpAny_mono h₀ (λ_ s₂ h₂=>wpAny_bind (wpAny_tests_nil ?_)) λ_ _ h'=>h'.elim)
  exact wpAny_bind (wpAny_bind (wpAny_mono h₂ (λx s₄ h₄=>wpAny_bind (wpAny_mono h₄ (λ_ s₅ h₅=>wpAny_pure (wpAny_pure ⟨rfl,h₅⟩)) λ_ _ h'=>h'.elim)) λ_ _ h'=>h'))
def Wx(J:It)(k:Nat)(fr:List Nat)(g:TG)(te tz:TE)(σ:St)(H1:Hp)(D:Addr):Prop:=∃W:Nat→Nat→List V→Hp→Prop,(∃m,W 0 m [] (upd H1 D (.lst []))) ∧
 ∀i m ys H,W i m ys H→H D=some (.lst ys)∧J.go i H∧∀x H',J.fj i H x H'→g x (blk k σ fr) H' λσ2 H2=>Kp k σ fr σ2 ∧
  ((te σ2 H2 λy H4=>H4 D=some (.lst ys)∧ys.length<sizeLine∧∃m',m'<m∧W (i+1) m' (ys++[y]) (upd H4 D (.lst (ys++[y]))))∨tz σ2 H2 λ_ _=>False)
def Nf(wi:TI)(k:Nat)(fr:List Nat)(g:TG)(te tz:TE):TS:=λ_ σ H=>wi σ H λJ H1=>∀D,H1 D=none→Wx J k fr g te tz σ H1 D
section
variable{X:Cx}{EE:XK}
theorem Tp{tg elt iter:Expr}{scope:Scope}{pos:Pos}{N:List Str}{k:Nat}{fr:List Nat}{g:TG}{te tz:TE}{cl:List (Str×Addr)}{pins:List (Addr×Obj)}{σ:St}{H:Hp}{s:Shared}{it:Addr}{fp:List Addr}{tn:Nat→Heap→Prop}{J:It}
    {RR:Value→Addr→Result→Shared→Prop} {E:Value→Shared→Prop} {env0:Env} {out:List Env} {L:Addr} (hst:X.stack=env0::out) (ie:env0.frame=some L) (hfe:X.env.frame=some L) (hcalm:X.calm=true) (I:Inv X pins σ H s) (T:Turn X.prog X.w X.K tg J fp it tn) (st:tn 0 s.heap) (hf:∀b∈fp,xG X pins H b) (B:dC X.env.scope scope X.N N k fr)
    (hcl:∀x c,cl.lookup x=some c→(x,NameKind.free)∈scope.names∧X.env.cells.lookup x=some c) (Rz:∀x,(x,NameKind.free)∈scope.names→∃c,cl.lookup x=some c)
    (hg:∀cl fp s H C,PG (bR X scope N cl fp s H C) tg g) (he:∀cl fp s H C,PE (bR X scope N cl fp s H C) elt te)
    (hz:∀cl fp s H C xe pins σ,Dv (vV X.prog X.w) ((bR X scope N cl fp s H C).wish xe) pins σ EE→wy ((bR X scope N cl fp s H C).wish xe) pins σ elt tz)
    (hw:∀D,H D=none→Wx J k fr g te tz σ H D)
    (hRR:∀D C m oC s1 s' H' e cls,s'.heap.Ns C m→s'.heap.get? C=some oC→(∀vs,oC.data≠.fields vs)→s.heap.objs.size≤C→H' C=none→Inv X pins σ H' s1→Hl X.stack s1 e cls s'→EE cls none H'→RR (.ref D) C (.error (.ref e)) s') :
    wpAny (model X.prog X.w) X.A (newList []) (λacc s₃=>wpAny (model X.prog X.w) X.A (newFunctionEnv scope X.env.globals cl [] X.env.qual none .none (some X.env)) (λcenv s₄=>
      codeAny (model X.prog X.w) X.A (.compStart (.ListComp elt [⟨tg,iter,[],0⟩] scope pos) 0 (.ref it) acc {cenv with scope:=relabel scope X.env}) (RR acc cenv.locals) s₄) E s₃) E s:=by
  refine wpAny_newObj_type (wpAny_newFunctionEnv B.cell (by intro y hy;simp at hy) (λh₁ hns₁ hsb₁=>?_) B.kind)
  dsimp only at hns₁ hsb₁ ⊢
  rw[Heap.size_push]at hns₁ hsb₁ ⊢
  have hfo:∀b∈fp,b<s.heap.objs.size:=λb hb=>by
    obtain⟨o,e,_⟩:=T.obj 0 _ st b hb
    exact Heap.lt_size e
  have I4:=yO (tk:=s.toks+([]:List (Str×Value)).length) I B hf hfo hcl Rz hns₁ hsb₁
  generalize hD:s.heap.objs.size=D at *
  have yx:H D=none:=by rw[←hD];exact I.fresh
  obtain⟨W,⟨m0,w0⟩,turn⟩:=hw D yx
  have st1:tn 0 h₁:=T.keep 0 _ _ st λb hb o e=>hsb₁.extBut b o (F2 (N5 (by have:=hfo b hb;exact this))) (Heap.get?_push_of_some _ (Heap.get?_push_of_some _ e))
  have yz:∀b∈fp,(upd H D (.lst [])) b=none:=λb hb=>by
    rw[bH (F2 (hfo b hb))]
    exact(hf b hb).1
  generalize hX':bR X scope N cl fp s H (D+1)=X' at I4
  have stat:∀{H':Hp},(∀b∈fp,H' b=none)→∀b∈fp,xG X' [] H' b:=λ{H'} hn b hb=>by
    subst hX'
    refine⟨hn b hb,?_,λz=>?_,.inl hb,λx c e=>(hf b hb).2.2.2.2.1 x c (hcl x c e).2,λp hp=>absurd (show p∈([]:List (Addr×Obj))from hp) (by simp)⟩
    · exact F2 (N5 (hfo b hb))
    · rcases G2.mp (I.sW b z)with z | z
      · exact(hf b hb).2.1 z
      · exact(hf b hb).2.2.1 z
  have e1:X'.prog=X.prog:=by rw[←hX'];rfl
  have e2:X'.w=X.w:=by rw[←hX'];rfl
  have e3:X'.K=X.K:=by rw[←hX'];rfl
  have e4:X'.A=X.A:=by rw[←hX'];rfl
  have e5:X'.calm=true:=by rw[←hX'];exact hcalm
  have e6:X'.env=compEnvC scope cl (D+1) X.env:=by rw[←hX'];rfl
  have e7:X'.xe=λ_ _=>False:=by rw[←hX'];rfl
  have e8:X'.stack=X.stack:=by rw[←hX'];rfl
  have loop:∀s₃:Shared,s₃={s with heap:=h₁,toks:=s.toks+([]:List (Str×Value)).length} →
      codeAny (model X.prog X.w) X.A (.compLoop (.ListComp elt [⟨tg,iter,[],0⟩] scope pos) 0 (.ref it) (.ref D) (compEnvC scope cl (D+1) X.env)) (RR (.ref D) (D+1)) s₃:=by
    rintro s₃ rfl
    refine qK (NE:=notedBy (model X.prog X.w) X.A (compEnvC scope cl (D+1) X.env) λx s''=>RR (.ref D) (D+1) (.error x) s'') (λn s'=>∃i ys H',Inv X' [] (blk k σ fr) H' s'∧tn i s'.heap∧(∀b∈fp,H' b=none)∧W i n ys H') (λ_ _ z=>z) ?_ m0 ⟨0,[],_,I4,st1,yz,w0⟩
    rintro n s5 ⟨i,ys,H5,I5,st5,fr5,w5⟩
    obtain⟨hys,go,step⟩:=turn i n ys H5 w5
    have d:=T.item X' e1 e2 e3 e5 i [] s5 _ H5 (λ_ _=>False) I5 (stat fr5) st5 go
    rw[e4]at d
    refine eY d λr s6 ⟨u,hr,h6⟩=>?_
    subst hr
    refine eY h6 λ_ s7 ⟨x,H7,I7,r7,y7,st7,fr7⟩=>?_
    have zb:=I7.pinned (stat fr7) (T.obj _ _ st7)
    have hg':PG X' tg g:=by rw[←hX'];exact hg _ _ _ _ _
    have he':PE X' elt te:=by rw[←hX'];exact he _ _ _ _ _
    have a1:=hg' _ s7 _ H7 x u _ zb r7 (step x H7 y7)
    rw[e1,e2,e4,e6,e7]at a1
    refine eY a1 λ_ s8 ⟨σ8,H8,I8,⟨kl,kk⟩,q8⟩=>?_
    have again:∀{Ha:Hp} {ya:List V} {sa:Shared},Inv X' ([]++sX fp s7.heap) σ8 Ha sa→(∃m',m'<n∧W (i+1) m' ya Ha) →
        ∃m,m<n∧∃i ys H',Inv X' [] (blk k σ fr) H' sa∧tn i sa.heap∧(∀b∈fp,H' b=none)∧W i m ys H':=λ{Ha ya sa} Ia ⟨m',hm,w'⟩=>by
      refine⟨m',hm,i+1,ya,Ha,(Ia.weak kl.symm kk).pL,T.keep _ _ _ st7 λb hb o e=>(Ia.pin (b,o) (C9 _ (C9 _ (jK hb e)))).1,λb hb=>?_,w'⟩
      obtain⟨o,e,d⟩:=T.obj _ _ st7 b hb
      exact(Ia.pin (b,o) (C9 _ (C9 _ (jK hb e)))).2.1
    rcases q8 with q8 | q8
    · have a3:=he' _ s8 σ8 H8 _ I8 q8
      rw[e1,e2,e4,e6,e7]at a3
      refine wpAny_mono a3 (λv zc ⟨y,H10,I10,r10,hD10,hz,q10⟩=>?_) λ_ _ z=>z.elim
      have a4:=jM (X:=X') _ zc σ8 H10 (.ref D) [y] (.ref D) [v] (λ_ jw=>jw=upd H10 D (.lst (ys++[y]))) I10 rfl (.cons r10 .nil) ⟨D,ys,y,rfl,rfl,hD10,hz,rfl⟩
      rw[e1,e2,e4,e7]at a4
      refine eY a4 λ_ s11 ⟨_,jw,I11,_,e11⟩=>?_
      subst e11
      exact again I11 q10
    · have hz':=hz cl fp s H (D+1) (notedBy (model X.prog X.w) X.A (compEnvC scope cl (D+1) X.env) λx s''=>RR (.ref D) (D+1) (.error x) s'') ([]++sX fp s7.heap) σ8 ?_ s8 H8 _ (by rw[hX'];exact I8.wish _) q8
      · refine wpAny_mono hz' (λv s9 ⟨_,_,_,_,z⟩=>z.elim) λ_ _ z=>z
      intro H9 s9 ev s' I9 c9
      obtain⟨e,cls,H',s1,rfl,I1,fl,q⟩:=I9.ghost c9
      have I1:=I1.oK
      rw[hX']at I1
      have fl:Fl X.stack s1 e cls s':=fl
      obtain⟨a0,wV⟩:=fl.wV
      show wpAny _ _ (noteFrame (.ref e) (compEnvC scope cl (D+1) X.env)) _ _ s'
      rw[HW (env':=env0) (show (compEnvC scope cl (D+1) X.env).frame=env0.frame from hfe.trans ie.symm)]
      have hCs:D+1∉frs X.stack:=λz=>by
        rcases G2.mp (I.sW _ z)with y | y
        · have:=I.lt
          rw[hD,←y]at this
          exact absurd this (Nat.not_lt.mpr (P6 D))
        · exact I.QH (a:=D+1) (by rw[hD];exact P6 D) y
      obtain⟨m1,hn1,_⟩:=I1.loc
      rw[e6]at hn1
      obtain⟨oC,es,ep,ho,hd,r⟩:=hn1
      have hoF:(vU s1.heap X.stack).get? (D+1)=some oC:=nU ho hCs
      have fr:X.A.frames=some (env0::out):=by rw[←hst];exact I.ok.frames
      rw[hst]at wV hoF
      refine wpAny_looks_onW fr ie wV λh' held up=>?_
      have hoC:=held.1 (D+1) oC hoF
      have nfd:∀vs,oC.data≠.fields vs:=λvs z=>by rw[hd]at z;cases z
      refine hRR D (D+1) m1 oC s1 _ H' e cls ⟨oC,es,ep,hoC,hd,r⟩ hoC nfd (by omega) ?_ ?_ ⟨⟨a0,?_⟩,fl.up.trans up,fl.os,fl.bare⟩ q
      · have:=I1.free
        rw[e6]at this
        exact this
      · subst hX'
        exact I.call' I1.os I1.base I1.hok I1.bare λb hb=>⟨(hf b hb).2.2.2.1,(hf b hb).2.1,(hf b hb).2.2.2.2.1,(hf b hb).2.2.2.2.2⟩
      · rw[hst]
        obtain⟨x1,x2,x3,x4⟩:=held
        exact⟨x1,x2,x3,_,x4⟩
  exact codeAny_compStart_list (loop _ rfl) (T.self _ 0 _ _ _ st1 (loop _ rfl))
theorem Wy{tg elt iter:Expr}{scope:Scope}{pos spos py:Pos}{y:Str}{wi:TI}{g:TG}{te tz:TE}{env0:Env}{out:List Env}{L:Addr}(N:List Str)(k:Nat)(fr:List Nat)(hst:X.stack=env0::out)(ie:env0.frame=some L)(hfe:X.env.frame=some L)(hx:Ww X EE)(hcalm:X.calm=true)(B:dC X.env.scope scope X.N N k fr)(hi:PI X tg iter wi)
  (hg:∀cl fp s H C,PG (bR X scope N cl fp s H C) tg g) (he:∀cl fp s H C,PE (bR X scope N cl fp s H C) elt te)
  (hz:∀cl fp s H C xe pins σ,Dv (vV X.prog X.w) ((bR X scope N cl fp s H C).wish xe) pins σ EE→wy ((bR X scope N cl fp s H C).wish xe) pins σ elt tz)
  (hsw:swapsWith (.ListComp elt [⟨tg,iter,[],0⟩] scope pos) (some (.Name y py)) spos.line X.env=pure true:=by rfl)
  (hs:∀x,foldedSetIterable iter X.env x=pure x:=by intro _;rfl) :
  PS X (.Assign [.Name y py] (.ListComp elt [⟨tg,iter,[],0⟩] scope pos) spos) (Nf wi k fr g te tz):=by
 intro pins s σ H D I h
 obtain⟨cl,e,h1,h2⟩:=nA scope X.env λy hy hk=>I.ok.has y.1 (B.free y hy hk)
 rw[exec_Assign_Name_used _ _ _ _ hsw]
 refine wpAny_bind (wpAny_standAt (wpAny_bind ?_))
 show wpAny _ X.A (do let _ ←comprehension (.ListComp elt [⟨tg,iter,[],0⟩] scope pos) scope X.env _ (newList []) false (eval iter X.env) (some (assign (.Name y py) X.env))) _ _ s
 refine wpAny_bind (wpAny_mono (wpAny_comprehension_free (use:=some (assign (.Name y py) X.env)) (Q:=λ_ s'=>SP X pins D .next s') rfl hs e B.kind B.loc
  (wpAny_mono (hi pins s σ H _ I h) (λxv s₁ q₁=>wpAny_mono q₁ (λitv s₂ q₂=>?_) λ_ _ x=>x) λ_ _ x=>x)) (λ_ s' hq=>wpAny_pure (wpAny_pure hq)) λ_ _ x=>x)
 obtain⟨it,fp,tn,J,H2,rfl,I2,T,st2,f2,hw⟩:=q₂
 refine Tp (EE:=EE) (RR:=λacc C=>compPost (model X.prog X.w) X.A X.xe (some (assign (.Name y py) X.env)) (λ_ s'=>SP X pins D .next s') acc C) hst ie hfe hcalm I2 T st2 f2 B h1 h2 hg he hz hw ?_
 intro Dd C m oC s1 s' H' ex cls hn hoC hCd hC hfr I1 hl q
 have hCs:C∉frs X.stack:=λz=>by
  rcases G2.mp (I2.sW _ z)with y | y
  ·exact absurd (C3 I2.lt hC) (by rw[y];exact G3 _)
  ·exact I2.QH hC y
 refine⟨m,hn,λh' hs' cenv hce=>?_⟩
 obtain⟨a0,held⟩:=hl.held
 have hid:∀b o,(O2 s1.heap [C]).get? b=some o→s1.heap.get? b=some o∧b≠C:=λb o qb=>⟨S1 _ qb,λz=>by
  rw[z,Q8 [C] D1]at qb
  cases qb⟩
 have qy:sU (vU (O2 s1.heap [C]) X.stack) X.stack ex cls a0 h':=held.but hoC hCd hCs hs'.2 λb o qb=>by
  obtain⟨q1,q2⟩:=xY qb
  obtain⟨q3,q4⟩:=hid b o q1
  exact⟨nU q3 q2,q4⟩
 refine Nb (s:={s' with heap:=h'}) qy λh'' ZL up=>?_
 refine hx pins σ H' {s1 with heap:=O2 s1.heap [C]} ex cls _ ?_ ⟨⟨a0,ZL⟩,?_,hl.os,hl.bare⟩ q
 ·exact I1.turned (t':=s1.toks) (λb o hb eb=>R6 _ eb λz=>hb (F6.mp z)) hfr (N6 (C3 I2.lt hC)) (.inr (F0 I2.sz hC)) (λx c ec z=>by
   obtain⟨v,q⟩:=I2.cell x c ec
   exact absurd (C3 q.lt (by rw[z];exact hC)) (G3 _)) λp hp z=>absurd (C3 (Heap.lt_size (I2.pin p hp).1) (by rw[z];exact hC)) (G3 _)
 ·intro b o qb hnf
  obtain⟨q1,q2⟩:=hid b o qb
  obtain⟨sl,z⟩:=hl.up b o q1 hnf
  have z:s'.heap.get? b=some {o with slots:=sl}:=z
  rw[←hs'.2 b q2]at z
  obtain⟨sl',z'⟩:=up b _ z hnf
  exact⟨sl',z'⟩
end
def zO(el:D→Option D)(ez:D→Option Nat):List D→Option Nat
 | []=>none
 | x::xs=>match ez x with
  | some i=>some i
  | none=>(el x).bind λ_=>zO el ez xs
def qL(fi:FA)(fr:List Nat)(fe:FE)(fz:DE→Option Nat):GZ:=λenv=>(fi (rE env)).bind λxs=>if xs.length≤100000 then zO (λx=>fe (some x::iD (rE env) fr)) (λx=>fz (some x::iD (rE env) fr)) xs else none
section
variable{K:aA}{κ:Nat→Addr}{X:Cx}{E:XK}
theorem HX{wi:TI}{fi:FA}{fr:List Nat}{te tz:TE}{fe:FE}{fz:DE→Option Nat}(hi:vy K wi fi)(he:Dh K te fe)(hz:∀(σ:St)(H:Hp)(de:DE)(i:Nat)(Q:VK),pD K H de σ→fz de=some i→(∀H',aN H H'→E (.ref (κ i)) none H')→tz σ H Q):DZ K κ E (Nf wi 1 fr (cB 0) te tz) (qL fi fr fe fz):=λB D σ H env ii r q kk=>by
 unfold qL at q
 obtain⟨xs,q1,q⟩:=aU q
 split at q
 case isFalse=>cases q
 rename_i hlen
 have re:=r.r
 have hB:=r.sub
 refine hi σ H H (rE env) xs _ (Zn.self K H) re q1 λJ H1 Z1 P vs s1 t1 z1 hJ hP rvs=>?_
 intro D0 hD
 have hl:=rvs.length
 generalize hel:(λx=>fe (some x::iD (rE env) fr))=el at q
 generalize hez:(λx=>fz (some x::iD (rE env) fr))=ez at q
 refine⟨λi m ys H2=>m=vs.length-i∧i≤vs.length∧zO el ez (xs.drop i)=some ii∧aN H1 H2∧H2 D0=some (.lst ys)∧ys.length≤i,
  ⟨vs.length,by simp,O1 _,by simpa using q,cM hD _,bW,D2 _⟩,?_⟩
 rintro i m ys H2 ⟨rfl,hi',hcl,s2,hD2,hyl⟩
 obtain⟨j1,j2,j3⟩:=hJ i H2 (hP H2 (z1.sm.trans s2))
 have hlt:i<vs.length:=by
  refine Nat.lt_of_not_le λz=>?_
  rw[U4 (by omega)]at hcl
  unfold zO at hcl
  cases hcl
 refine⟨hD2,j1 hlt,λx H' y=>?_⟩
 obtain⟨e1,ex⟩:=j2 x H' y
 subst e1
 have hx:=ex hlt
 have hxi:i<xs.length:=by omega
 have hxs:xs.drop i=xs[i]::xs.drop (i+1):=L7 hxi
 obtain⟨x',hx',rx⟩:=rvs.get (B6 hxi)
 rw[hx]at hx'
 cases hx'
 rw[hxs]at hcl
 unfold zO at hcl
 show Kp 1 σ fr (some x::Fe σ fr)∧_
 refine⟨⟨by simp[blk],λj v hv=>?_⟩,?_⟩
 ·cases j with
  | zero=>simp[blk]at hv
  | succ j=>simpa[blk]using hv
 have mq:pD K H' (some xs[i]::iD (rE env) fr) (some x::Fe σ fr):=Pg (re.same (s1.trans s2)) ((z1.sm.trans s2).rv _ _ rx)
 split at hcl
 ·rename_i j c1
  cases hcl
  exact .inr (hz _ H' _ ii _ mq (by rw[←hez]at c1;exact c1) λH3 s3=>kk H3 (hB.trans (s1.trans (s2.trans s3))))
 ·obtain⟨dy,c3,c4⟩:=aU hcl
  refine .inl (he _ H' _ dy _ mq (by rw[←hel]at c3;exact c3) λyv H4 s4 n4=>?_)
  have wg:=s4 _ _ hD2
  refine⟨wg,Iu (by omega),vs.length-(i+1),by omega,rfl,by omega,c4,λb o eb=>?_,bW,by rw[C6];simp;exact hyl⟩
  rw[bH (gC eb hD)]
  exact(s2.trans s4) b o eb
theorem Gp{tg elt iter:Expr}{scope:Scope}{pos spos py:Pos}{y:Str}{wi:TI}{fi:FA}{te tz:TE}{fe:FE}{fz:DE→Option Nat}{env0:Env}{out:List Env}{L:Addr}(N:List Str)(fr:List Nat)(hx:Ww X E)(hcalm:X.calm=true)(B:dC X.env.scope scope X.N N 1 fr)(hi:XI K X tg iter wi fi)
  (hg:∀cl fp s H C,PG (bR X scope N cl fp s H C) tg (cB 0)) (he:∀cl fp s H C,XN K (bR X scope N cl fp s H C) elt te fe)
  (hz:∀cl fp s H C xe,OJ K κ ((bR X scope N cl fp s H C).wish xe) E elt tz fz) (hst:X.stack=env0::out:=by rfl) (ie:env0.frame=some L:=by rfl) (hfe:X.env.frame=some L:=by rfl)
  (hsw:swapsWith (.ListComp elt [⟨tg,iter,[],0⟩] scope pos) (some (.Name y py)) spos.line X.env=pure true:=by rfl)
  (hs:∀x,foldedSetIterable iter X.env x=pure x:=by intro _;rfl):YZ K κ X E (.Assign [.Name y py] (.ListComp elt [⟨tg,iter,[],0⟩] scope pos) spos) (Nf wi 1 fr (cB 0) te tz) (qL fi fr fe fz):=
 ⟨Wy N 1 fr hst ie hfe hx hcalm B hi.pi hg (λcl fp s H C=>(he cl fp s H C).pe) (λcl fp s H C xe pins σ hp=>(hz cl fp s H C xe).pe pins σ hp) hsw hs,
  HX hi.ev (he [] [] X.s₀ X.H₀ 0).ev (hz [] [] X.s₀ X.H₀ 0 λ_ _=>False).ev⟩
end
section
variable{K:aA}{κ:Nat→Addr}{X:Cx}{E:XK}{a e:Expr}{ta tz:TE}{f:FE}{z:DE→Option Nat}{pos:Pos}
def qz(ta tz:TE):TE:=λσ H _=>ta σ H λ_ H1=>tz σ H1 λ_ _=>False
def Wz(f:FE)(z:DE→Option Nat):DE→Option Nat:=λde=>(f de).bind λ_=>z de
theorem ZM{op:Operator}(ha:XR K X a ta f)(hz:OJ K κ X E e tz z):OJ K κ X E (.BinOp a op e pos) (qz ta tz) (Wz f z):=
 ⟨λpins σ hx s H Q I h=>wpAny_BinOp (eY (ha.pe pins s σ H _ I h) λv s1 ⟨x,H1,I1,r1,q1⟩=>eY (hz.pe pins σ hx s1 H1 _ I1 q1) λu s2 ⟨_,_,_,_,z⟩=>z.elim),
  λσ H de i Q re q k=>by
   obtain⟨d,q1,q2⟩:=aU q
   exact ha.ev σ H H de d _ (Zn.self _ H) re q1 λx H1 Z1 s1 t1 z1 rx=>hz.ev σ H1 de i _ (re.same s1) q2 λH' s'=>k H' (s1.trans s')⟩
def ZP(tz:TE):TE:=λσ H _=>tz σ H λ_ _=>False
theorem HY(hz:OJ K κ X E e tz z)(hs:starEach [e] X.env=(false,eval e X.env)::starEach [] X.env:=by rfl):OJ K κ X E (.List [e] pos) (ZP tz) z:=
 ⟨λpins σ hx s H Q I h=>by
  refine wpAny_List_spliced ?_
  rw[hs]
  show wpAny _ _ (spliced ((false,eval e X.env)::backTo pos (starEach [] X.env))) _ _ s
  exact Calls.spliced_cons (eY (hz.pe pins σ hx s H _ I h) λu s2 ⟨_,_,_,_,z⟩=>z.elim),λσ H de i Q re q k=>hz.ev σ H de i _ re q k⟩
theorem IK(hz:OJ K κ X E e tz z)(hx:Passes (vV X.prog X.w) X E):YZ K κ X E (.Return (some e) pos) (Kw tz) (zX z):=
 ⟨λpins s σ H D I h=>wpAny_Return_some (eY (hz.pe pins σ (hx.one pins σ) s H _ I h) λv s1 ⟨x,H1,I1,r1,q1⟩=>⟨x,σ,H1,I1,r1,q1⟩),λB D σ H env i r q k=>hz.ev σ H (rE env) i _ r.r q λH' s=>k H' (r.sub.trans s)⟩
end
end L2


namespace L2
open PySem PySem.Spec PySem.Calls PyProof.Rows PyProof.V
def zP(j:Nat)(c:FT)(f:FE)(env:EN):List D→Option (Option D)
 | []=>some none
 | x::xs=>match c (rE (env.set j (.fro x)))with
  | some true=>(f (rE (env.set j (.fro x)))).map some
  | some false=>zP j c f env xs
  | none=>none
def Dw(i j:Nat)(c:FT)(f:FE):GS:=λenv=>match env[i]? with
 | some (.own (.lst xs))=>if j<env.length∧i≠j then(match zP j c f env xs with
   | some (some d)=>.ret d
   | some none=>.next (env.set j .no)
   | none=>.bad)else .bad
 | _=>.bad
section
variable{K:aA}{te:TE}{f:FE}{tc:TT}{c:FT}{i j:Nat}
theorem ZQ(env:EN)(j:Nat)(d:D):rE (env.set j (.fro d))=(rE env).set j (some d):=by
 unfold rE
 rw[W4]
 rfl
theorem IV{H:Hp}{de:DE}{σ:St}{d:D}{v:V}(h:pD K H de σ)(r:Rv K H d v)(hl:de.length=σ.length):pD K H (de.set j (some d)) (σ.set j (some v)):=λm d' hm=>by
 by_cases e:j=m
 ·subst e
  have hj:j<de.length:=by
   have:=(C4.mp hm).1
   rw[O3]at this
   exact this
  rw[L5 hj]at hm
  cases hm
  exact⟨v,L5 (by omega),r⟩
 ·rw[K5 e]at hm
  obtain⟨v',h1,h2⟩:=h m d' hm
  exact⟨v',by rw[K5 e];exact h1,h2⟩
theorem IW(hc:Ls K tc c)(he:Dh K te f):DS K (Lb (WQ K (jF i)) (cB j) (Rg tc (Kw te) Hz)) (Dw i j c f):=λB E σ H env r p=>by
 unfold Dw at p
 split at p
 ·rename_i xs q
  split at p
  ·rename_i hc0
   have hlen:=r.len
   have re:=r.r
   have hrl:(rE env).length=σ.length:=by unfold rE;rw[B3];exact hlen.symm
   obtain⟨v,hv,rv⟩:=re i (.lst xs) (by unfold rE;rw[D5,q];rfl)
   unfold Rv at rv
   obtain⟨p0,vs,rfl,sq,rvs⟩:=rv
   have hl:=rvs.length
   have hB:aN B H:=r.sub
   refine .inl ⟨_,hv,p0,rfl,⟨vs,sq⟩,?_⟩
   generalize hres:zP j c f env xs=res at p
   refine Ff Io (λk σ2 H2=>aN H H2∧(σ2=σ∨∃w,σ2=σ.set j (some w))∧zP j c f env (xs.drop k)=res) ⟨aN.refl _,.inl rfl,by simpa using hres⟩ (λk σ2 H2 _ ⟨s,_⟩=>s.seq sq) ?_ ?_
   ·rintro k x σ2 H2 hx ⟨s,hσ,hq⟩
    have hk:k<xs.length:=by
     obtain⟨h1,_⟩:=C4.mp hx
     omega
    obtain⟨x',hx',rx⟩:=rvs.get (B6 hk)
    rw[hx]at hx'
    cases hx'
    rw[L7 hk]at hq
    unfold zP at hq
    have e3:σ2.set j (some x)=σ.set j (some x):=by
     rcases hσ with rfl | ⟨w,rfl⟩
     ·rfl
     ·rw[List.set_set]
    show Rg tc (Kw te) Hz _ (σ2.set j (some x)) H2
    rw[e3]
    have re3:pD K H2 (rE (env.set j (.fro xs[k]))) (σ.set j (some x)):=by
     rw[ZQ]
     exact IV (re.same s) (s.rv _ _ rx) hrl
    split at hq
    ·rename_i c1
     refine hc _ H2 _ true _ re3 c1 λH3 s3=>?_
     rw[if_pos rfl]
     obtain⟨d,q1,q2⟩:∃d,f (rE (env.set j (.fro xs[k])))=some d∧res=some (some d):=by
      cases z:f (rE (env.set j (.fro xs[k])))with
      | none=>
       rw[z]at hq
       rw[←hq]at p
       exact p.elim
      | some d=>
       rw[z]at hq
       exact⟨d,rfl,hq.symm⟩
     rw[q2]at p
     refine he _ H3 _ d _ (re3.same s3) q1 λv H' s' ⟨N,o,fr⟩=>p v H' N (λx u ex=>?_) o
     have h1:=s3 x u (s x u (hB x u ex))
     exact bC.mpr ⟨λz=>(by rw[fr x z]at h1;cases h1),s' x u h1⟩
    ·rename_i c1
     refine hc _ H2 _ false _ re3 c1 λH3 s3=>?_
     rw[if_neg B8]
     exact⟨s.trans s3,.inr ⟨x,rfl⟩,hq⟩
    ·rw[←hq]at p
     exact p.elim
   ·rintro σ2 H2 ⟨s,hσ,hq⟩
    rw[hl,T3]at hq
    unfold zP at hq
    rw[←hq]at p
    obtain⟨A,a,bb⟩:=r.same s
    obtain⟨y,A1,C,h1,h2,h3,h4,k⟩:=a.focus (B6 hc0.1)
    have g:aN (out H2 A) (out H2 (gZ nil C)):=λx u ex=>by
     obtain⟨e1,e2⟩:=bC.mp ex
     exact bC.mpr ⟨λz=>e1 ((h3 x).mpr (.inr (z.elim False.elim id))),e2⟩
    have key:∀y',Rel K B (env.set j .no) (σ.set j y') H2:=λy'=>⟨gZ nil C,k (jH K H2 (out H2 (gZ nil C))) (λsd D z hb qq=>by
     cases sd with
     | no=>exact qq
     | fro d=>obtain⟨q1,v,q2,q3⟩:=qq;exact⟨q1,v,q2,g.rv _ _ q3⟩
     | inn v d=>exact qq
     | own d=>exact qq) .no y' nil (λ_ z=>z.elim) (λ_ z=>z),bb.trans g⟩
    refine p σ2 H2 ?_
    rcases hσ with rfl | ⟨w,rfl⟩
    ·have:=key y
     rw[set_same h1]at this
     exact this
    ·exact key _
  ·exact p.elim
 ·exact p.elim
theorem JB{X:Cx}{tg o ce e:Expr}{pos pos2 aAl:Pos}(hp:PassesOwn (model X.prog X.w) X.A X.env X.xe)(Ss:X.calm=true)(ho:XR K X o (jF i) (aF i))(hg:PG X tg (cB j))(hc:XT K X ce tc c)(he:XN K X e te f)(hs:∀x,foldedSetIterable o X.env x=pure x:=by intro _;rfl) :
  YS K X (.For tg o [.If ce [.Return (some e) pos2] [] aAl] [] pos) (Lb (WQ K (jF i)) (cB j) (Rg tc (Kw te) Hz)) (Dw i j c f):=
 ⟨Ld hp Ss (eU (tg:=tg) ho).pi hg (xP (Um hc.pt (xP (Ky he.pe)) Od)) hs,IW hc.ev he.ev⟩
end
end L2


namespace L2
open PySem PySem.Spec PyProof.Rows
abbrev aW(ns:List Int):D:=.lst (ns.map D.int)
theorem vZ{i:Nat}{g:GS}(I:Nat→EN→Prop):∀(xs:List D)(env:EN)(n:Nat),I n env→(∀k x env,xs[k]?=some x→I (n+k) env→i<env.length∧∃env',g (env.set i (.fro x))=.next env'∧I (n+k+1) env')→∃env',rW i g xs env=.next env'∧I (n+xs.length) env'
 | [],env,n,h,_=>⟨env,by unfold rW;rfl,h⟩
 | x::xs,env,n,h,st=>by
  obtain⟨h1,env',h2,h3⟩:=st 0 x env rfl h
  obtain⟨rY,a1,a2⟩:=vZ I xs env' (n+1) h3 λk y e hk hi=>by
   have:=st (k+1) y e (by simpa using hk) (by rw[show n+(k+1)=n+1+k by omega];exact hi)
   rw[show n+(k+1)+1=n+1+k+1 by omega]at this
   exact this
  refine⟨rY,?_,?_⟩
  ·unfold rW
   rw[if_pos h1,h2]
   exact a1
  ·rw[G8,show n+(xs.length+1)=n+1+xs.length by omega]
   exact a2
theorem gR{g1 g2:GS}{env env':EN}(h:g1 env=.next env'):aQ g1 g2 env=g2 env':=by unfold aQ;rw[h]
theorem qM{g1 g2:GS}{env:EN}{d:D}(h:g1 env=.ret d):aQ g1 g2 env=.ret d:=by unfold aQ;rw[h]
theorem zQ{f:FT}{g1 g2:GS}{env:EN}(h:f (rE env)=some true):jJ f g1 g2 env=g1 env:=by unfold jJ;rw[h]
theorem nY{f:FT}{g1 g2:GS}{env:EN}(h:f (rE env)=some false):jJ f g1 g2 env=g2 env:=by unfold jJ;rw[h]
theorem jC{i:Nat}{f:FE}{env:EN}{d:D}(h:f (rE env)=some d)(hi:i<env.length):bD i f env=.next (env.set i (.own d)):=by unfold bD;rw[h];dsimp only;rw[if_pos hi]
theorem Xa{i:Nat}{f:FE}{env:EN}{d:D}(h:f (zE env)=some d)(hi:i<env.length):wQ i f env=.next (env.set i (.fro d)):=by unfold wQ;rw[h];dsimp only;rw[if_pos hi]
theorem mQ{f:FE}{env:EN}{d:D}(h:f (rE env)=some d):cU f env=.ret d:=by unfold cU;rw[h]
theorem Xb{i:Nat}{fi:FA}{g:GS}{env:EN}{xs:List D}(h:fi (rE env)=some xs):qG i fi g env=rW i g xs env:=by unfold qG;rw[h]
theorem Gq{js:List Nat}{i:Nat}{fi:FA}{g:GS}{env pH:EN}{xs:List D}(h0:tZ js env=pH)(h:fi (zE pH)=some xs):uQ js i fi g env=rW i g xs pH:=by unfold uQ;rw[h0,h]
theorem lW{n m:Nat}{g:GS}{ds:List D}{d:D}(hl:ds.length=m)(h:g (ds.map SD.fro++B9 (n-m) SD.no)=.ret d):lJ n m g ds=some d:=by unfold lJ;rw[if_pos hl,h]
theorem aO{φ:D→D→Option D}{f g:FE}{e:DE}{a b d:D}(h1:f e=some a)(h2:g e=some b)(h:φ a b=some d):f2 φ f g e=some d:=by unfold f2;rw[h1,h2];exact h
theorem fY{φ:List D→Option D}{fs:FA}{e:DE}{ds:List D}{d:D}(h1:fs e=some ds)(h:φ ds=some d):fL φ fs e=some d:=by unfold fL;rw[h1];exact h
theorem aC{f:FE}{fs:FA}{e:DE}{a:D}{r:List D}(h1:f e=some a)(h2:fs e=some r):aB f fs e=some (a::r):=by unfold aB;rw[h1,h2];rfl
theorem aX{n:Nat}{F:List D→Option D}{fs:FA}{e:DE}{ds:List D}{d:D}(h1:fs e=some ds)(hl:ds.length=n)(h:F ds=some d):bA n F fs e=some d:=by unfold bA;rw[h1];dsimp only[C8];rw[if_pos hl];exact h
theorem bU{f:FE}{e:DE}{b:Bool}(h:f e=some (.bl b)):fB f e=some b:=by unfold fB;rw[h];rfl
theorem dR{f:FT}{e:DE}{b:Bool}(h:f e=some b):fQ f e=some (!b):=by unfold fQ;rw[h];rfl
theorem PJ{f g:FT}{e:DE}(h:f e=some false):Dl f g e=g e:=by unfold Dl;rw[h];rfl
theorem xZ{f:FE}{e:DE}{d:D}(h:f e=some d)(i:d.eX=true):Ir f e=some d:=Di.mpr ⟨h,i⟩
theorem fG(i j:Int):cX (.int i) (.int j)=some (.int (i+j)):=rfl
theorem vA(i j:Int):Bp (.int i) (.int j)=some (.int (i-j)):=by unfold Bp Bo;exact if_pos True.intro
theorem Js{i j:Int}(h:Bh i j):yW (.int i) (.int j)=some (.int (i*j)):=by unfold yW Bo;exact if_pos h
theorem dX{i j:Int}(h:0<j)(h2:j<1073741824):mD (.int i) (.int j)=some (.int (i/j)):=by unfold mD Bo;exact if_pos (show Rj i j from⟨h,h2⟩)
theorem bN{i j:Int}(h:0<j):eH (.int i) (.int j)=some (.int (i%j)):=by unfold eH Bo;exact if_pos h
theorem mR(i j:Int):Zd (.int i) (.int j)=some (.bl (decide (i<j))):=by unfold Zd Bo;exact if_pos True.intro
theorem yC(i j:Int):gn (.int i) (.int j)=some (.bl (decide (j<i))):=by unfold gn Bo;exact if_pos True.intro
theorem Gr(i j:Int):Oz (.int i) (.int j)=some (.bl (decide (i≤j))):=by unfold Oz Bo;exact if_pos True.intro
theorem Qe(i j:Int):decide (V.int i=V.int j)=decide (i=j):=by
 by_cases c:i=j
 ·subst c;simp
 ·rw[decide_eq_false c,decide_eq_false (λz=>c (by cases z;rfl))]
theorem yD(i j:Int):vN (.int i) (.int j)=some (.bl (decide (i=j))):=by
 unfold vN toV
 dsimp only
 rw[if_pos (by rfl),Qe]
theorem Qf(i j:Int):yZ (.int i) (.int j)=some (.bl (!decide (i=j))):=by
 unfold yZ toV
 dsimp only
 rw[if_pos (by rfl),Qe]
theorem Gs{α:Type}{xs:List α}{i:Int}{x:α}(h0:0≤i)(h:xs[i.toNat]?=some x):Ik xs i=some x:=by
 have h1:i.toNat<xs.length:=by
  obtain⟨h1,_⟩:=C4.mp h
  exact h1
 unfold Ik Oj
 rw[if_pos h0,if_pos (by omega)]
 exact h
theorem JC{α:Type}{xs:List α}{x:α}(h:xs.getLast?=some x):Ik xs (-1)=some x:=by
 have hl:0<xs.length:=by
  cases xs with
  | nil=>simp at h
  | cons=>simp
 unfold Ik Oj
 rw[if_neg (by omega),if_pos (by omega)]
 show xs[((-1:Int)+(xs.length:Int)).toNat]?=some x
 rw[List.getLast?_eq_getElem?]at h
 rw[show ((-1:Int)+(xs.length:Int)).toNat=xs.length-1 by omega]
 exact h
theorem jY{ds:List D}{i:Int}{d:D}(h0:0≤i)(h:ds[i.toNat]?=some d):sH (.lst ds) (.int i)=some d:=Gs h0 h
theorem JD{ds:List D}{i:Int}{d:D}(h0:0≤i)(h:ds[i.toNat]?=some d):sH (.tup ds) (.int i)=some d:=Gs h0 h
theorem Xc{ns:List Int}{i:Int}(h0:0≤i)(h:i<ns.length):sH (aW ns) (.int i)=some (.int (ns.getD i.toNat 0)):=Gs h0 (by
 rw[D5,F1,B6 (show i.toNat<ns.length by omega)];rfl)
theorem zR(ds:List D):cO [.lst ds]=some (.int ds.length):=rfl
theorem qN(ds:List D):cO [.tup ds]=some (.int ds.length):=rfl
theorem Dy(ns:List Int):cO [aW ns]=some (.int ns.length):=by show some (D.int ((ns.map D.int).length:Nat))=_;rw[B3]
theorem Dz{c:D→Option Bool}{el:D→Option D}{φ:D→D}:∀{xs:List D},(∀x∈xs,c x=some true)→(∀x∈xs,el x=some (φ x))→mK c el xs=some (xs.map φ)
 | [],_,_=>by unfold mK;rfl
 | x::xs,hc,he=>by
  unfold mK
  rw[hc x D1,he x D1,Dz (xs:=xs) (λy hy=>hc y (C5 _ hy)) λy hy=>he y (C5 _ hy)]
  rfl
theorem zT{fi:FA}{fr:List Nat}{fc:FT}{fe:FE}{e:DE}{xs ys:List D}(h1:fi e=some xs)(hl:xs.length≤100000)(h:mK (λx=>fc (some x::iD e fr)) (λx=>fe (some x::iD e fr)) xs=some ys):cV fi fr fc fe e=some (.lst ys):=by
 unfold cV
 rw[h1,C8,if_pos hl,h]
 rfl
theorem zU(lo:Int)(n:Nat):(iB lo n).length=n:=by unfold iB;rw[B3,P5]
theorem zV{lo:Int}{n k:Nat}{x:D}(h:(iB lo n)[k]?=some x):k<n∧x=.int (lo+k):=by
 unfold iB at h
 rw[D5]at h
 cases q:(K4 n)[k]? with
 | none=>rw[q]at h;cases h
 | some j=>
  rw[q]at h
  obtain⟨h1,h2⟩:=C4.mp q
  rw[P5]at h1
  rw[List.getElem_range]at h2
  subst h2
  exact⟨h1,(G1 h).symm⟩
theorem Ng{lo:Int}{n:Nat}{x:D}(h:x∈iB lo n):∃k:Nat,k<n∧x=.int (lo+k):=by
 obtain⟨k,hk,e⟩:=V3 h
 obtain⟨a1,a2⟩:=zV (k:=k) (x:=x) (by rw[B6 hk,e])
 exact⟨k,a1,a2⟩
theorem Xd{fs:FA}{e:DE}{n:Int}(h:fs e=some [.int n])(h1:-100000≤n)(h2:n≤100000):nQ fs e=some (iB 0 n.toNat):=by
 unfold nQ
 rw[h]
 dsimp only[C8]
 rw[if_pos (show lim n=true from decide_eq_true ⟨h1,h2⟩)]
theorem aAm{i j:Int}(h1:-18446744073709551616<i)(h2:i<18446744073709551616):Bh i j:=.inl ⟨h1,h2⟩
theorem rm{i j:Int}(h1:-18446744073709551616<j)(h2:j<18446744073709551616):Bh i j:=.inr ⟨h1,h2⟩
theorem ZR{i:Nat}{f:FE}{env:EN}{ds:List D}{d:D}(h1:env[i]?=some (.own (.lst ds)))(h2:f (rE env)=some d)(hl:ds.length<100000):Br i rZ f env=.next (env.set i (.own (.lst (ds++[d])))):=by
 unfold Br rZ
 rw[h1,h2]
 dsimp only[qF]
 rw[if_pos hl]
 rfl
end L2


namespace L2
open PySem PySem.Spec PyProof.Rows
section
variable{i j:Nat}{f:FE}{c:FT}{g1 g2 g:GS}{env env':EN}{d:D}{r:SR}{ds:List D}
theorem nG(h:f (rE env)=some d)(hi:i<env.length)(k:g (env.set i (.own d))=r):aQ (bD i f) g env=r:=(gR (jC h hi)).trans k
theorem PK{b:Bool}(h:c (rE env)=some b)(k1:b=true→aQ g1 g env=r)(k2:b=false→aQ g2 g env=r):aQ (jJ c g1 g2) g env=r:=by
 cases b with
 | true=>have k:=k1 rfl;unfold aQ at k ⊢;rw[zQ h];exact k
 | false=>have k:=k2 rfl;unfold aQ at k ⊢;rw[nY h];exact k
theorem zW{b:Bool}(h:c (rE env)=some b)(hb:b=false)(k:aQ g2 g env=r):aQ (jJ c g1 g2) g env=r:=PK h (λz=>by rw[hb]at z;cases z) λ_=>k
theorem ZV{b:Bool}(h:c (rE env)=some b)(hb:b=true)(k:aQ g1 g env=r):aQ (jJ c g1 g2) g env=r:=PK h (λ_=>k) (λz=>by rw[hb]at z;cases z)
theorem Jt(k:g env=r):aQ bG g env=r:=k
theorem rn(h:f (rE env)=some d)(k:SR.ret d=r):aQ (cU f) g env=r:=(qM (mQ h)).trans k
theorem sr(h:g1 env=.next env')(k:g env'=r):aQ g1 g env=r:=(gR h).trans k
theorem Ea(h:env[i]?=some (.own d)):mL i env=.ret d:=by unfold mL;rw[h]
theorem Tq(h:env[i]?=some (.fro d))(im:d.eX=true):mL i env=.ret d:=by unfold mL;rw[h];dsimp only;rw[if_pos im]
theorem yE{fs:FA}{e:DE}(h:fs e=some ds)(hl:ds.length≤100000):Iv fs e=some (.tup ds):=by unfold Iv cap;rw[h];dsimp only[C8];rw[if_pos hl]
theorem bQ{fs:FA}{e:DE}(h:fs e=some ds)(hl:ds.length≤100000):eG fs e=some (.lst ds):=by unfold eG cap;rw[h];dsimp only[C8];rw[if_pos hl]
theorem oX{e:DE}{z:Int}(h:f e=some (.int z)):nR f e=some (.int (-z)):=by unfold nR;rw[h];rfl
theorem Xe{e:DE}{b:Bool}(h:f e=some (.bl b)):Ja f e=some (.bl (!b)):=by unfold Ja;rw[bU h];rfl
theorem JF{e:DE}{f':FE}(h:f e=some (.bl true))(k:f' e=some d):uN f f' e=some d:=by unfold uN;rw[bU h];exact k
theorem Ju{e:DE}{f':FE}{a b:Bool}(h:f e=some (.bl a))(k:f' e=some (.bl b)):uN f f' e=some (.bl (a&&b)):=by
 unfold uN;rw[bU h]
 cases a with
 | true=>exact k
 | false=>rfl
theorem Qg{e:DE}{c':FT}{a b:Bool}(h:c e=some a)(k:c' e=some b):Lz c c' e=some (a&&b):=by
 unfold Lz;rw[h]
 cases a with
 | true=>exact k
 | false=>rfl
theorem tK{e:DE}{c':FT}{a b:Bool}(h:c e=some a)(k:c' e=some b):Dl c c' e=some (a||b):=by
 unfold Dl;rw[h]
 cases a with
 | true=>rfl
 | false=>exact k
theorem dY{e:DE}(h:f e=some (.lst ds)):eQ f e=some ds:=by unfold eQ;rw[h];rfl
theorem Xf{e:DE}(h:f e=some (.tup ds)):eQ f e=some ds:=by unfold eQ;rw[h];rfl
theorem rD{a b:List D}(h:D.cT (a++b)=true)(hl:a.length+b.length≤100000):cX (.lst a) (.lst b)=some (.lst (a++b)):=by
 show (if D.cT (a++b)=true∧a.length+b.length≤100000 then some (D.lst (a++b))else none)=_
 rw[if_pos ⟨h,hl⟩]
theorem Eb(d:D)(ds:List D):D.cT (d::ds)=(d.eX&&D.cT ds):=by rw[D.cT]
theorem Xg{a b:List D}:D.cT (a++b)=(D.cT a&&D.cT b):=by
 induction a with
 | nil=>rw[O4,D.cT];rfl
 | cons x a ih=>rw[M5,Eb,Eb,ih,Bool.and_assoc]
theorem Xh{ds:List D}(h:∀d∈ds,d.eX=true):D.cT ds=true:=by
 induction ds with
 | nil=>unfold D.cT;rfl
 | cons d ds ih=>unfold D.cT;rw[h d D1,ih λe he=>h e (C5 _ he)];rfl
theorem Jv(ns:List Int):(dTup ns).eX=true:=by unfold dTup D.eX;exact gF ns
theorem tL(ns:List Int):mJ (ns.map D.int)=some (ns.map DV.int):=by
 induction ns with
 | nil=>unfold mJ;rfl
 | cons n ns ih=>rw[D7];unfold mJ fD;rw[C8,ih];rfl
theorem JG(ns ms:List Int):vN (dTup ns) (dTup ms)=some (.bl (decide (ns=ms))):=by
 unfold vN dTup toV
 dsimp only
 unfold fD
 rw[tL,tL]
 dsimp only[Option.map_some]
 rw[if_pos (by unfold DV.depth;rw[sZ];decide)]
 congr 2
 rw[F7,nP,decide_eq_true_iff]
 constructor
 ·intro z;injection z with z;exact Ip.mp z
 ·intro z;rw[z]
end
end L2
namespace L2
theorem jD{i:Nat}{e:DE}{d:D}(h:e[i]?=some (some d)):aF i e=some d:=by unfold aF;rw[h];rfl
theorem su{e:DE}{d:D}:fC d e=some d:=rfl
theorem Xi{e:DE}:aG e=some []:=rfl
end L2
namespace L2
theorem Jw{i:Nat}{fi:FA}{gb:GS}{env:EN}{n:Nat}(I:Nat→EN→Prop)(h:fi (rE env)=some (iB 0 n))(h0:I 0 env)
  (st:∀(k:Nat) env,k<n→I k env→i<env.length∧∃env',gb (env.set i (.fro (.int k)))=.next env'∧I (k+1) env'):∃env',qG i fi gb env=.next env'∧I n env':=by
 obtain⟨env',h1,h2⟩:=vZ (i:=i) (g:=gb) I (iB 0 n) env 0 h0 λk x e hx hi=>by
  rw[O7]at hi ⊢
  obtain⟨hk,rfl⟩:=zV hx
  rw[W5]
  exact st k e hk hi
 rw[O7,zU]at h2
 exact⟨env',(Xb h).trans h1,h2⟩
end L2


namespace L2
open PySem PySem.Spec PyProof.Rows
def Qs(Pr:SR→Prop)(r:SR):Prop:=Pr r
section
variable{i j:Nat}{f:FE}{c:FT}{g1 g2 g gb:GS}{env env':EN}{d:D}{ds:List D}{Pr:SR→Prop}
theorem cI(h:f (rE env)=some d)(hi:i<env.length)(k:Qs Pr (g (env.set i (.own d)))):Qs Pr (aQ (bD i f) g env):=by rw[gR (jC h hi)];exact k
theorem ZW(h:f (zE env)=some d)(hi:i<env.length)(k:Qs Pr (g (env.set i (.fro d)))):Qs Pr (aQ (wQ i f) g env):=by rw[gR (Xa h hi)];exact k
theorem ZX(h:f (rE env)=some d)(hi:i<env.length)(k:Pr (.next (env.set i (.own d)))):Qs Pr (bD i f env):=by rw[jC h hi];exact k
theorem JH(h:g1 env=.next env')(k:Qs Pr (g env')):Qs Pr (aQ g1 g env):=by rw[gR h];exact k
theorem jE(k:Qs Pr (g env)):Qs Pr (aQ bG g env):=k
theorem oY{b:Bool}(h:c (rE env)=some b)(k1:b=true→Qs Pr (aQ g1 g env))(k2:b=false→Qs Pr (aQ g2 g env)):Qs Pr (aQ (jJ c g1 g2) g env):=by
 cases b with
 | true=>have k:=k1 rfl;unfold aQ at k ⊢;rw[zQ h];exact k
 | false=>have k:=k2 rfl;unfold aQ at k ⊢;rw[nY h];exact k
theorem sy{b:Bool}(h:c (rE env)=some b)(k1:b=true→Qs Pr (g1 env))(k2:b=false→Qs Pr (g2 env)):Qs Pr (jJ c g1 g2 env):=by
 cases b with
 | true=>rw[zQ h];exact k1 rfl
 | false=>rw[nY h];exact k2 rfl
theorem lA{b:Bool}(h:c (rE env)=some b)(hb:b=false)(k:Qs Pr (aQ g2 g env)):Qs Pr (aQ (jJ c g1 g2) g env):=oY h (λz=>by rw[hb]at z;cases z) λ_=>k
theorem PL{b:Bool}(h:c (rE env)=some b)(hb:b=true)(k:Qs Pr (aQ g1 g env)):Qs Pr (aQ (jJ c g1 g2) g env):=oY h (λ_=>k) (λz=>by rw[hb]at z;cases z)
theorem Xj{b:Bool}(h:c (rE env)=some b)(hb:b=false)(k:Qs Pr (g2 env)):Qs Pr (jJ c g1 g2 env):=sy h (λz=>by rw[hb]at z;cases z) λ_=>k
theorem pG(h:f (rE env)=some d)(k:Pr (.ret d)):Qs Pr (aQ (cU f) g env):=by rw[qM (mQ h)];exact k
theorem qO(h:f (rE env)=some d)(k:Pr (.ret d)):Qs Pr (cU f env):=by rw[mQ h];exact k
theorem wA(h:env[i]?=some (.own d))(k:Pr (.ret d)):Qs Pr (mL i env):=by rw[Ea h];exact k
theorem Gu(h1:env[i]?=some (.own (.lst ds)))(h2:f (rE env)=some d)(hl:ds.length<100000)(k:Pr (.next (env.set i (.own (.lst (ds++[d])))))):Qs Pr (Br i rZ f env):=by rw[ZR h1 h2 hl];exact k
theorem Qh{fi:FA}{n:Nat}(I:Nat→EN→Prop)(h:fi (rE env)=some (iB 0 n))(h0:I 0 env)
  (st:∀(k:Nat) env,k<n→I k env→i<env.length∧Qs (λr=>∃env',r=.next env'∧I (k+1) env') (gb (env.set i (.fro (.int k))))) (k:∀env',I n env'→Qs Pr (g env')):Qs Pr (aQ (qG i fi gb) g env):=by
 obtain⟨env',h1,h2⟩:=Jw (gb:=gb) I h h0 λk env hk hi=>⟨(st k env hk hi).1,let ⟨e,a,b⟩:=(st k env hk hi).2;⟨e,a,b⟩⟩
 rw[gR h1]
 exact k env' h2
theorem Xk{fi:FA}{n:Nat}(I:Nat→EN→Prop)(h:fi (rE env)=some (iB 0 n))(h0:I 0 env)
  (st:∀(k:Nat) env,k<n→I k env→i<env.length∧Qs (λr=>∃env',r=.next env'∧I (k+1) env') (gb (env.set i (.fro (.int k))))) (k:∀env',I n env'→Pr (.next env')):Qs Pr (qG i fi gb env):=by
 obtain⟨env',h1,h2⟩:=Jw (gb:=gb) I h h0 λk env hk hi=>⟨(st k env hk hi).1,let ⟨e,a,b⟩:=(st k env hk hi).2;⟨e,a,b⟩⟩
 rw[h1]
 exact k env' h2
theorem Xl{js:List Nat}{fi:FA}{pH:EN}{xs:List D}(I:Nat→EN→Prop)(hf:tZ js env=pH)(h:fi (zE pH)=some xs)(h0:I 0 pH)
  (st:∀(k:Nat) x env,xs[k]?=some x→I k env→i<env.length∧Qs (λr=>∃env',r=.next env'∧I (k+1) env') (gb (env.set i (.fro x)))) (k:∀env',I xs.length env'→Qs Pr (g env')):Qs Pr (aQ (uQ js i fi gb) g env):=by
 obtain⟨env',h1,h2⟩:=vZ (i:=i) (g:=gb) I xs pH 0 h0 λk x e hx hi=>by
  rw[O7]at hi ⊢
  exact⟨(st k x e hx hi).1,let ⟨e,a,b⟩:=(st k x e hx hi).2;⟨e,a,b⟩⟩
 rw[O7]at h2
 rw[gR ((Gq hf h).trans h1)]
 exact k env' h2
theorem lE{n m:Nat}{Pd:D→Prop}(hl:ds.length=m)(h:Qs (λr=>∃d,r=.ret d∧Pd d) (g (ds.map SD.fro++B9 (n-m) SD.no))):∃d,lJ n m g ds=some d∧Pd d:=by
 obtain⟨d,h1,h2⟩:=h
 exact⟨d,lW hl h1,h2⟩
theorem yF{fs:FA}{e:DE}{n:Nat}(h:fs e=some [.int (n:Int)])(hn:n≤100000):nQ fs e=some (iB 0 n):=by
 rw[Xd h (by omega) (by omega),N0]
end
end L2
namespace L2
theorem Nh{fi:FA}{fr:List Nat}{fe:FE}{e:DE}{n:Nat}{φ:Nat→D}(h1:fi e=some (iB 0 n))(hn:n≤1000)(he:∀k:Nat,k<n→fe (some (.int k)::iD e fr)=some (φ k)):cV fi fr dW fe e=some (.lst ((K4 n).map φ)):=by
 refine zT h1 (by rw[zU];omega) ?_
 refine(Dz (c:=λx=>dW (some x::iD e fr)) (φ:=λx=>match x with | .int i=>φ i.toNat | d=>d) (λ_ _=>rfl) ?_).trans ?_
 rotate_left
 ·congr 1
  unfold iB
  rw[M8]
  apply R8
  intro k _
  show φ ((0:Int)+(k:Int)).toNat=φ k
  rw[W5,N0]
 ·intro x hx
  obtain⟨k,hk,rfl⟩:=Ng hx
  rw[W5]
  show _=some (φ ((k:Int)).toNat)
  rw[N0]
  exact he k hk
theorem Tr{fi:FA}{fr:List Nat}{fe:FE}{e:DE}{α:Type}{xs:List α}{ψ φ:α→D}(h1:fi e=some (xs.map ψ))(hn:xs.length≤1000)(he:∀x∈xs,fe (some (ψ x)::iD e fr)=some (φ x)):cV fi fr dW fe e=some (.lst (xs.map φ)):=by
 refine zT h1 (by rw[B3];omega) ?_
 clear h1 hn
 induction xs with
 | nil=>rw[J7,J7];unfold mK;rfl
 | cons x xs ih=>
  rw[D7]
  unfold mK
  show (some true).bind _=_
  rw[C8,if_pos rfl,he x D1,C8,ih λy hy=>he y (C5 _ hy)]
  rfl
theorem zY{α:Type}{l:List α}{k:Nat}{d:α}(h:k<l.length):l[k]?=some (l.getD k d):=by rw[F1,B6 h];rfl
theorem ZZ{b:Bool}{f:FE}{l h:FO}{e:DE}{ds:List D}{lo hi:Option Int}(h1:f e=some (.lst ds))(h2:l e=some lo)(h3:h e=some hi)(h4:b=false∨D.cT (iY ds lo hi)=true):Ug b f l h e=some (.lst (iY ds lo hi)):=by
 unfold Ug
 rw[h1,h2,h3]
 dsimp only[C8]
 rw[if_pos h4]
theorem zZ(ns ms:List Int)(h:ns.length+ms.length≤100000):cX (aW ns) (aW ms)=some (aW (ns++ms)):=by
 have:=rD (a:=ns.map D.int) (b:=ms.map D.int) (by rw[Xg,gF,gF];rfl) (by rw[B3,B3];exact h)
 rw[←G5]at this
 exact this
end L2


namespace L2
open PySem PySem.Spec PyProof.Rows
section
variable{i j:Nat}{f:FE}{c:FT}{g1 g2 g gb:GS}{env env':EN}{d:D}{ds:List D}{Pr:SR→Prop}
theorem JK{x:D}(h:ds.getLast?=some x):sH (.lst ds) (.int (-1))=some x:=JC h
theorem Jx{α:Type}(l:List α):iY l none (some (-1))=l.dropLast:=by
 unfold iY
 show (l.drop 0).take (HT.pJ l.length l.length (some (-1))-0)=_
 have:HT.pJ l.length l.length (some (-1))=l.length-1:=by
  show (if(-1:Int)<0 then((-1:Int)+(l.length:Int)).toNat else min (-1:Int).toNat l.length)=_
  rw[if_pos (by decide)]
  omega
 rw[this,V0,W3,List.dropLast_eq_take]
end
end L2
namespace L2
end L2
namespace L2
end L2


namespace L2
open PySem PySem.Spec PyProof.Rows
theorem wW(ns:List Int):vO [aW ns]=some (dTup ns):=by
 unfold vO
 dsimp only
 rw[show pX (aW ns)=some (ns.map D.int)from by unfold aW pX;rfl,C8,if_pos (gF _)]
 rfl
structure xn where
 tu:Int
 place:Int
 thing:List Int
 needs:List Int
 deriving Inhabited
def chD(c:xn):D:=.tup [.int c.tu,.int c.place,dTup c.thing,dTup c.needs]
abbrev at_(cs:List xn)(k:Nat):xn:=cs.getD k default
theorem Qi(c:xn):sH (chD c) (.int 0)=some (.int c.tu):=JD (by decide) rfl
theorem Xm(ns ms:List Int):yZ (aW ns) (aW ms)=some (.bl (!decide (ns=ms))):=by
 have e:∀l:List Int,fD (aW l)=some (.lst (l.map DV.int)):=λl=>by unfold aW fD;rw[tL];rfl
 unfold yZ
 rw[e,e]
 unfold toV
 dsimp only
 rw[if_pos (by rw[sZ];decide)]
 congr 3
 rw[F7,nP,decide_eq_true_iff]
 constructor
 ·intro z;injection z with z;exact Ip.mp z
 ·intro z;rw[z]
end L2
namespace L2
theorem fH{f:FE}{e:DE}{i:Int}(h:f e=some (.int i)):dI f e=some (some i):=by unfold dI;rw[h];rfl
end L2
namespace L2
end L2


namespace L2
open PySem PySem.Spec PyProof.Rows
theorem JL{e:DE}{f f':FE}{a b:Bool}(h:f e=some (.bl a))(k:f' e=some (.bl b)):Sh f f' e=some (.bl (a||b)):=by
 unfold Sh;rw[bU h]
 cases a with
 | true=>rfl
 | false=>exact k
theorem Aa{α:Type}(p:α→Bool)(l:List α):Mf [.lst (l.map λx=>D.bl (p x))]=some (.bl (l.all p)):=by
 show (sI (l.map λx=>D.bl (p x))).map _=_
 rw[Dm]
 show some (D.bl ((l.map p).all id))=_
 rw[List.all_map]
 rfl
end L2


namespace L2
open PySem PySem.Spec PyProof.Rows
section
variable{i j:Nat}{f f':FE}{c:FT}{g1 g2 g gb:GS}{env env':EN}{d d0 d' r:D}{ds:List D}{Pr:SR→Prop}{v:V}{π:FP}{p:List Step}
theorem JM{k:Int}(h1:env[i]?=some (.own d0))(h2:π (rE env)=some p)(h3:qF p d0=some (.lst ds))(h4:f (rE env)=some (.int k))(h5:f' (rE env)=some d)(k0:0≤k)(k1:k<ds.length):wR i π f f' env=.next (env.set i (.own (oU p d0 (.lst (ds.set k.toNat d))))):=by
 unfold wR
 rw[h1,h2,h4,h5]
 dsimp only
 rw[h3]
 dsimp only
 have:Oj ds.length k=some k.toNat:=by unfold Oj;rw[if_pos k0,if_pos k1]
 rw[this]
theorem uc{f g:FE}{e:DE}(h:c e=some true)(h2:f e=some d):WM c f g e=some d:=by unfold WM;rw[h];exact h2
theorem ud{f g:FE}{e:DE}(h:c e=some false)(h2:g e=some d):WM c f g e=some d:=by unfold WM;rw[h];exact h2
end
end L2


local macro_rules | `(tactic| walk_at "fs")=>`(tactic| exact⟨rfl,rfl,rfl,by decide +kernel,rfl,by decide +kernel,by decide +kernel⟩)
namespace Rs
open PySem L2
def top(i:Nat):Stmt:=PySem.Challenge.pw_ripestone_k55_odd_stones.main.body.getD i (.Pass ⟨0,0,0,0⟩)
def wB:Gi:=λi j=>match i,j with | 0,0=>true | 0,1=>true | 1,1=>true | 2,1=>true | 2,2=>true | 3,1=>true | 3,3=>true | 4,1=>true | 4,4=>true | 5,1=>true | 5,5=>true | 6,1=>true | 6,6=>true | 7,1=>true | 7,7=>true | 8,1=>true | 8,8=>true | 9,1=>true | 9,9=>true | 10,1=>true | 10,10=>true | _,_=>false
theorem JN:∀i,i<1→wB i i=true:=by decide
abbrev Ab:Stmt:=top 30
noncomputable def Jy:GS:=aQ (jJ (fB (f2 vN (fL cO (aB (aF 0) aG)) (fC (.int 0)))) (cU (fC (.int 0))) bG)
 (aQ (bD 2 (f2 mD (aF 1) (fL cO (aB (aF 0) aG))))
 (aQ (bD 3 (f2 cX (fC (.int 48271)) (f2 yW (f2 yW (fC (.int 7919)) (aF 2)) (aF 2))))
 (aQ (bD 4 (f2 cX (f2 yW (f2 sH (aF 0) (f2 eH (aF 1) (fL cO (aB (aF 0) aG)))) (aF 3)) (f2 yW (f2 yW (aF 1) (aF 1)) (fC (.int 104729)))))
 (aQ (bD 4 (f2 eH (aF 4) (fC (.int 2147483647))))
 (cU (f2 eH (f2 yW (aF 4) (aF 4)) (fC (.int 2147483629))))))))
noncomputable def dZ:List D→Option D:=lJ 5 2 (Jy)
abbrev Ac:Stmt:=top 39
noncomputable def Jz:GS:=aQ (bD 2 (eG aG))
 (aQ (bD 3 (fC (.int 10)))
 (aQ (uQ [] 4 (eQ (aF 1)) (aQ (bD 5 (eG aG))
 (aQ (uQ [4] 6 (eQ (aF 4)) (aQ (bD 7 (eG aG))
 (aQ (qG 8 (nQ (aB (aF 6) aG)) (aQ (bD 9 (bA 2 dZ (aB (aF 0) (aB (aF 3) aG))))
 (aQ (bD 3 (f2 cX (aF 3) (fC (.int 1))))
 (Br 7 rZ (fL Pn (aB (f2 sH (eG (aB (f2 eH (f2 mD (aF 9) (fC (.int 4))) (fC (.int 2))) (aB (f2 eH (f2 mD (aF 9) (fC (.int 4))) (fC (.int 20))) (aB (f2 eH (f2 mD (aF 9) (fC (.int 4))) (fC (.int 1000))) (aB (f2 Bp (nR (fC (.int 1))) (f2 eH (f2 mD (aF 9) (fC (.int 4))) (fC (.int 30)))) aG))))) (f2 eH (aF 9) (fC (.int 4)))) aG))))))
 (Br 5 rZ (f2 Dr (fC (.str ",")) (aF 7))))))
 (Br 2 rZ (f2 Dr (fC (.str " ")) (aF 5))))))
 (cU (f2 Dr (fC (.str ";")) (aF 2)))))
noncomputable def qP:List D→Option D:=lJ 10 2 (Jz)
abbrev tO:Stmt:=top 40
noncomputable def Ad:GS:=aQ (bD 2 (bA 2 dZ (aB (aF 0) (aB (fC (.int 2)) aG))))
 (aQ (bD 3 (f2 eH (bA 2 dZ (aB (aF 0) (aB (fC (.int 3)) aG))) (f2 cX (fL qH (aB (aF 1) aG)) (fC (.int 1)))))
 (aQ (bD 4 (f2 Ga (fC (.str ",; -07_+a\n")) (f2 eH (f2 mD (aF 2) (fC (.int 8))) (fC (.int 10)))))
 (aQ (jJ (fB (f2 Zd (f2 eH (aF 2) (fC (.int 8))) (fC (.int 3)))) (mL 1) bG)
 (aQ (jJ (fB (f2 Zd (f2 eH (aF 2) (fC (.int 8))) (fC (.int 5)))) (cU (f2 sJ (f2 sJ (vX (aF 1) (fU) (dI (aF 3))) (aF 4)) (vX (aF 1) (dI (aF 3)) (fU)))) bG)
 (aQ (jJ (fB (f2 Zd (f2 eH (aF 2) (fC (.int 8))) (fC (.int 7)))) (cU (f2 sJ (f2 sJ (vX (aF 1) (fU) (dI (aF 3))) (aF 4)) (vX (aF 1) (dI (f2 cX (aF 3) (fC (.int 1)))) (fU)))) bG)
 (cU (f2 sJ (vX (aF 1) (fU) (dI (aF 3))) (vX (aF 1) (dI (f2 cX (aF 3) (fC (.int 1)))) (fU)))))))))
noncomputable def lX:List D→Option D:=lJ 5 2 (Ad)
abbrev rF:Stmt:=top 24
noncomputable def Ec:GS:=aQ (bD 1 (WM (fB (f2 Gb (aF 0) (fC (.str "-")))) (vX (aF 0) (dI (fC (.int 1))) (fU)) (Ir (aF 0))))
 (aQ (jJ (fQ (Mr Oz Oz (fC (.int 1)) (fL qH (aB (aF 1) aG)) (fC (.int (60))))) (cU (fC (.bl false))) bG)
 (aQ (jJ (fQ (fB (fL Mf (aB (cV (Mv (aF 1)) [] dW (f2 Wc (aF 0) (fC (.str "0123456789")))) aG)))) (cU (fC (.bl false))) bG)
 (cU (Sh (f2 yZ (f2 Ga (aF 1) (fC (.int 0))) (fC (.str "0"))) (f2 vN (aF 0) (fC (.str "0")))))))
noncomputable def fJ:List D→Option D:=lJ 2 1 (Ec)
abbrev mU:Stmt:=top 25
noncomputable def wX:GS:=aQ (jJ (Dl (fQ (fB (mF "str" (aF 0)))) (fQ (fB (bA 1 fJ (aB (aF 0) aG))))) Sv bG)
 (cU (fL Wd (aB (aF 0) aG)))
noncomputable def cJ:List D→Option D:=lJ 1 1 (wX)
abbrev iR:Stmt:=top 26
noncomputable def Ae:GS:=aQ (bD 2 (cV (eQ (f2 dJ (aF 0) (fC (.str ",")))) [] dW (bA 1 cJ (aB (aF 0) aG))))
 (aQ (jJ (fB (f2 yZ (fL cO (aB (aF 2) aG)) (aF 1))) Sv bG)
 (cU (fL vO (aB (aF 2) aG))))
noncomputable def cW:List D→Option D:=lJ 3 2 (Ae)
abbrev jP:Stmt:=top 27
noncomputable def Ed:GS:=aQ (bD 1 (f2 dJ (aF 0) (fC (.str " "))))
 (aQ (bD 2 (cV (eQ (Ug false (aF 1) (fU) (dI (nR (fC (.int 1)))))) [] dW (bA 2 cW (aB (aF 0) (aB (fL cO (aB (fC (dTup [0,0,-1,-1,0])) aG)) aG)))))
 (cU (f2 cX (aF 2) (eG (aB (bA 2 cW (aB (f2 sH (aF 1) (nR (fC (.int 1)))) (aB (fL cO (aB (fC (dTup [0])) aG)) aG))) aG)))))
noncomputable def fK:List D→Option D:=lJ 3 1 (Ed)
abbrev vB:Stmt:=top 15
noncomputable def Qj:GS:=aQ (jJ (Dl (fQ (fB (mF "list" (aF 0)))) (fQ (Mr Oz Oz (fC (.int 1)) (fL cO (aB (aF 0) aG)) (fC (.int 8))))) (cU (fC (.bl false))) bG)
 (aQ (jJ (fQ (fB (fL Mf (aB (cV (eQ (aF 0)) [] dW (mF "list" (aF 0))) aG)))) (cU (fC (.bl false))) bG)
 (cU (uN (FN Oz Oz (fC (.int 2)) (fL cO (aB (f2 sH (aF 0) (fC (.int 0))) aG)) (fC (.int 9))) (fL Mf (aB (cV (eQ (aF 0)) [0] dW (f2 vN (fL cO (aB (aF 0) aG)) (fL cO (aB (f2 sH (aF 1) (fC (.int 0))) aG)))) aG)))))
noncomputable def mV:List D→Option D:=lJ 1 1 (Qj)
abbrev iT:Stmt:=top 28
noncomputable def Af:GS:=aQ (jJ (fQ (fB (mF "str" (aF 0)))) Sv bG)
 (aQ (bD 1 (cV (eQ (f2 dJ (aF 0) (fC (.str ";")))) [] dW (bA 1 fK (aB (aF 0) aG))))
 (aQ (jJ (fQ (fB (bA 1 mV (aB (aF 1) aG)))) Sv bG)
 (mL 1)))
noncomputable def lY:List D→Option D:=lJ 2 1 (Af)
abbrev wC:Stmt:=top 32
noncomputable def Ef:GS:=cU (uN (mF "int" (aF 0)) (Ja (mF "bool" (aF 0))))
noncomputable def rG:List D→Option D:=lJ 1 1 (Ef)
abbrev wD:Stmt:=top 33
noncomputable def Eg:GS:=aQ (jJ (Dl (fQ (fB (mF "tuple" (aF 0)))) (fB (f2 yZ (fL cO (aB (aF 0) aG)) (fL cO (aB (aF 1) aG))))) (cU (fC (.bl false))) bG)
 (aQ (uQ [] 2 (eQ (aF 0)) (jJ (fQ (fB (bA 1 rG (aB (aF 2) aG)))) (cU (fC (.bl false))) bG))
 (cU (f2 vN (aF 0) (aF 1))))
noncomputable def nZ:List D→Option D:=lJ 3 2 (Eg)
abbrev wF:Stmt:=top 35
noncomputable def Eh:GS:=aQ (jJ (Dl (fQ (fB (mF "list" (aF 0)))) (fB (f2 yZ (fL cO (aB (aF 0) aG)) (fL cO (aB (aF 1) aG))))) (cU (fC (.bl false))) bG)
 (aQ (qG 2 (nQ (aB (fL cO (aB (aF 1) aG)) aG)) (aQ (jJ (Dl (fQ (fB (mF "list" (f2 sH (aF 0) (aF 2))))) (fB (f2 yZ (fL cO (aB (f2 sH (aF 0) (aF 2)) aG)) (fL cO (aB (f2 sH (aF 1) (aF 2)) aG))))) (cU (fC (.bl false))) bG)
 (qG 3 (nQ (aB (fL cO (aB (f2 sH (aF 1) (aF 2)) aG)) aG)) (jJ (fQ (fB (bA 2 nZ (aB (f2 sH (f2 sH (aF 0) (aF 2)) (aF 3)) (aB (f2 sH (f2 sH (aF 1) (aF 2)) (aF 3)) aG))))) (cU (fC (.bl false))) bG))))
 (cU (fC (.bl true))))
noncomputable def lN:List D→Option D:=lJ 4 2 (Eh)
noncomputable def lB(κ:Nat→Addr):GZ:=Uj (Dl (fQ (fB (mF "str" (aF 0)))) (fQ (fB (bA 1 fJ (aB (aF 0) aG))))) (qi 0 (aB (fC (.str "this writes no number")) aG)) (qe)
noncomputable def cR(κ:Nat→Addr):List D→Option Nat:=Sy 1 1 (lB κ)
noncomputable def oZ(κ:Nat→Addr):GZ:=Ze (qL (eQ (f2 dJ (aF 0) (fC (.str ",")))) [] (bA 1 cJ (aB (aF 0) aG)) (nF (cR κ) (aB (aF 0) aG))) (uV (bD 2 (cV (eQ (f2 dJ (aF 0) (fC (.str ",")))) [] dW (bA 1 cJ (aB (aF 0) aG)))) (Uj (fB (f2 yZ (fL cO (aB (aF 2) aG)) (aF 1))) (qi 0 (aB (fC (.str "a thing has too few or too many numbers")) aG)) (qe)))
noncomputable def bZ(κ:Nat→Addr):List D→Option Nat:=Sy 3 2 (oZ κ)
noncomputable def rH(κ:Nat→Addr):GZ:=uV (bD 1 (f2 dJ (aF 0) (fC (.str " ")))) (Ze (qL (eQ (Ug false (aF 1) (fU) (dI (nR (fC (.int 1)))))) [] (bA 2 cW (aB (aF 0) (aB (fL cO (aB (fC (dTup [0,0,-1,-1,0])) aG)) aG))) (nF (bZ κ) (aB (aF 0) (aB (fL cO (aB (fC (dTup [0,0,-1,-1,0])) aG)) aG)))) (uV (bD 2 (cV (eQ (Ug false (aF 1) (fU) (dI (nR (fC (.int 1)))))) [] dW (bA 2 cW (aB (aF 0) (aB (fL cO (aB (fC (dTup [0,0,-1,-1,0])) aG)) aG))))) (zX (Wz (aF 2) (nF (bZ κ) (aB (f2 sH (aF 1) (nR (fC (.int 1)))) (aB (fL cO (aB (fC (dTup [0])) aG)) aG)))))))
noncomputable def jQ(κ:Nat→Addr):List D→Option Nat:=Sy 3 1 (rH κ)
noncomputable def jR(κ:Nat→Addr):GZ:=Ze (Uj (fQ (fB (mF "str" (aF 0)))) (qi 0 (aB (fC (.str "this is no text")) aG)) (qe)) (uV (jJ (fQ (fB (mF "str" (aF 0)))) Sv bG) (Ze (qL (eQ (f2 dJ (aF 0) (fC (.str ";")))) [] (bA 1 fK (aB (aF 0) aG)) (nF (jQ κ) (aB (aF 0) aG))) (uV (bD 1 (cV (eQ (f2 dJ (aF 0) (fC (.str ";")))) [] dW (bA 1 fK (aB (aF 0) aG)))) (Uj (fQ (fB (bA 1 mV (aB (aF 1) aG)))) (qi 0 (aB (fC (.str "there are too few or too many panes or things")) aG)) (qe)))))
noncomputable def cA(κ:Nat→Addr):List D→Option Nat:=Sy 2 1 (jR κ)
abbrev Ag:Stmt:=top 41
noncomputable def Ah(κ:Nat→Addr):GS:=aQ (bD 2 (eG aG))
 (aQ (bD 3 (fC .non))
 (aQ (Bv (zX (nF (cA κ) (aB (aF 0) aG))) (bD 3 (bA 1 lY (aB (aF 0) aG))) wB 1 11 (λi=>(1,gw 4 (aQ (bD 2 (eG (aB (fC (.bl (wB i 0))) (aB (fC (.bl true)) aG)))) (aQ (bD 2 (f2 cX (aF 2) (eG (aB (fC (.bl (([2,3,4,5,6]:List Nat).any (wB i)))) (aB (fC (.bl (([7,9]:List Nat).any (wB i)))) aG))))) (bD 2 (f2 cX (aF 2) (eG (aB (fC (.bl (([8,10]:List Nat).any (wB i)))) aG)))))))::[]))
 (aQ (jJ (fB (f2 (XF false) (aF 1) (fC .non))) (cU (f2 HS (aF 2) (eG (aB (fC (.bl true)) (aB (fC (.bl true)) (aB (fC (.bl false)) (aB (fC (.bl false)) (aB (fC (.bl false)) aG)))))))) bG)
 (cU (uN (f2 HS (aF 2) (eG aG)) (bA 2 lN (aB (aF 3) (aB (aF 1) aG))))))))
noncomputable def iG(κ:Nat→Addr):List D→Option D:=lJ 5 2 (Ah κ)
abbrev rJ:Stmt:=top 38
noncomputable def Ei:GS:=aQ (bD 1 (bA 2 dZ (aB (aF 0) (aB (fC (.int 0)) aG))))
 (aQ (bD 2 (f2 cX (fC (.int 1)) (f2 eH (f2 mD (aF 1) (fC (.int 4))) (fC (.int 3)))))
 (aQ (jJ (fB (f2 vN (f2 eH (aF 1) (fC (.int 4))) (fC (.int 0)))) (bD 2 (f2 cX (fC (.int 7)) (f2 eH (f2 mD (aF 1) (fC (.int 4))) (fC (.int 3))))) bG)
 (aQ (bD 3 (f2 cX (fC (.int 2)) (f2 eH (f2 mD (aF 1) (fC (.int 64))) (fC (.int 3)))))
 (aQ (jJ (fB (f2 vN (f2 eH (aF 1) (fC (.int 4))) (fC (.int 1)))) (bD 3 (Ir (f2 sH (eG (aB (fC (.int 1)) (aB (fC (.int 9)) (aB (fC (.int 10)) aG)))) (f2 eH (f2 mD (aF 1) (fC (.int 64))) (fC (.int 3)))))) bG)
 (aQ (bD 4 (cV (nQ (aB (aF 2) aG)) [3] dW (f2 cX (f2 Bw (eG (aB (fC (.int 5)) aG)) (f2 Bp (aF 1) (fC (.int 1)))) (eG (aB (fC (.int 1)) aG)))))
 (aQ (bD 1 (bA 2 dZ (aB (aF 0) (aB (fC (.int 1)) aG))))
 (aQ (bD 5 (f2 eH (f2 mD (aF 1) (fC (.int 8))) (aF 2)))
 (aQ (jJ (fB (f2 vN (f2 eH (aF 1) (fC (.int 8))) (fC (.int 0)))) (Ms 4 (Uh rZ (aF 5)) (fC (.int 0)) (fC (.int 5))) bG)
 (aQ (jJ (fB (f2 vN (f2 eH (aF 1) (fC (.int 8))) (fC (.int 1)))) (zF 4 (Uh rZ (aF 5)) (fC (.int 0))) bG)
 (aQ (jJ (fB (f2 vN (f2 eH (aF 1) (fC (.int 8))) (fC (.int 2)))) (wR 4 (Uh rZ (aF 5)) (f2 eH (f2 mD (aF 1) (fC (.int 128))) (aF 3)) (f2 cX (fC (.int 1)) (f2 eH (f2 mD (aF 1) (fC (.int 2048))) (fC (.int 6))))) bG)
 (mL 4)))))))))))
noncomputable def oE:List D→Option D:=lJ 6 1 (Ei)
abbrev tQ:Stmt:=top 36
noncomputable def Ai:GS:=aQ (bD 1 (Ir (aF 0)))
 (aQ (jJ (fB (f2 vN (vX (aF 0) (fU) (dI (fC (.int 1)))) (fC (.str "-")))) (bD 1 (vX (aF 0) (dI (fC (.int 1))) (fU))) bG)
 (aQ (jJ (Dl (fB (f2 Zd (fL qH (aB (aF 1) aG)) (fC (.int 1)))) (fB (f2 gn (fL qH (aB (aF 1) aG)) (fC (.int 60))))) (cU (fC .non)) bG)
 (aQ (bD 2 (fC (.int 0)))
 (aQ (uQ [1] 3 (Mv (aF 1)) (aQ (bD 4 (f2 Pz (fC (.str "0123456789")) (aF 3)))
 (aQ (jJ (fB (f2 Zd (aF 4) (fC (.int 0)))) (cU (fC .non)) bG)
 (bD 2 (f2 cX (f2 yW (aF 2) (fC (.int 10))) (aF 4))))))
 (aQ (jJ (Lz (fB (f2 vN (f2 Ga (aF 1) (fC (.int 0))) (fC (.str "0")))) (fB (f2 yZ (aF 0) (fC (.str "0"))))) (cU (fC .non)) bG)
 (aQ (jJ (fB (f2 yZ (aF 1) (aF 0))) (cU (nR (aF 2))) bG)
 (mL 2)))))))
noncomputable def lZ:List D→Option D:=lJ 5 1 (Ai)
abbrev vC:Stmt:=top 37
noncomputable def Qk:GS:=aQ (bD 1 (eG aG))
 (aQ (uQ [] 2 (eQ (f2 dJ (aF 0) (fC (.str ";")))) (aQ (bD 3 (eG aG))
 (aQ (uQ [2] 4 (eQ (f2 dJ (aF 2) (fC (.str " ")))) (aQ (bD 5 (cV (eQ (f2 dJ (aF 4) (fC (.str ",")))) [] dW (bA 1 lZ (aB (aF 0) aG))))
 (aQ (jJ (fB (f2 (kj false) (fC .non) (aF 5))) (cU (fC .non)) bG)
 (Br 3 rZ (fL vO (aB (aF 5) aG))))))
 (Dt 1 3))))
 (aQ (bD 6 (fL cO (aB (f2 sH (aF 1) (fC (.int 0))) aG)))
 (aQ (jJ (Dl (fB (f2 gn (fL cO (aB (aF 1) aG)) (fC (.int 8)))) (Dl (fB (f2 Zd (aF 6) (fC (.int 2)))) (fB (f2 gn (aF 6) (fC (.int 9)))))) (cU (fC .non)) bG)
 (aQ (Dw 1 3 (fB (f2 yZ (cV (eQ (aF 3)) [] dW (fL cO (aB (aF 0) aG))) (f2 cX (f2 Bw (eG (aB (fC (.int 5)) aG)) (f2 Bp (aF 6) (fC (.int 1)))) (eG (aB (fC (.int 1)) aG))))) (fC .non))
 (mL 1)))))
noncomputable def rK:List D→Option D:=lJ 7 1 (Qk)
abbrev aa:Stmt:=top 42
noncomputable def ue(κ:Nat→Addr):GS:=aQ (wQ 1 (eG (aB (fC .non) (aB (fC (.int 7)) (aB (fC (.bl true)) (aB (eG (aB (fC (.str "0,0,-1,-1,0 0")) aG)) (aB (Iv (aB (fC (.str "0,0,-1,-1,0 0")) aG)) (aB (eG (aB (eG (aB (Iv (aB (fC (.int 0)) (aB (fC (.int 0)) (aB (nR (fC (.int 1))) (aB (nR (fC (.int 1))) (aB (fC (.int 0)) aG)))))) (aB (Iv (aB (fC (.int 0)) aG)) aG))) aG)) (aB (fC (.str "")) aG)))))))))
 (aQ (jJ (fQ (fB (bA 2 (iG κ) (aB (f2 sH (aF 1) (f2 eH (bA 2 dZ (aB (aF 0) (aB (fC (.int 4)) aG))) (fC (.int 7)))) (aB (fC .non) aG))))) (cU (fC (.bl false))) bG)
 (aQ (bD 2 (bA 2 qP (aB (aF 0) (aB (bA 1 oE (aB (aF 0) aG)) aG))))
 (aQ (jJ (fQ (fB (bA 2 (iG κ) (aB (aF 2) (aB (bA 1 rK (aB (aF 2) aG)) aG))))) (cU (fC (.bl false))) bG)
 (aQ (bD 2 (bA 2 lX (aB (aF 0) (aB (aF 2) aG))))
 (cU (bA 2 (iG κ) (aB (aF 2) (aB (bA 1 rK (aB (aF 2) aG)) aG))))))))
noncomputable def aj(κ:Nat→Addr):List D→Option D:=lJ 3 1 (ue κ)
section
variable{P:Program}{w:World}{K:aA}{mg:Str→Option Value}{base:Heap}
theorem oF:bO ["script", "k", "turn", "factor", "mixed"] ["script", "k"] (aM Ab):=by walk_at "fs"
theorem Ni(R:Raw K mg "_law_draw" Ab) (cD:mg "len" = none):mG P w K mg base "_law_draw" 1 2 (nC K 2 dZ):=by
 refine R.sE oF (λ_ _ _ _ _ _ us hl=>match us,hl with | [_,_],_=>rfl) (λ_ _ _ _ _ _ _ hr=>?_)
 have dO:=hr.units
 have hu:=iC hr
 exact⟨_,aK (cP (bY (or_eq dO rfl) pW (XN.r (cN cG (cH rfl) rfl cD C7 (aD (aJ (pv 0)) aL))) (XN.r (aH)) (bM _)) (aR (bF aH)) bK)
  (aK (bB (i:=2) (jN (aJ (pv 1)) (XN.r (cN cG (cH rfl) rfl cD C7 (aD (aJ (pv 0)) aL)))) (λh=>aY oF.nd rfl (by first | exact D4 rfl | exact D3 rfl) h))
  (aK (bB (i:=3) (fX (XN.r (aH)) (XN.r (tD (XN.r (tD (XN.r (aH)) (aJ (pv 2)))) (aJ (pv 2))))) (λh=>aY oF.nd rfl (by first | exact D4 rfl | exact D3 rfl) h))
  (aK (bB (i:=4) (fX (XN.r (tD (kO (aJ (pv 0)) (XN.r (cF (aJ (pv 1)) (XN.r (cN cG (cH rfl) rfl cD C7 (aD (aJ (pv 0)) aL))))) (λ_ _=>rfl)) (aJ (pv 3)))) (XN.r (tD (XN.r (tD (aJ (pv 1)) (aJ (pv 1)))) (XN.r (aH))))) (λh=>aY oF.nd rfl (by first | exact D4 rfl | exact D3 rfl) h))
  (aK (bB (i:=4) (cF (aJ (pv 4)) (XN.r (aH))) (λh=>aY oF.nd rfl (by first | exact D4 rfl | exact D3 rfl) h))
  (aR (bF (cF (XN.r (tD (aJ (pv 4)) (aJ (pv 4)))) (XN.r (aH)))))))))⟩
theorem fM:bO ["script", "shape", "panes", "at", "pane", "words", "count", "numbers", "j", "some"] ["script", "shape"] (aM Ac):=by walk_at "fs"
theorem Nj(R:Raw K mg "_law_text" Ac) (dD:mG P w K mg base "_law_draw" 1 2 (nC K 2 dZ)) (nH:mg "range" = none) (sG:mg "str" = none):mG P w K mg base "_law_text" 2 2 (nC K 2 qP):=by
 refine R.sE fM (λ_ _ _ _ _ _ us hl=>match us,hl with | [_,_],_=>rfl) (λ_ _ _ _ _ _ _ hr=>?_)
 have dO:=hr.units
 have hu:=iC hr
 exact⟨_,aK (bB (i:=2) (pY lU) (λh=>aY fM.nd rfl (by first | exact D4 rfl | exact D3 rfl) h))
  (aK (bB (i:=3) aH (λh=>aY fM.nd rfl (by first | exact D4 rfl | exact D3 rfl) h))
  (aK (vP [] PassesOwn.never rfl (eU (aJ (pv 1))) (jA (i:=4) fM.nd rfl (by first | exact D4 rfl | exact D3 rfl)) (aK (bB (i:=5) (pY lU) (λh=>aY fM.nd rfl (by first | exact D4 rfl | exact D3 rfl) h))
  (aK (vP [4] PassesOwn.never rfl (eU (aJ (pv 4))) (jA (i:=6) fM.nd rfl (by first | exact D4 rfl | exact D3 rfl)) (aK (bB (i:=7) (pY lU) (λh=>aY fM.nd rfl (by first | exact D4 rfl | exact D3 rfl) h))
  (aK (Fz PassesOwn.never rfl (vR rfl nH (aD (aJ (pv 6)) aL)) (jA (i:=8) fM.nd rfl (by first | exact D4 rfl | exact D3 rfl)) (aK (bB (i:=9) (bJ dD (hr.mono (by decide)) rfl (aD (aJ (pv 0)) (aD (aJ (pv 3)) aL))) (λh=>aY fM.nd rfl (by first | exact D4 rfl | exact D3 rfl) h))
  (aK (bB (i:=3) (fX (aJ (pv 3)) (XN.r (aH))) (λh=>aY fM.nd rfl (by first | exact D4 rfl | exact D3 rfl) h))
  (aR (Fy (Mm (pv 7)) (Pb DX Es rfl sG L6 (aD (kO (lV (aD (XN.r (cF (XN.r (jN (aJ (pv 9)) (XN.r (aH)))) (XN.r (aH)))) (aD (XN.r (cF (XN.r (jN (aJ (pv 9)) (XN.r (aH)))) (XN.r (aH)))) (aD (XN.r (cF (XN.r (jN (aJ (pv 9)) (XN.r (aH)))) (XN.r (aH)))) (aD (XN.r (Lx (XN.r (lK (XN.r (aH)))) (XN.r (cF (XN.r (jN (aJ (pv 9)) (XN.r (aH)))) (XN.r (aH)))))) aL))))) (XN.r (cF (aJ (pv 9)) (XN.r (aH)))) (λ_ _=>rfl)) aL)) (λa b=>oM (gD J8 L9 M0 jM a (aV b bI))))))))
  (aR (Fy (Mm (pv 5)) (Ge (XN.r (fP)) (aJ (pv 7)) (λa b=>gD D6 Q4 Q5 Gd a (aV b bI))) (λa b=>oM (gD J8 L9 M0 jM a (aV b bI))))))))
  (aR (Fy (Mm (pv 2)) (Ge (XN.r (fP)) (aJ (pv 5)) (λa b=>gD D6 Q4 Q5 Gd a (aV b bI))) (λa b=>oM (gD J8 L9 M0 jM a (aV b bI))))))))
  (aR (bF (Ge (XN.r (fP)) (aJ (pv 2)) (λa b=>gD D6 Q4 Q5 Gd a (aV b bI)))))))⟩
theorem mW:bO ["script", "text", "some", "at", "sign"] ["script", "text"] (aM tO):=by walk_at "fs"
theorem Gv(R:Raw K mg "_law_spoilt" tO) (dD:mG P w K mg base "_law_draw" 1 2 (nC K 2 dZ)) (cD:mg "len" = none):mG P w K mg base "_law_spoilt" 2 2 (nC K 2 lX):=by
 refine R.sE mW (λ_ _ _ _ _ _ us hl=>match us,hl with | [_,_],_=>rfl) (λ_ _ _ _ _ _ _ hr=>?_)
 have dO:=hr.units
 have hu:=iC hr
 exact⟨_,aK (bB (i:=2) (bJ dD (hr.mono (by decide)) rfl (aD (aJ (pv 0)) (aD (XN.r (aH)) aL))) (λh=>aY mW.nd rfl (by first | exact D4 rfl | exact D3 rfl) h))
  (aK (bB (i:=3) (cF (XN.r (bJ dD (hr.mono (by decide)) rfl (aD (aJ (pv 0)) (aD (XN.r (aH)) aL)))) (XN.r (fX (XN.r (cN xX lG rfl cD C7 (aD (aJ (pv 1)) aL))) (XN.r (aH))))) (λh=>aY mW.nd rfl (by first | exact D4 rfl | exact D3 rfl) h))
  (aK (bB (i:=4) (Mt (XN.r (fP)) (XN.r (cF (XN.r (jN (aJ (pv 2)) (XN.r (aH)))) (XN.r (aH)))) (λ_ _=>rfl)) (λh=>aY mW.nd rfl (by first | exact D4 rfl | exact D3 rfl) h))
  (aK (cP (bY Cm iQ (XN.r (cF (aJ (pv 2)) (XN.r (aH)))) (XN.r (aH)) (bM _)) (aR (uP (pv 1))) bK)
  (aK (cP (bY Cm iQ (XN.r (cF (aJ (pv 2)) (XN.r (aH)))) (XN.r (aH)) (bM _)) (aR (bF (uT (XN.r (uT (XN.r (oW (aJ (pv 1)) (iH) (iI (aJ (pv 3))))) (aJ (pv 4)))) (XN.r (oW (aJ (pv 1)) (iI (aJ (pv 3))) (iH)))))) bK)
  (aK (cP (bY Cm iQ (XN.r (cF (aJ (pv 2)) (XN.r (aH)))) (XN.r (aH)) (bM _)) (aR (bF (uT (XN.r (uT (XN.r (oW (aJ (pv 1)) (iH) (iI (aJ (pv 3))))) (aJ (pv 4)))) (XN.r (oW (aJ (pv 1)) (iI (XN.r (fX (aJ (pv 3)) (XN.r (aH))))) (iH)))))) bK)
  (aR (bF (uT (XN.r (oW (aJ (pv 1)) (iH) (iI (aJ (pv 3))))) (XN.r (oW (aJ (pv 1)) (iI (XN.r (fX (aJ (pv 3)) (XN.r (aH))))) (iH)))))))))))⟩
theorem Aj:bO ["text", "figures"] ["text"] (aM rF):=by walk_at "fs"
theorem Ka(R:Raw K mg "is_number" rF) (cD:mg "len" = none) (Nk:mg "all" = none) (Nm:kZ mg "MINUS" "-") (pA:Pj mg "MOST_FIGURES" (60)) (Ak:kZ mg "FIGURES" "0123456789") (Ql:kZ mg "ZERO" "0"):mG P w K mg base "is_number" 1 1 (nC K 1 fJ):=by
 refine R.sE Aj (λ_ _ _ _ _ _ us hl=>match us,hl with | [_],_=>rfl) (λ_ _ _ _ _ _ _ hr=>?_)
 have dO:=hr.units
 have hu:=iC hr
 exact⟨_,aK (bB (i:=1) (lu (dU (XN.r (Wf (aJ (pv 0)) (XN.r (pF Nm rfl)) (λa b=>gD D6 PySem.F.slot_str_startswith PySem.F.type_str_startswith We a (aV b bI))))) (oW (aJ (pv 0)) (iI (XN.r (aH))) (iH)) (XR.n (aJ (pv 0)))) (λh=>aY Aj.nd rfl (by first | exact D4 rfl | exact D3 rfl) h))
  (aK (cP (dH (Jj Cp Cp iQ iQ (XN.r (aH)) (XN.r (cN xX lG rfl cD C7 (aD (aJ (pv 1)) aL))) (XN.r (nq pA rfl)))) (aR (bF (jG))) bK)
  (aK (cP (dH (dU (XN.r (cN Mg (Mh rfl) rfl Nk Q6 (aD (XN.r (xV ["sign"] [] rfl (.at (aM rF) ["text", "figures"] (by decide +kernel)) (Wg (aJ (pv 1))) (eN (by decide +kernel) rfl rfl) (λ_ _ _ _ _=>iJ) (λ_ _ _ _ _=>tE YD YC (aJ (pv 0)) (XN.r (pF Ak rfl)) (by with_unfolding_all rfl)))) aL))))) (aR (bF (jG))) bK)
  (aR (bF (lr (XN.r (tE (uL dO rfl) uK (XN.r (Mt (aJ (pv 1)) (XN.r (aH)) (λ_ _=>rfl))) (XN.r (pF Ql rfl)) (bM _))) (xU (tE (or_eq dO rfl) pW (aJ (pv 0)) (XN.r (pF Ql rfl)) (bM _))))))))⟩
theorem vD:bO ["text"] ["text"] (aM mU):=by walk_at "fs"
theorem Bx(R:Raw K mg "read_number" mU) (lO:mG P w K mg base "is_number" 1 1 (nC K 1 fJ)) (aP:mg "isinstance" = none) (sG:mg "str" = none) (Tt:mg "int" = none):mG P w K mg base "read_number" 2 1 (nC K 1 cJ):=by
 refine R.sE vD (λ_ _ _ _ _ _ us hl=>match us,hl with | [_],_=>rfl) (λ_ _ _ _ _ _ _ hr=>?_)
 have dO:=hr.units
 have hu:=iC hr
 exact⟨_,aK (cP (XW.xt (uM (dH (dU (XN.r (lD (aJ (pv 0)) (gQ (v:=.ty "str") rfl sG L6 rfl) rfl aP)))) (pZ (dH (dU (XN.r (bJ lO (hr.mono (by decide)) rfl (aD (aJ (pv 0)) aL)))))))) (aR (zB)) bK)
  (aR (bF (Pb EY DY rfl Tt V1 (aD (aJ (pv 0)) aL))))⟩
theorem mX:bO ["text", "many", "numbers"] ["text", "many"] (aM iR):=by walk_at "fs"
theorem Gw(R:Raw K mg "read_thing" iR) (gJ:mG P w K mg base "read_number" 2 1 (nC K 1 cJ)) (cD:mg "len" = none) (pB:mg "tuple" = none) (cL:kZ mg "BETWEEN_NUMBERS" ","):mG P w K mg base "read_thing" 3 2 (nC K 2 cW):=by
 refine R.sE mX (λ_ _ _ _ _ _ us hl=>match us,hl with | [_,_],_=>rfl) (λ_ _ _ _ _ _ _ hr=>?_)
 have dO:=hr.units
 have hu:=iC hr
 exact⟨_,aK (mO (i:=2) ["word"] [] rfl (.at (aM iR) ["text", "many", "numbers"] (by decide +kernel)) mX.nd rfl (by first | exact D4 rfl | exact D3 rfl) (eU (XN.r (gH (aJ (pv 0)) (XN.r (pF cL rfl)) (λa b=>gD D6 F4 F5 gG a (aV b bI))))) (eN (by decide +kernel) rfl rfl) (λ_ _ _ _ _=>iJ) (λ_ _ _ _ _=>bJ gJ (hr.mono (by decide)) rfl (aD (aJ (pv 0)) aL)))
  (aK (cP (bY (uL dO rfl) uK (XN.r (cN cG (cH rfl) rfl cD C7 (aD (aJ (pv 2)) aL))) (aJ (pv 1)) (bM _)) (aR (zB)) bK)
  (aR (bF (Pb Jb (Jc rfl) rfl pB P2 (aD (aJ (pv 2)) aL)))))⟩
theorem jT:bO ["text", "words", "records"] ["text"] (aM jP):=by walk_at "fs"
theorem Kc(R:Raw K mg "read_pane" jP) (gK:mG P w K mg base "read_thing" 3 2 (nC K 2 cW)) (cD:mg "len" = none) (eE:kZ mg "BETWEEN_THINGS" " ") (dF:wU K mg "BLANK_RECORD" [0,0,-1,-1,0]) (jU:wU K mg "BLANK_SEAL" [0]):mG P w K mg base "read_pane" 4 1 (nC K 1 fK):=by
 refine R.sE jT (λ_ _ _ _ _ _ us hl=>match us,hl with | [_],_=>rfl) (λ_ _ _ _ _ _ _ hr=>?_)
 have dO:=hr.units
 have hu:=iC hr
 exact⟨_,aK (bB (i:=1) (gH (aJ (pv 0)) (XN.r (pF eE rfl)) (λa b=>gD D6 F4 F5 gG a (aV b bI))) (λh=>aY jT.nd rfl (by first | exact D4 rfl | exact D3 rfl) h))
  (aK (mO (i:=2) ["word"] [] rfl (.at (aM jP) ["text", "words", "records"] (by decide +kernel)) jT.nd rfl (by first | exact D4 rfl | exact D3 rfl) (eU (zA (aJ (pv 1)) (iH) (iI (XN.r (lK (XN.r (aH))))))) (eN (by decide +kernel) rfl rfl) (λ_ _ _ _ _=>iJ) (λ_ _ _ _ _=>bJ gK (hr.mono (by decide)) rfl (aD (aJ (pv 0)) (aD (XN.r (cN cG (cH rfl) rfl cD C7 (aD (XN.r (Dp dF rfl)) aL))) aL))))
  (aR (bF (fX (aJ (pv 2)) (lV (aD (XN.r (bJ gK (hr.mono (by decide)) rfl (aD (kO (aJ (pv 1)) (XN.r (lK (XN.r (aH)))) (λ_ _=>rfl)) (aD (XN.r (cN cG (cH rfl) rfl cD C7 (aD (XN.r (Dp jU rfl)) aL))) aL)))) aL))))))⟩
theorem Xn:bO ["thing"] ["thing"] (aM vB):=by walk_at "fs"
theorem Tu(R:Raw K mg "is_grid" vB) (cD:mg "len" = none) (aP:mg "isinstance" = none) (wY:mg "list" = none) (Nk:mg "all" = none):mG P w K mg base "is_grid" 1 1 (nC K 1 mV):=by
 refine R.sE Xn (λ_ _ _ _ _ _ us hl=>match us,hl with | [_],_=>rfl) (λ_ _ _ _ _ _ _ hr=>?_)
 have dO:=hr.units
 have hu:=iC hr
 exact⟨_,aK (cP (XW.xt (uM (dH (dU (XN.r (lD (aJ (pv 0)) (gQ (v:=.ty "list") rfl wY N4 rfl) rfl aP)))) (pZ (dH (Jj Cp Cp iQ iQ (XN.r (aH)) (XN.r (cN cG (cH rfl) rfl cD C7 (aD (aJ (pv 0)) aL))) (XN.r (aH))))))) (aR (bF (jG))) bK)
  (aK (cP (dH (dU (XN.r (cN Mg (Mh rfl) rfl Nk Q6 (aD (XN.r (xV ["pane"] [] rfl (.at (aM vB) ["thing"] (by decide +kernel)) (eU (aJ (pv 0))) (eN (by decide +kernel) rfl rfl) (λ_ _ _ _ _=>iJ) (λ_ _ _ _ _=>lD (aJ (pv 0)) (gQ (v:=.ty "list") rfl wY N4 rfl) rfl aP))) aL))))) (aR (bF (jG))) bK)
  (aR (bF (Ma (XN.r (Wh Cp Cp iQ iQ (XN.r (aH)) (XN.r (cN cG (cH rfl) rfl cD C7 (aD (kO (aJ (pv 0)) (XN.r (aH)) (λ_ _=>rfl)) aL))) (XN.r (aH)))) (xU (cN Mg (Mh rfl) rfl Nk Q6 (aD (XN.r (xV ["pane", "thing"] [0] rfl (.at (aM vB) ["thing"] (by decide +kernel)) (eU (aJ (pv 0))) (eN (by decide +kernel) rfl rfl) (λ_ _ _ _ _=>iJ) (λ_ _ _ _ _=>tE (or_eq dO rfl) pW (XN.r (cN cG (cH rfl) rfl cD C7 (aD (aJ (pv 0)) aL))) (XN.r (cN cG (cH rfl) rfl cD C7 (aD (kO (aJ (pv 1)) (XN.r (aH)) (λ_ _=>rfl)) aL))) (bM _)))) aL)))))))⟩
theorem mY:bO ["text", "stone"] ["text"] (aM iT):=by walk_at "fs"
theorem Gx(R:Raw K mg "read_stone" iT) (jV:mG P w K mg base "read_pane" 4 1 (nC K 1 fK)) (rM:mG P w K mg base "is_grid" 1 1 (nC K 1 mV)) (aP:mg "isinstance" = none) (sG:mg "str" = none) (dM:kZ mg "BETWEEN_PANES" ";"):mG P w K mg base "read_stone" 5 1 (nC K 1 lY):=by
 refine R.sE mY (λ_ _ _ _ _ _ us hl=>match us,hl with | [_],_=>rfl) (λ_ _ _ _ _ _ _ hr=>?_)
 have dO:=hr.units
 have hu:=iC hr
 exact⟨_,aK (cP (dH (dU (XN.r (lD (aJ (pv 0)) (gQ (v:=.ty "str") rfl sG L6 rfl) rfl aP)))) (aR (zB)) bK)
  (aK (mO (i:=1) ["written"] [] rfl (.at (aM iT) ["text", "stone"] (by decide +kernel)) mY.nd rfl (by first | exact D4 rfl | exact D3 rfl) (eU (XN.r (gH (aJ (pv 0)) (XN.r (pF dM rfl)) (λa b=>gD D6 F4 F5 gG a (aV b bI))))) (eN (by decide +kernel) rfl rfl) (λ_ _ _ _ _=>iJ) (λ_ _ _ _ _=>bJ jV (hr.mono (by decide)) rfl (aD (aJ (pv 0)) aL)))
  (aK (cP (dH (dU (XN.r (bJ rM (hr.mono (by decide)) rfl (aD (aJ (pv 1)) aL))))) (aR (zB)) bK)
  (aR (uP (pv 1)))))⟩
theorem Np:bO ["some"] ["some"] (aM wC):=by walk_at "fs"
theorem Kd(R:Raw K mg "_law_whole" wC) (aP:mg "isinstance" = none) (Xo:mg "bool" = none) (Tt:mg "int" = none):mG P w K mg base "_law_whole" 1 1 (nC K 1 rG):=by
 refine R.sE Np (λ_ _ _ _ _ _ us hl=>match us,hl with | [_],_=>rfl) (λ_ _ _ _ _ _ _ hr=>?_)
 have dO:=hr.units
 have hu:=iC hr
 exact⟨_,aR (bF (Ma (XN.r (lD (aJ (pv 0)) (gQ (v:=.ty "int") rfl Tt V1 rfl) rfl aP)) (xU (WL (XN.r (lD (aJ (pv 0)) (gQ (v:=.ty "bool") rfl Xo PyProof.Rows.boot_bool rfl) rfl aP))))))⟩
theorem Al:bO ["told", "due", "number"] ["told", "due"] (aM wD):=by walk_at "fs"
theorem Ke(R:Raw K mg "_law_tuple" wD) (wG:mG P w K mg base "_law_whole" 1 1 (nC K 1 rG)) (cD:mg "len" = none) (aP:mg "isinstance" = none) (pB:mg "tuple" = none):mG P w K mg base "_law_tuple" 2 2 (nC K 2 nZ):=by
 refine R.sE Al (λ_ _ _ _ _ _ us hl=>match us,hl with | [_,_],_=>rfl) (λ_ _ _ _ _ _ _ hr=>?_)
 have dO:=hr.units
 have hu:=iC hr
 exact⟨_,aK (cP (XW.xt (uM (dH (dU (XN.r (lD (aJ (pv 0)) (gQ (v:=.ty "tuple") rfl pB P2 rfl) rfl aP)))) (pZ (bY (uL dO rfl) uK (XN.r (cN cG (cH rfl) rfl cD C7 (aD (aJ (pv 0)) aL))) (XN.r (cN cG (cH rfl) rfl cD C7 (aD (aJ (pv 1)) aL))) (bM _))))) (aR (bF (jG))) bK)
  (aK (vP [] PassesOwn.never rfl (eU (aJ (pv 0))) (jA (i:=2) Al.nd rfl (by first | exact D4 rfl | exact D3 rfl)) (aR (cP (dH (dU (XN.r (bJ wG (hr.mono (by decide)) rfl (aD (aJ (pv 2)) aL))))) (aR (bF (jG))) bK)))
  (aR (bF (tE (or_eq dO rfl) pW (aJ (pv 0)) (aJ (pv 1)) (bM _)))))⟩
theorem tR:bO ["told", "due", "k", "j"] ["told", "due"] (aM wF):=by walk_at "fs"
theorem Kf(R:Raw K mg "_law_alike" wF) (wH:mG P w K mg base "_law_tuple" 2 2 (nC K 2 nZ)) (cD:mg "len" = none) (aP:mg "isinstance" = none) (wY:mg "list" = none) (nH:mg "range" = none):mG P w K mg base "_law_alike" 3 2 (nC K 2 lN):=by
 refine R.sE tR (λ_ _ _ _ _ _ us hl=>match us,hl with | [_,_],_=>rfl) (λ_ _ _ _ _ _ _ hr=>?_)
 have dO:=hr.units
 have hu:=iC hr
 exact⟨_,aK (cP (XW.xt (uM (dH (dU (XN.r (lD (aJ (pv 0)) (gQ (v:=.ty "list") rfl wY N4 rfl) rfl aP)))) (pZ (bY (uL dO rfl) uK (XN.r (cN cG (cH rfl) rfl cD C7 (aD (aJ (pv 0)) aL))) (XN.r (cN cG (cH rfl) rfl cD C7 (aD (aJ (pv 1)) aL))) (bM _))))) (aR (bF (jG))) bK)
  (aK (Fz PassesOwn.never rfl (vR rfl nH (aD (XN.r (cN cG (cH rfl) rfl cD C7 (aD (aJ (pv 1)) aL))) aL)) (jA (i:=2) tR.nd rfl (by first | exact D4 rfl | exact D3 rfl)) (aK (cP (XW.xt (uM (dH (dU (XN.r (lD (kO (aJ (pv 0)) (aJ (pv 2)) (λ_ _=>rfl)) (gQ (v:=.ty "list") rfl wY N4 rfl) rfl aP)))) (pZ (bY (uL dO rfl) uK (XN.r (cN cG (cH rfl) rfl cD C7 (aD (kO (aJ (pv 0)) (aJ (pv 2)) (λ_ _=>rfl)) aL))) (XN.r (cN cG (cH rfl) rfl cD C7 (aD (kO (aJ (pv 1)) (aJ (pv 2)) (λ_ _=>rfl)) aL))) (bM _))))) (aR (bF (jG))) bK)
  (aR (Fz PassesOwn.never rfl (vR rfl nH (aD (XN.r (cN cG (cH rfl) rfl cD C7 (aD (kO (aJ (pv 1)) (aJ (pv 2)) (λ_ _=>rfl)) aL))) aL)) (jA (i:=3) tR.nd rfl (by first | exact D4 rfl | exact D3 rfl)) (aR (cP (dH (dU (XN.r (bJ wH (hr.mono (by decide)) rfl (aD (kO (kO (aJ (pv 0)) (aJ (pv 2)) (λ_ _=>rfl)) (aJ (pv 3)) (λ_ _=>rfl)) (aD (kO (kO (aJ (pv 1)) (aJ (pv 2)) (λ_ _=>rfl)) (aJ (pv 3)) (λ_ _=>rfl)) aL)))))) (aR (bF (jG))) bK))))))
  (aR (bF (jG))))⟩
theorem Am{κ:Nat→Addr}(R:Raw K mg "read_number" mU) (lO:mG P w K mg base "is_number" 1 1 (nC K 1 fJ)) (gU:oJ K mg "NoText" (κ 0)) (aP:mg "isinstance" = none) (sG:mg "str" = none):Bu P w K mg base "read_number" 2 1 (Ui K κ 1 (cR κ)):=by
 refine R.GX vD (λ_ _ _ _ _ _ us hl=>match us,hl with | [_],_=>rfl) (λ_ _ _ _ _ _ _ hr=>?_)
 have dO:=hr.units
 have hu:=iC hr
 exact⟨_,cZ (Pq (XW.xt (uM (dH (dU (XN.r (lD (aJ (pv 0)) (gQ (v:=.ty "str") rfl sG L6 rfl) rfl aP)))) (pZ (dH (dU (XN.r (bJ lO (hr.mono (by decide)) rfl (aD (aJ (pv 0)) aL)))))))) (cZ (uY gU rfl (aD (XN.r (fP)) aL))) (Gg))⟩
theorem By{κ:Nat→Addr}(R:Raw K mg "read_thing" iR) (gJ:mG P w K mg base "read_number" 2 1 (nC K 1 cJ)) (qQ:Bu P w K mg base "read_number" 2 1 (Ui K κ 1 (cR κ))) (gU:oJ K mg "NoText" (κ 0)) (cD:mg "len" = none) (cL:kZ mg "BETWEEN_NUMBERS" ","):Bu P w K mg base "read_thing" 3 2 (Ui K κ 2 (bZ κ)):=by
 refine R.GX mX (λ_ _ _ _ _ _ us hl=>match us,hl with | [_,_],_=>rfl) (λ_ _ _ _ _ _ _ hr=>?_)
 have dO:=hr.units
 have hu:=iC hr
 exact⟨_,Gh (cZ (Gp ["word"] [] vY rfl (.at (aM iR) ["text", "many", "numbers"] (by decide +kernel)) (eU (XN.r (gH (aJ (pv 0)) (XN.r (pF cL rfl)) (λa b=>gD D6 F4 F5 gG a (aV b bI))))) (eN (by decide +kernel) rfl rfl) (λ_ _ _ _ _=>bJ gJ (hr.mono (by decide)) rfl (aD (aJ (pv 0)) aL)) (λ_ _ _ _ _ _=>uW qQ uX (hr.mono (by decide)) rfl (aD (aJ (pv 0)) aL)))) (qI (mO (i:=2) ["word"] [] rfl (.at (aM iR) ["text", "many", "numbers"] (by decide +kernel)) mX.nd rfl (by first | exact D4 rfl | exact D3 rfl) (eU (XN.r (gH (aJ (pv 0)) (XN.r (pF cL rfl)) (λa b=>gD D6 F4 F5 gG a (aV b bI))))) (eN (by decide +kernel) rfl rfl) (λ_ _ _ _ _=>iJ) (λ_ _ _ _ _=>bJ gJ (hr.mono (by decide)) rfl (aD (aJ (pv 0)) aL))) (cZ (Pq (bY (uL dO rfl) uK (XN.r (cN cG (cH rfl) rfl cD C7 (aD (aJ (pv 2)) aL))) (aJ (pv 1)) (bM _)) (cZ (uY gU rfl (aD (XN.r (fP)) aL))) (Gg))))⟩
theorem Gy{κ:Nat→Addr}(R:Raw K mg "read_pane" jP) (gK:mG P w K mg base "read_thing" 3 2 (nC K 2 cW)) (pC:Bu P w K mg base "read_thing" 3 2 (Ui K κ 2 (bZ κ))) (cD:mg "len" = none) (eE:kZ mg "BETWEEN_THINGS" " ") (dF:wU K mg "BLANK_RECORD" [0,0,-1,-1,0]) (jU:wU K mg "BLANK_SEAL" [0]):Bu P w K mg base "read_pane" 4 1 (Ui K κ 1 (jQ κ)):=by
 refine R.GX jT (λ_ _ _ _ _ _ us hl=>match us,hl with | [_],_=>rfl) (λ_ _ _ _ _ _ _ hr=>?_)
 have dO:=hr.units
 have hu:=iC hr
 exact⟨_,qI (bB (i:=1) (gH (aJ (pv 0)) (XN.r (pF eE rfl)) (λa b=>gD D6 F4 F5 gG a (aV b bI))) (λh=>aY jT.nd rfl (by first | exact D4 rfl | exact D3 rfl) h)) (Gh (cZ (Gp ["word"] [] vY rfl (.at (aM jP) ["text", "words", "records"] (by decide +kernel)) (eU (zA (aJ (pv 1)) (iH) (iI (XN.r (lK (XN.r (aH))))))) (eN (by decide +kernel) rfl rfl) (λ_ _ _ _ _=>bJ gK (hr.mono (by decide)) rfl (aD (aJ (pv 0)) (aD (XN.r (cN cG (cH rfl) rfl cD C7 (aD (XN.r (Dp dF rfl)) aL))) aL))) (λ_ _ _ _ _ _=>uW pC uX (hr.mono (by decide)) rfl (aD (aJ (pv 0)) (aD (XN.r (cN cG (cH rfl) rfl cD C7 (aD (XN.r (Dp dF rfl)) aL))) aL))))) (qI (mO (i:=2) ["word"] [] rfl (.at (aM jP) ["text", "words", "records"] (by decide +kernel)) jT.nd rfl (by first | exact D4 rfl | exact D3 rfl) (eU (zA (aJ (pv 1)) (iH) (iI (XN.r (lK (XN.r (aH))))))) (eN (by decide +kernel) rfl rfl) (λ_ _ _ _ _=>iJ) (λ_ _ _ _ _=>bJ gK (hr.mono (by decide)) rfl (aD (aJ (pv 0)) (aD (XN.r (cN cG (cH rfl) rfl cD C7 (aD (XN.r (Dp dF rfl)) aL))) aL)))) (cZ (IK (ZM (aJ (pv 2)) (HY (uW pC uX (hr.mono (by decide)) rfl (aD (kO (aJ (pv 1)) (XN.r (lK (XN.r (aH)))) (λ_ _=>rfl)) (aD (XN.r (cN cG (cH rfl) rfl cD C7 (aD (XN.r (Dp jU rfl)) aL))) aL))))) GC))))⟩
theorem Ca{κ:Nat→Addr}(R:Raw K mg "read_stone" iT) (jV:mG P w K mg base "read_pane" 4 1 (nC K 1 fK)) (rM:mG P w K mg base "is_grid" 1 1 (nC K 1 mV)) (wI:Bu P w K mg base "read_pane" 4 1 (Ui K κ 1 (jQ κ))) (gU:oJ K mg "NoText" (κ 0)) (aP:mg "isinstance" = none) (sG:mg "str" = none) (dM:kZ mg "BETWEEN_PANES" ";"):Bu P w K mg base "read_stone" 5 1 (Ui K κ 1 (cA κ)):=by
 refine R.GX mY (λ_ _ _ _ _ _ us hl=>match us,hl with | [_],_=>rfl) (λ_ _ _ _ _ _ _ hr=>?_)
 have dO:=hr.units
 have hu:=iC hr
 exact⟨_,Gh (cZ (Pq (dH (dU (XN.r (lD (aJ (pv 0)) (gQ (v:=.ty "str") rfl sG L6 rfl) rfl aP)))) (cZ (uY gU rfl (aD (XN.r (fP)) aL))) (Gg))) (qI (cP (dH (dU (XN.r (lD (aJ (pv 0)) (gQ (v:=.ty "str") rfl sG L6 rfl) rfl aP)))) (aR (zB)) bK) (Gh (cZ (Gp ["written"] [] vY rfl (.at (aM iT) ["text", "stone"] (by decide +kernel)) (eU (XN.r (gH (aJ (pv 0)) (XN.r (pF dM rfl)) (λa b=>gD D6 F4 F5 gG a (aV b bI))))) (eN (by decide +kernel) rfl rfl) (λ_ _ _ _ _=>bJ jV (hr.mono (by decide)) rfl (aD (aJ (pv 0)) aL)) (λ_ _ _ _ _ _=>uW wI uX (hr.mono (by decide)) rfl (aD (aJ (pv 0)) aL)))) (qI (mO (i:=1) ["written"] [] rfl (.at (aM iT) ["text", "stone"] (by decide +kernel)) mY.nd rfl (by first | exact D4 rfl | exact D3 rfl) (eU (XN.r (gH (aJ (pv 0)) (XN.r (pF dM rfl)) (λa b=>gD D6 F4 F5 gG a (aV b bI))))) (eN (by decide +kernel) rfl rfl) (λ_ _ _ _ _=>iJ) (λ_ _ _ _ _=>bJ jV (hr.mono (by decide)) rfl (aD (aJ (pv 0)) aL))) (cZ (Pq (dH (dU (XN.r (bJ rM (hr.mono (by decide)) rfl (aD (aJ (pv 1)) aL))))) (cZ (uY gU rfl (aD (XN.r (fP)) aL))) (Gg))))))⟩
theorem gW:bO ["text", "due", "kinds", "told", "e"] ["text", "due"] (aM Ag):=by walk_at "fs"
theorem Nq{κ:Nat→Addr}(R:Raw K mg "_law_good" Ag) (tU:mG P w K mg base "read_stone" 5 1 (nC K 1 lY)) (wJ:mG P w K mg base "_law_alike" 3 2 (nC K 2 lN)) (tV:Bu P w K mg base "read_stone" 5 1 (Ui K κ 1 (cA κ))) (qR:oJ K mg "StoneError" (κ 1)) (Nr:oJ K mg "NoRow" (κ 10)) (wK:oJ K mg "BadStone" (κ 8)) (Gz:oJ K mg "NoDeed" (κ 9)) (Nt:oJ K mg "NoKey" (κ 7)) (An:oJ K mg "NoWorth" (κ 6)) (Nu:oJ K mg "Twice" (κ 5)) (Xp:oJ K mg "Full" (κ 4)) (wL:oJ K mg "NoChange" (κ 3)) (Ao:oJ K mg "NoPlace" (κ 2)) (gU:oJ K mg "NoText" (κ 0)) (XM:∀i j,i<1→j<11→B5 K (.ref (κ i)) (.ref (κ j))=some (wB i j)) (XC:∀i,i<1→zL K (κ i)) (XV:∀i,i<1→O9 K (.ref (κ i)) (.type "ValueError")=some true) (aP:mg "isinstance" = none) (qT:mg "ValueError" = none):mG P w K mg base "_law_good" 6 2 (nC K 2 (iG κ)):=by
 refine R.sE gW (λ_ _ _ _ _ _ us hl=>match us,hl with | [_,_],_=>rfl) (λ_ _ _ _ _ _ _ hr=>?_)
 have dO:=hr.units
 have hu:=iC hr
 exact⟨_,aK (bB (i:=2) (pY lU) (λh=>aY gW.nd rfl (by first | exact D4 rfl | exact D3 rfl) h))
  (aK (bB (i:=3) (lR) (λh=>aY gW.nd rfl (by first | exact D4 rfl | exact D3 rfl) h))
  (aK (YL (n:=1) (nj:=11) (sub:=wB) XM (λpn=>⟨_,aR (bB (i:=3) (bJ tU (hr.mono (by decide)) rfl (aD (aJ (pv 0)) aL)) (λh=>aY gW.nd rfl (by first | exact D4 rfl | exact D3 rfl) h))⟩) (λpn Ex E=>⟨_,ZD (i:=3) (uW tV uX (hr.mono (by decide)) rfl (aD (aJ (pv 0)) aL)) gW.nd rfl (by first | exact D4 rfl | exact D3 rfl)⟩) (λi=>.as (k:=4) qR.mg rfl (by decide) gW.nd rfl rfl (λpn e oe hi hc hm=>⟨_,Wo (i:=2) (by decide) (Gm (qJ (GQ (b:=wB i 0) (pv 4) (gP rfl gU.mg rfl) (YX rfl hm hc (XC i hi) (qw (by decide) XM JN i 0 hi (by decide))) rfl aP) (qJ (qp (YT (pv 4) (gQ (v:=.ty "ValueError") rfl qT rfl rfl) (YQ rfl hm hc (XV i hi)) rfl aP)) (Gk)))) (λh=>aY gW.nd rfl (by first | exact D4 rfl | exact D3 rfl) h) (Wo (i:=2) (by decide) (Qa Fv (Le.or (Ft rfl)) (aJ (pv 2)) (Gm (qJ (Gj (cs:=([2,3,4,5,6]:List Nat).map κ) (b:=([2,3,4,5,6]:List Nat).any (wB i)) (N8 rfl) (pv 4) (Et (aV (gP rfl Ao.mg rfl) (aV (gP rfl wL.mg rfl) (aV (gP rfl Xp.mg rfl) (aV (gP rfl Nu.mg rfl) (aV (gP rfl An.mg rfl) (bI))))))) (Mx rfl hm hc (XC i hi) (HR (by decide) XM JN i hi [2,3,4,5,6] (by decide))) rfl aP) (qJ (Gj (cs:=([7,9]:List Nat).map κ) (b:=([7,9]:List Nat).any (wB i)) (N8 rfl) (pv 4) (Et (aV (gP rfl Nt.mg rfl) (aV (gP rfl Gz.mg rfl) (bI)))) (Mx rfl hm hc (XC i hi) (HR (by decide) XM JN i hi [7,9] (by decide))) rfl aP) (Gk))))) (λh=>aY gW.nd rfl (by first | exact D4 rfl | exact D3 rfl) h) (GR (i:=2) (Qa Fv (Le.or (Ft rfl)) (aJ (pv 2)) (Gm (qJ (Gj (cs:=([8,10]:List Nat).map κ) (b:=([8,10]:List Nat).any (wB i)) (N8 rfl) (pv 4) (Et (aV (gP rfl wK.mg rfl) (aV (gP rfl Nr.mg rfl) (bI)))) (Mx rfl hm hc (XC i hi) (HR (by decide) XM JN i hi [8,10] (by decide))) rfl aP) (Gk)))) (λh=>aY gW.nd rfl (by first | exact D4 rfl | exact D3 rfl) h)))⟩) (.nil)))
  (aK (cP (bY RW XH (aJ (pv 1)) (XN.r (lR)) (bM _)) (aR (bF (tE (Wu dO rfl) Wt (aJ (pv 2)) (lV (aD (XN.r (jG)) (aD (XN.r (jG)) (aD (XN.r (jG)) (aD (XN.r (jG)) (aD (XN.r (jG)) aL)))))) (bM _)))) bK)
  (aR (bF (Ma (XN.r (tE (Wu dO rfl) Wt (aJ (pv 2)) (lV aL) (bM _))) (xU (bJ wJ (hr.mono (by decide)) rfl (aD (aJ (pv 3)) (aD (aJ (pv 1)) aL))))))))))⟩
theorem eV:bO ["script", "some", "panes", "size", "shape", "at"] ["script"] (aM rJ):=by walk_at "fs"
theorem Kg(R:Raw K mg "_law_sizes" rJ) (dD:mG P w K mg base "_law_draw" 1 2 (nC K 2 dZ)) (nH:mg "range" = none):mG P w K mg base "_law_sizes" 2 1 (nC K 1 oE):=by
 refine R.sE eV (λ_ _ _ _ _ _ us hl=>match us,hl with | [_],_=>rfl) (λ_ _ _ _ _ _ _ hr=>?_)
 have dO:=hr.units
 have hu:=iC hr
 exact⟨_,aK (bB (i:=1) (bJ dD (hr.mono (by decide)) rfl (aD (aJ (pv 0)) (aD (XN.r (aH)) aL))) (λh=>aY eV.nd rfl (by first | exact D4 rfl | exact D3 rfl) h))
  (aK (bB (i:=2) (fX (XN.r (aH)) (XN.r (cF (XN.r (jN (aJ (pv 1)) (XN.r (aH)))) (XN.r (aH))))) (λh=>aY eV.nd rfl (by first | exact D4 rfl | exact D3 rfl) h))
  (aK (cP (bY (or_eq dO rfl) pW (XN.r (cF (aJ (pv 1)) (XN.r (aH)))) (XN.r (aH)) (bM _)) (aR (bB (i:=2) (fX (XN.r (aH)) (XN.r (cF (XN.r (jN (aJ (pv 1)) (XN.r (aH)))) (XN.r (aH))))) (λh=>aY eV.nd rfl (by first | exact D4 rfl | exact D3 rfl) h))) bK)
  (aK (bB (i:=3) (fX (XN.r (aH)) (XN.r (cF (XN.r (jN (aJ (pv 1)) (XN.r (aH)))) (XN.r (aH))))) (λh=>aY eV.nd rfl (by first | exact D4 rfl | exact D3 rfl) h))
  (aK (cP (bY (or_eq dO rfl) pW (XN.r (cF (aJ (pv 1)) (XN.r (aH)))) (XN.r (aH)) (bM _)) (aR (bB (i:=3) (XR.n (kO (lV (aD (XN.r (aH)) (aD (XN.r (aH)) (aD (XN.r (aH)) aL)))) (XN.r (cF (XN.r (jN (aJ (pv 1)) (XN.r (aH)))) (XN.r (aH)))) (λ_ _=>rfl))) (λh=>aY eV.nd rfl (by first | exact D4 rfl | exact D3 rfl) h))) bK)
  (aK (mO (i:=4) ["pane", "size"] [3] rfl (.at (aM rJ) ["script", "some", "panes", "size", "shape", "at"] (by decide +kernel)) eV.nd rfl (by first | exact D4 rfl | exact D3 rfl) (Sq rfl nH (aD (aJ (pv 2)) aL)) (eN (by decide +kernel) rfl rfl) (λ_ _ _ _ _=>iJ) (λ_ _ _ _ _=>fX (XN.r (Wk (pY (lH aH lU)) (XN.r (Lx (aJ (pv 1)) (XN.r (aH)))))) (lV (aD (XN.r (aH)) aL))))
  (aK (bB (i:=1) (bJ dD (hr.mono (by decide)) rfl (aD (aJ (pv 0)) (aD (XN.r (aH)) aL))) (λh=>aY eV.nd rfl (by first | exact D4 rfl | exact D3 rfl) h))
  (aK (bB (i:=5) (cF (XN.r (jN (aJ (pv 1)) (XN.r (aH)))) (aJ (pv 2))) (λh=>aY eV.nd rfl (by first | exact D4 rfl | exact D3 rfl) h))
  (aK (cP (bY (or_eq dO rfl) pW (XN.r (cF (aJ (pv 1)) (XN.r (aH)))) (XN.r (aH)) (bM _)) (aR (XS (Vw (Mm (pv 4)) (aJ (pv 5)) (λ_ _=>rfl)) (XN.r (aH)) (XN.r (aH)) (λa b c=>oM (gD J8 PySem.F.slot_list_insert PySem.F.type_list_insert Sw a (aV b (aV c bI)))))) bK)
  (aK (cP (bY (or_eq dO rfl) pW (XN.r (cF (aJ (pv 1)) (XN.r (aH)))) (XN.r (aH)) (bM _)) (aR (DR (Vw (Mm (pv 4)) (aJ (pv 5)) (λ_ _=>rfl)) (XN.r (aH)) (λa b=>oM (gD J8 PySem.F.slot_list_pop PySem.F.type_list_pop Vc a (aV b bI))))) bK)
  (aK (cP (bY (or_eq dO rfl) pW (XN.r (cF (aJ (pv 1)) (XN.r (aH)))) (XN.r (aH)) (bM _)) (aR (DN (Vw (Mm (pv 4)) (aJ (pv 5)) (λ_ _=>rfl)) (XN.r (cF (XN.r (jN (aJ (pv 1)) (XN.r (aH)))) (aJ (pv 3)))) (fX (XN.r (aH)) (XN.r (cF (XN.r (jN (aJ (pv 1)) (XN.r (aH)))) (XN.r (aH))))) (λa b c=>RJ c (RG a b set_list)))) bK)
  (aR (uP (pv 4)))))))))))))⟩
theorem gO:bO ["word", "figures", "number", "sign", "at"] ["word"] (aM tQ):=by walk_at "fs"
theorem Hf(R:Raw K mg "_law_number" tQ) (cD:mg "len" = none):mG P w K mg base "_law_number" 1 1 (nC K 1 lZ):=by
 refine R.sE gO (λ_ _ _ _ _ _ us hl=>match us,hl with | [_],_=>rfl) (λ_ _ _ _ _ _ _ hr=>?_)
 have dO:=hr.units
 have hu:=iC hr
 exact⟨_,aK (bB (i:=1) (XR.n (aJ (pv 0))) (λh=>aY gO.nd rfl (by first | exact D4 rfl | exact D3 rfl) h))
  (aK (cP (bY (or_eq dO rfl) pW (XN.r (oW (aJ (pv 0)) (iH) (iI (XN.r (aH))))) (XN.r (fP)) (bM _)) (aR (bB (i:=1) (oW (aJ (pv 0)) (iI (XN.r (aH))) (iH)) (λh=>aY gO.nd rfl (by first | exact D4 rfl | exact D3 rfl) h))) bK)
  (aK (cP (XW.xt (uM (bY Cm iQ (XN.r (cN xX lG rfl cD C7 (aD (aJ (pv 1)) aL))) (XN.r (aH)) (bM _)) (pZ (bY Ut iQ (XN.r (cN xX lG rfl cD C7 (aD (aJ (pv 1)) aL))) (XN.r (aH)) (bM _))))) (aR (bF (lR))) bK)
  (aK (bB (i:=2) aH (λh=>aY gO.nd rfl (by first | exact D4 rfl | exact D3 rfl) h))
  (aK (vP [1] PassesOwn.never rfl (Wg (aJ (pv 1))) (jA (i:=3) gO.nd rfl (by first | exact D4 rfl | exact D3 rfl)) (aK (bB (i:=4) (HQ (XN.r (fP)) (aJ (pv 3)) (λa b=>gD D6 PySem.F.slot_str_find PySem.F.type_str_find HN a (aV b bI))) (λh=>aY gO.nd rfl (by first | exact D4 rfl | exact D3 rfl) h))
  (aK (cP (bY Cm iQ (aJ (pv 4)) (XN.r (aH)) (bM _)) (aR (bF (lR))) bK)
  (aR (bB (i:=2) (fX (XN.r (tD (aJ (pv 2)) (XN.r (aH)))) (aJ (pv 4))) (λh=>aY gO.nd rfl (by first | exact D4 rfl | exact D3 rfl) h))))))
  (aK (cP (XW.xt (WK (bY (or_eq dO rfl) pW (XN.r (Mt (aJ (pv 1)) (XN.r (aH)) (λ_ _=>rfl))) (XN.r (fP)) (bM _)) (CQ (bY (uL dO rfl) uK (aJ (pv 0)) (XN.r (fP)) (bM _))))) (aR (bF (lR))) bK)
  (aK (cP (bY (uL dO rfl) uK (aJ (pv 1)) (aJ (pv 0)) (bM _)) (aR (bF (lK (aJ (pv 2))))) bK)
  (aR (uP (pv 2)))))))))⟩
theorem lC:bO ["text", "stone", "row", "pane", "word", "thing", "size"] ["text"] (aM vC):=by walk_at "fs"
theorem Tv(R:Raw K mg "_law_due" vC) (tW:mG P w K mg base "_law_number" 1 1 (nC K 1 lZ)) (pB:mg "tuple" = none) (cD:mg "len" = none):mG P w K mg base "_law_due" 2 1 (nC K 1 rK):=by
 refine R.sE lC (λ_ _ _ _ _ _ us hl=>match us,hl with | [_],_=>rfl) (λ_ _ _ _ _ _ _ hr=>?_)
 have dO:=hr.units
 have hu:=iC hr
 exact⟨_,aK (bB (i:=1) (pY lU) (λh=>aY lC.nd rfl (by first | exact D4 rfl | exact D3 rfl) h))
  (aK (vP [] PassesOwn.never rfl (eU (XN.r (gH (aJ (pv 0)) (XN.r (fP)) (λa b=>gD D6 F4 F5 gG a (aV b bI))))) (jA (i:=2) lC.nd rfl (by first | exact D4 rfl | exact D3 rfl)) (aK (bB (i:=3) (pY lU) (λh=>aY lC.nd rfl (by first | exact D4 rfl | exact D3 rfl) h))
  (aK (vP [2] PassesOwn.never rfl (eU (XN.r (gH (aJ (pv 2)) (XN.r (fP)) (λa b=>gD D6 F4 F5 gG a (aV b bI))))) (jA (i:=4) lC.nd rfl (by first | exact D4 rfl | exact D3 rfl)) (aK (mO (i:=5) ["part"] [] rfl (.at (aM vC) ["text", "stone", "row", "pane", "word", "thing", "size"] (by decide +kernel)) lC.nd rfl (by first | exact D4 rfl | exact D3 rfl) (eU (XN.r (gH (aJ (pv 4)) (XN.r (fP)) (λa b=>gD D6 F4 F5 gG a (aV b bI))))) (eN (by decide +kernel) rfl rfl) (λ_ _ _ _ _=>iJ) (λ_ _ _ _ _=>bJ tW (hr.mono (by decide)) rfl (aD (aJ (pv 0)) aL)))
  (aK (cP (bY (lg rfl) (km false) (XN.r (lR)) (aJ (pv 5)) (by with_unfolding_all rfl)) (aR (bF (lR))) bK)
  (aR (Fy (Mm (pv 3)) (Pb Jb (Jc rfl) rfl pB P2 (aD (aJ (pv 5)) aL)) (λa b=>oM (gD J8 L9 M0 jM a (aV b bI))))))))
  (aR (FZ (pv 1) (pv 3) (λa b=>oM (gD J8 L9 M0 jM a (aV b bI))))))))
  (aK (bB (i:=6) (cN cG (cH rfl) rfl cD C7 (aD (kO (aJ (pv 1)) (XN.r (aH)) (λ_ _=>rfl)) aL)) (λh=>aY lC.nd rfl (by first | exact D4 rfl | exact D3 rfl) h))
  (aK (cP (XW.xt (uM (bY Ut iQ (XN.r (cN cG (cH rfl) rfl cD C7 (aD (aJ (pv 1)) aL))) (XN.r (aH)) (bM _)) (uM (bY Cm iQ (aJ (pv 6)) (XN.r (aH)) (bM _)) (pZ (bY Ut iQ (aJ (pv 6)) (XN.r (aH)) (bM _)))))) (aR (bF (lR))) bK)
  (aK (JB PassesOwn.never rfl (aJ (pv 1)) (jA (i:=3) lC.nd rfl (by first | exact D4 rfl | exact D3 rfl)) (bY (uL dO rfl) uK (XN.r (xV ["thing"] [] rfl (.at (aM vC) ["text", "stone", "row", "pane", "word", "thing", "size"] (by decide +kernel)) (eU (aJ (pv 3))) (eN (by decide +kernel) rfl rfl) (λ_ _ _ _ _=>iJ) (λ_ _ _ _ _=>cN cG (cH rfl) rfl cD C7 (aD (aJ (pv 0)) aL)))) (XN.r (fX (XN.r (Wk (pY (lH aH lU)) (XN.r (Lx (aJ (pv 6)) (XN.r (aH)))))) (lV (aD (XN.r (aH)) aL)))) (bM _)) (lR))
  (aR (uP (pv 1)))))))⟩
theorem Qm:bO ["script", "other", "text"] ["script"] (aM aa):=by walk_at "fs"
theorem ak{κ:Nat→Addr}{f:Addr}{fd:FuncData}(F:Zb K "law" "law" aa f fd) (dD:mG P w K mg base "_law_draw" 1 2 (nC K 2 dZ)) (qU:mG P w K mg base "_law_good" 6 2 (nC K 2 (iG κ))) (wM:mG P w K mg base "_law_sizes" 2 1 (nC K 1 oE)) (Aq:mG P w K mg base "_law_text" 2 2 (nC K 2 qP)) (yG:mG P w K mg base "_law_due" 2 1 (nC K 1 rK)) (tX:mG P w K mg base "_law_spoilt" 2 2 (nC K 2 lX)) (XD:∀ns:List Int,ns.length≤63→(∀k∈ns,Small k)→aj κ [.lst (ns.map D.int)]=some (.bl true)):uD P w K mg base Ue 7 f fd ["script"] (zq K):=by
 refine F.okB Qm (λcdv A outer s H E hr=>?_) XD
 have dO:=hr.units
 have hu:=iC hr
 exact⟨_,aK (Wv (i:=1) (lV (aD (XN.r (lR)) (aD (XN.r (aH)) (aD (XN.r (jG)) (aD (lV (aD (XN.r (fP)) aL)) (aD (XN.r (Ly (lH (fP) lU))) (aD (lV (aD (lV (aD (XN.r (Ly (lH aH (lH aH (lH (lK (XN.r (aH))) (lH (lK (XN.r (aH))) (lH aH lU))))))) (aD (XN.r (Ly (lH aH lU))) aL))) aL)) (aD (XN.r (fP)) aL)))))))) Qm.nd rfl (by first | exact D4 rfl | exact D3 rfl))
  (aK (cP (dH (dU (XN.r (bJ qU (hr.mono (by decide)) rfl (aD (kO (aJ (pv 1)) (XN.r (cF (XN.r (bJ dD (hr.mono (by decide)) rfl (aD (aJ (pv 0)) (aD (XN.r (aH)) aL)))) (XN.r (aH)))) (λ_ _=>rfl)) (aD (XN.r (lR)) aL)))))) (aR (bF (jG))) bK)
  (aK (bB (i:=2) (bJ Aq (hr.mono (by decide)) rfl (aD (aJ (pv 0)) (aD (XN.r (bJ wM (hr.mono (by decide)) rfl (aD (aJ (pv 0)) aL))) aL))) (λh=>aY Qm.nd rfl (by first | exact D4 rfl | exact D3 rfl) h))
  (aK (cP (dH (dU (XN.r (bJ qU (hr.mono (by decide)) rfl (aD (aJ (pv 2)) (aD (XN.r (bJ yG (hr.mono (by decide)) rfl (aD (aJ (pv 2)) aL))) aL)))))) (aR (bF (jG))) bK)
  (aK (bB (i:=2) (bJ tX (hr.mono (by decide)) rfl (aD (aJ (pv 0)) (aD (aJ (pv 2)) aL))) (λh=>aY Qm.nd rfl (by first | exact D4 rfl | exact D3 rfl) h))
  (aR (bF (bJ qU (hr.mono (by decide)) rfl (aD (aJ (pv 2)) (aD (XN.r (bJ yG (hr.mono (by decide)) rfl (aD (aJ (pv 2)) aL))) aL)))))))))⟩
end
end Rs

namespace Rs
open PySem L2
local macro_rules | `(tactic| walk_at "lt")=>`(tactic| exact N8 rfl)
local macro_rules | `(tactic| walk_at "sc")=>`(tactic| first | omega | with_reducible assumption | exact Int.pow_pos (by decide) | exact aAm (by omega) (by omega) | exact rm (by omega) (by omega))
local macro_rules | `(tactic| walk_at "op")=>`(tactic| first | with_reducible assumption | with_reducible exact fG _ _ | with_reducible exact vA _ _ | with_reducible exact yD _ _ | with_reducible exact Qf _ _ | with_reducible exact mR _ _ | with_reducible exact yC _ _ | with_reducible exact dGe_int _ _ | with_reducible exact Gr _ _ | with_reducible exact Dy _ | with_reducible exact zR _ | with_reducible exact qN _ | ((with_reducible apply Js);walk_at "sc") | ((with_reducible apply bN);walk_at "sc") | ((with_reducible apply dX);(walk_at "sc");walk_at "sc") | ((with_reducible apply dPow_int);exact⟨by decide,by decide,by omega⟩) | ((with_reducible apply Xc);(walk_at "sc");walk_at "sc"))
local macro_rules | `(tactic| walk_at "ea")=>`(tactic| first | with_reducible exact Xi | ((with_reducible apply aC);(walk_at "ev");walk_at "ea"))
local macro_rules | `(tactic| walk_at "ev")=>`(tactic| first | ((with_reducible apply jD);exact rfl) | with_reducible exact su | with_reducible assumption | ((with_reducible apply aO);(walk_at "ev");(walk_at "ev");walk_at "op") | ((with_reducible apply fY);(walk_at "ea");walk_at "op") | ((with_reducible apply aX);(walk_at "ea");exact rfl;with_reducible assumption) | ((with_reducible apply xZ);(walk_at "ev");exact rfl) | ((with_reducible apply oX);walk_at "ev") | ((with_reducible apply yE);(walk_at "ea");walk_at "lt") | ((with_reducible apply bQ);(walk_at "ea");walk_at "lt"))
local macro_rules | `(tactic| walk_at "et")=>`(tactic| first | ((with_reducible apply dR);walk_at "et") | ((with_reducible apply tK);(walk_at "et");walk_at "et") | ((with_reducible apply Qg);(walk_at "et");walk_at "et") | ((with_reducible apply bU);walk_at "ev"))
local macro_rules | `(tactic| walk_at "set")=>`(tactic| (apply nG;(walk_at "ev");(walk_at "lt")))
local macro_rules | `(tactic| walk_at "q")=>`(tactic| (apply cI;(walk_at "ev");(walk_at "lt")))
def qW(ns:List Int)(k:Int):Int:=if ns.length=0 then 0 else
 ((ns.getD (k%ns.length).toNat 0*(48271+7919*(k/ns.length)*(k/ns.length))+k*k*104729)%2147483647)*((ns.getD (k%ns.length).toNat 0*(48271+7919*(k/ns.length)*(k/ns.length))+k*k*104729)%2147483647)%2147483629
theorem vG(ns:List Int)(k:Int):0≤qW ns k∧qW ns k<2147483629:=by
 unfold qW
 split
 ·exact⟨by decide,by decide⟩
 ·exact⟨F9 _ (by decide),F3 _ (by decide)⟩
theorem rN{ns:List Int}{k:Int}(hl:ns.length≤63)(h0:0≤k)(h1:k≤1000):dZ [aW ns,.int k]=some (.int (qW ns k)):=by
 refine lW rfl ?_
 unfold Jy qW
 by_cases c:ns.length=0
 ·rw[if_pos c]
  apply ZV
  ·walk_at "et"
  ·exact decide_eq_true (by omega)
  apply rn
  ·walk_at "ev"
  ·rfl
 ·rw[if_neg c]
  have cp:(0:Int)<ns.length:=by omega
  have cq:(ns.length:Int)<1073741824:=by omega
  have m0:=F9 k (show (ns.length:Int)≠0 by omega)
  have m1:=F3 k cp
  have t0:0≤k/(ns.length:Int):=Int.ediv_nonneg h0 (by omega)
  have t1:k/(ns.length:Int)≤1000:=Int.le_trans (Int.ediv_le_self _ h0) h1
  apply zW
  ·walk_at "et"
  ·exact decide_eq_false (by omega)
  apply Jt
  apply nG
  ·walk_at "ev"
  ·walk_at "lt"
  generalize k/(ns.length:Int)=tn at *
  have q1:0≤tn*tn:=Y5 t0 t0
  have q2:tn*tn≤1000*1000:=Y6 t1 t1 t0 (by decide)
  have q3:7919*tn*tn=7919*(tn*tn):=Int.mul_assoc _ _ _
  apply nG
  ·walk_at "ev"
  ·walk_at "lt"
  have k2:0≤k*k:=Y5 h0 h0
  have k3:k*k≤1000*1000:=Y6 h1 h1 h0 (by decide)
  apply nG
  ·walk_at "ev"
  ·walk_at "lt"
  apply nG
  ·walk_at "ev"
  ·walk_at "lt"
  generalize hM:(ns.getD (k%ns.length).toNat 0*(48271+7919*tn*tn)+k*k*104729)%2147483647=M
  have b0:0≤M:=by rw[←hM];exact F9 _ (by decide)
  have b1:M<2147483647:=by rw[←hM];exact F3 _ (by decide)
  apply mQ
  walk_at "ev"
def sS(l:List Nat):Str:=⟨l.toArray⟩
theorem iU(l:List Nat):(sS l).length=l.length:=B7 ..
theorem yH(l:List Nat):(sS l).cps.toList=l:=rfl
theorem Nv(a b:List Nat):sS a++sS b=sS (a++b):=Str.ext' (by show a.toArray++b.toArray=(a++b).toArray;simp)
theorem Nx(x:Str):x=sS x.cps.toList:=Str.ext' (by show x.cps=x.cps.toList.toArray;simp)
theorem vH(s:String):O6 s=sS (s.toList.map Char.toNat):=by rw[Nx (O6 s),PyProof.Rows.signs_ofString]
theorem ao{a b:List Nat}(h:sS a=sS b):a=b:=by
 have:=congrArg (λx:Str=>x.cps.toList) h
 exact this
theorem aAn:("" : Str)=sS []:=vH ""
theorem uf:("-" : Str)=sS [45]:=vH "-"
theorem ug:("0" : Str)=sS [48]:=vH "0"
theorem uh:("0123456789" : Str)=sS [48,49,50,51,52,53,54,55,56,57]:=vH "0123456789"
theorem Hg(a b:Str):vN (.str a) (.str b)=some (.bl (a==b)):=by
 unfold vN
 show (if Ib (V.str a) (V.str b)=true then _ else _)=_
 rw[show Ib (V.str a) (V.str b)=true from rfl,if_pos rfl,xQ]
theorem Hh(a b:Str):yZ (.str a) (.str b)=some (.bl (!(a==b))):=by
 unfold yZ
 show (if Ib (V.str a) (V.str b)=true then _ else _)=_
 rw[show Ib (V.str a) (V.str b)=true from rfl,if_pos rfl,xQ]
theorem nJ(a b:List Nat):(sS a==sS b)=(a==b):=by
 rw[F7,beq_iff_eq,beq_iff_eq]
 exact⟨ao,λh=>by rw[h]⟩
theorem qX(a b:List Nat)(h:a.length+b.length≤100000):sJ (.str (sS a)) (.str (sS b))=some (.str (sS (a++b))):=by
 unfold sJ
 dsimp only
 rw[if_pos (by rw[iU,iU];exact h),Nv]
theorem Hi{l:List Nat}{i:Int}{c:Nat}(h0:0≤i)(h:l[i.toNat]?=some c)(hl:l.length≤100000):Ga (.str (sS l)) (.int i)=some (.str (sS [c])):=by
 unfold Ga
 dsimp only
 rw[if_pos (by rw[iU];exact hl),yH,Gs h0 h]
 rfl
theorem Av(l:List Nat)(h:l.length≤100000):qH [.str (sS l)]=some (.int l.length):=by
 unfold qH
 dsimp only
 rw[iU,if_pos h]
theorem JP(c:Nat)(l:List Nat):Txt.startswith (sS (c::l)) (sS [45])=(c==45):=by
 unfold Txt.startswith
 rw[StrLaws.subAt_eq,iU,iU,yH,yH,show decide (0+[45].length≤(c::l).length)=true from decide_eq_true (by simp),G0]
 show ([c]==[45])=(c==45)
 simp
def Xq(m:Nat):List Nat:=(T6 10 m).map Char.toNat
theorem dch(d:Nat)(h:d<10):(S5 d).toNat=48+d:=by
 have:∀d:Nat,d<10→(S5 d).toNat=48+d:=by decide
 exact this d h
theorem aq{m:Nat}(h:m<10):Xq m=[48+m]:=by
 unfold Xq
 rw[T8 h]
 show [(S5 m).toNat]=_
 rw[dch m h]
theorem au{m:Nat}(h:10≤m):Xq m=Xq (m/10)++[48+m%10]:=by
 have hm:m%10<10:=Nat.mod_lt m (by decide)
 have t:T6 10 (m/10)++T6 10 (m%10)=T6 10 (10*(m/10)+m%10):=Nat.toDigits_append_toDigits (by decide) (by omega) hm
 rw[Nat.div_add_mod]at t
 unfold Xq
 rw[←t,G5,T8 hm]
 show _++[(S5 (m%10)).toNat]=_
 rw[dch _ hm]
theorem Qn(m:Nat):∀k,1≤k→m<10 ^ k→1≤(Xq m).length∧(Xq m).length≤k:=by
 induction m using Nat.strongRecOn with
 | _ m ih=>
  intro k h1 hk
  by_cases h:m<10
  ·rw[aq h]
   exact⟨D2 _,h1⟩
  ·have hk2:k≠1:=λz=>by subst z;omega
   have e:(10:Nat) ^ k=10 ^ (k-1)*10:=by rw[←Nat.pow_succ];congr 1;omega
   have:=ih (m/10) (by omega) (k-1) (by omega) (by rw[e]at hk;omega)
   rw[au (by omega),C6,D8]
   omega
theorem JQ(m:Nat):Jk (m:Int)=sS (Xq m):=by
 unfold Jk
 rw[Nx (O6 _),PySem.W.KIN.signs_num]
 rfl
theorem JR(m:Nat)(h:0<m):Jk (-(m:Int))=sS (45::Xq m):=by
 obtain⟨k,rfl⟩:∃k,m=k+1:=⟨m-1,by omega⟩
 unfold Jk
 rw[vH]
 show sS (("-" ++ Nat.repr (k+1)).toList.map Char.toNat)=_
 rw[String.toList_append,Nat.toList_repr,G5]
 rfl
def txt(n:Int):List Nat:=if n<0 then 45::Xq n.natAbs else Xq n.natAbs
theorem JS(n:Int):Jk n=sS (txt n):=by
 unfold txt
 by_cases h:n<0
 ·rw[if_pos h]
  have e:=JR n.natAbs (by omega)
  rw[show -((n.natAbs:Nat):Int)=n by omega]at e
  exact e
 ·rw[if_neg h]
  have e:=JQ n.natAbs
  rw[show ((n.natAbs:Nat):Int)=n by omega]at e
  exact e
theorem Hj{f1 f2 f3:FE}{e:DE}{a b c:Int}(h1:f1 e=some (.int a))(h2:f2 e=some (.int b))(h3:f3 e=some (.int c)):Mr Oz Oz f1 f2 f3 e=some (decide (a≤b)&&decide (b≤c)):=by
 unfold Mr
 rw[h1,h2,h3]
 dsimp only[C8]
 rw[Gr,C8]
 by_cases q:a≤b
 ·rw[decide_eq_true q]
  dsimp only
  rw[Gr]
  rfl
 ·rw[decide_eq_false q]
  rfl
theorem Kh{i:Nat}{g:GS}(I:Nat→EN→Prop)(Rt:D→Prop):∀(xs:List D)(env:EN)(n:Nat),I n env→(∀k x env,xs[k]?=some x→I (n+k) env→i<env.length∧((∃env',g (env.set i (.fro x))=.next env'∧I (n+k+1) env')∨(∃d,g (env.set i (.fro x))=.ret d∧Rt d)))→(∃env',rW i g xs env=.next env'∧I (n+xs.length) env')∨∃d,rW i g xs env=.ret d∧Rt d
 | [],env,n,h,_=>.inl ⟨env,rfl,h⟩
 | x::xs,env,n,h,st=>by
  obtain⟨hl,q⟩:=st 0 x env rfl h
  unfold rW
  rw[if_pos hl]
  rcases q with ⟨env',q1,q2⟩ | ⟨d,q1,q2⟩
  ·rw[q1]
   have:=Kh I Rt xs env' (n+1) q2 λk y e hy hi=>by
    have z:=st (k+1) y e hy (by rw[show n+(k+1)=n+1+k by omega];exact hi)
    rw[show n+(k+1)=n+1+k by omega]at z
    exact z
   rw[G8,show n+(xs.length+1)=n+1+xs.length by omega]
   exact this
  ·rw[q1]
   exact .inr ⟨d,rfl,q2⟩
theorem Aw{i:Nat}{gb g:GS}{env:EN}{Pr:SR→Prop}{js:List Nat}{fi:FA}{pH:EN}{xs:List D}(I:Nat→EN→Prop)(hf:tZ js env=pH)(h:fi (zE pH)=some xs)(h0:I 0 pH)
  (st:∀(k:Nat) x env,xs[k]?=some x→I k env→i<env.length∧Qs (λr=>(∃env',r=.next env'∧I (k+1) env')∨∃d,r=.ret d∧Pr (.ret d)) (gb (env.set i (.fro x)))) (k:∀env',I xs.length env'→Qs Pr (g env')):Qs Pr (aQ (uQ js i fi gb) g env):=by
 rcases Kh (i:=i) (g:=gb) I (λd=>Pr (.ret d)) xs pH 0 h0 λk x e hx hi=>by
  rw[O7]at hi ⊢
  exact⟨(st k x e hx hi).1,(st k x e hx hi).2⟩with ⟨env',h1,h2⟩ | ⟨d,h1,h2⟩
 ·rw[O7]at h2
  rw[gR ((Gq hf h).trans h1)]
  exact k env' h2
 ·rw[qM ((Gq hf h).trans h1)]
  exact h2
def oG(c:Nat):Bool:=decide (48≤c∧c≤57)
def tY(l:List Nat):List Nat:=if l.head?=some 45 then l.tail else l
def iW(L F:List Nat):Bool:=(decide (1≤F.length)&&decide (F.length≤60))&&(F.all oG&&(!(F.head?==some 48)||(L==[48])))
def Kl(L F:List Nat):Int:=if F=L then(N3 F:Int)else -(N3 F:Int)
theorem Qo(l:List Nat):(tY l).length≤l.length:=by
 unfold tY
 split
 ·rw[X7];omega
 ·exact D2 _
theorem JT(c:Nat):decide (c∈([48,49,50,51,52,53,54,55,56,57]:List Nat))=oG c:=by
 unfold oG
 rw[decide_eq_decide]
 simp only[G2,X6,or_false]
 omega
theorem Qp(c:Nat):Sx (sS [48,49,50,51,52,53,54,55,56,57]) (sS [c])=oG c:=by
 unfold Sx
 rw[show sS [c]=(⟨#[c]⟩:Str)from rfl,StrLaws.found_one,yH,JT]
theorem Xr(c:Nat):Txt.find (sS [48,49,50,51,52,53,54,55,56,57]) (sS [c])=if oG c=true then((c-48:Nat):Int)else -1:=by
 by_cases h:oG c=true
 ·rw[if_pos h]
  unfold oG at h
  have h:=of_decide_eq_true h
  have:∀d:Nat,d<10→Txt.find (sS [48,49,50,51,52,53,54,55,56,57]) (sS [48+d])=(d:Int):=by decide +kernel
  have z:=this (c-48) (by omega)
  rw[show 48+(c-48)=c by omega]at z
  exact z
 ·rw[if_neg h]
  have z:=Qp c
  rw[W7.mpr h]at z
  unfold Sx at z
  unfold Txt.find
  cases q:Builtin.Str.occurrences (sS [48,49,50,51,52,53,54,55,56,57]) (sS [c]) 0 (sS [48,49,50,51,52,53,54,55,56,57]).length 1 with
  | nil=>rfl
  | cons a b=>rw[q]at z;cases z
theorem lM{f:FE}{fl fh:FO}{e:DE}{l:List Nat}{lo hi:Option Int}(h1:f e=some (.str (sS l)))(h2:fl e=some lo)(h3:fh e=some hi)(ho:My (sS l) lo hi):vX f fl fh e=some (.str (sS (iY l lo hi))):=by
 unfold vX
 rw[h1,h2,h3]
 show HJ (.str (sS l)) lo hi=_
 unfold HJ
 dsimp only
 rw[if_pos ho]
 rfl
theorem rO(n d:Nat){i:Int}(h:0≤i):HT.pJ n d (some i)=min i.toNat n:=by
 show (if i<0 then _ else min i.toNat n)=_
 rw[if_neg (by omega)]
theorem oH{l:List Nat}{a:Int}(h:0≤a)(hl:l.length≤5000):My (sS l) (some a) none:=by
 refine⟨λi hi=>(by cases F6.mp hi;exact h),λi hi=>(by cases hi),?_,by rw[iU];omega⟩
 rw[rO _ _ h]
 exact Nat.min_le_right _ _
theorem yI{l:List Nat}{a:Int}(h:0≤a)(hl:l.length≤5000):My (sS l) none (some a):=
 ⟨λi hi=>(by cases hi),λi hi=>(by cases F6.mp hi;exact h),O1 _,by rw[iU];omega⟩
theorem Ho{α:Type}(l:List α)(lo hi:Option Int):(iY l lo hi).length≤l.length:=by
 unfold iY
 rw[J9,M4]
 omega
theorem Qq(c:Nat)(t:List Nat):iY (c::t) (some 1) none=t:=by
 unfold iY
 rw[rO _ _ (by decide)]
 show ((c::t).drop (min 1 (t.length+1))).take (t.length+1-min 1 (t.length+1))=t
 rw[show min 1 (t.length+1)=1 by omega]
 show t.take (t.length+1-1)=t
 rw[P8 (by omega)]
theorem Tw(l:List Nat):iY l none (some 1)=l.take 1:=by
 unfold iY
 rw[rO _ _ (by decide)]
 show (l.drop 0).take (min 1 l.length-0)=l.take 1
 rw[V0,W3]
 cases l with
 | nil=>rfl
 | cons c t=>
  rw[show min 1 (c::t).length=1 by rw[G8];omega]
theorem Tz(l:List Nat):Txt.startswith (sS l) (sS [45])=decide (l.head?=some 45):=by
 cases l with
 | nil=>decide +kernel
 | cons c t=>
  rw[JP]
  show (c==45)=decide (some c=some 45)
  rw[F7,beq_iff_eq,decide_eq_true_iff]
  exact⟨λh=>by rw[h],λh=>by cases h;rfl⟩
theorem Ua{l L:List Nat}(h2:l.length≤5000) :
  Qs (λr=>∃d,r=.ret d∧d=.bl (iW L l)) ((aQ (jJ (fQ (Mr Oz Oz (fC (.int 1)) (fL qH (aB (aF 1) aG)) (fC (.int (60))))) (cU (fC (.bl false))) bG)
 (aQ (jJ (fQ (fB (fL Mf (aB (cV (Mv (aF 1)) [] dW (f2 Wc (aF 0) (fC (.str (sS [48,49,50,51,52,53,54,55,56,57]))))) aG)))) (cU (fC (.bl false))) bG)
 (cU (Sh (f2 yZ (f2 Ga (aF 1) (fC (.int 0))) (fC (.str (sS [48])))) (f2 vN (aF 0) (fC (.str (sS [48])))))))) [.fro (.str (sS L)),.own (.str (sS l))]):=by
 unfold iW
 refine oY (dR (Hj (a:=1) (b:=l.length) (c:=60) rfl (fY (aC rfl rfl) (Av l (by omega))) rfl)) (λhb=>?_) (λhb=>jE ?_)
 ·refine pG rfl ⟨_,rfl,?_⟩
  have:(decide (1≤l.length)&&decide (l.length≤60))=false:=by
   rw[K7,Q7]at hb
   rw[Q7]
   rcases hb with z | z
   ·exact .inl (decide_eq_false (by have:=of_decide_eq_false z;omega))
   ·exact .inr (decide_eq_false (by have:=of_decide_eq_false z;omega))
  rw[this]
  rfl
 rw[M9,B4]at hb
 have b1:1≤l.length:=by have:=of_decide_eq_true hb.1;omega
 have b2:l.length≤60:=by have:=of_decide_eq_true hb.2;omega
 rw[decide_eq_true b1,decide_eq_true b2,G0,G0]
 have hc:cV (Mv (aF 1)) [] dW (f2 Wc (aF 0) (fC (.str (sS [48,49,50,51,52,53,54,55,56,57])))) (rE [.fro (.str (sS L)),.own (.str (sS l))])=some (.lst (l.map λc=>D.bl (oG c))):=by
  refine Tr (xs:=l) (ψ:=λc=>D.str ⟨#[c]⟩) (φ:=λc=>D.bl (oG c)) rfl (by omega) λc hc=>?_
  refine aO rfl rfl ?_
  show some (D.bl (Sx (sS [48,49,50,51,52,53,54,55,56,57]) (sS [c])))=_
  rw[Qp]
 refine oY (dR (bU (fY (aC hc rfl) (Aa oG l)))) (λhb=>?_) (λhb=>jE ?_)
 ·rw[K7]at hb
  exact pG rfl ⟨_,rfl,by rw[hb];rfl⟩
 rw[M9]at hb
 rw[hb,G0]
 obtain⟨c,t,rfl⟩:∃c t,l=c::t:=by
  cases l with
  | nil=>simp at b1
  | cons c t=>exact⟨c,t,rfl⟩
 refine qO (JL (aO (aO rfl rfl (Hi (c:=c) (by decide) rfl (by omega))) rfl (Hh _ _)) (aO rfl rfl (Hg _ _))) ⟨_,rfl,?_⟩
 rw[nJ,nJ]
 congr 3
 rw[F7,beq_iff_eq,beq_iff_eq]
 exact⟨λh=>by cases h;rfl,λh=>by cases h;rfl⟩
theorem JV{l:List Nat}(hl:l.length≤5000):fJ [.str (sS l)]=some (.bl (iW l (tY l))):=by
 suffices hh:∃d,fJ [.str (sS l)]=some d∧d=.bl (iW l (tY l)) by
  obtain⟨d,h1,rfl⟩:=hh
  exact h1
 have hf:=Qo l
 refine lE rfl ?_
 unfold Ec
 rw[uf,ug,uh]
 have hs:(fB (f2 Gb (aF 0) (fC (.str (sS [45]))))) (rE [.fro (.str (sS l)),.no])=some (decide (l.head?=some 45)):=by
  refine bU (aO rfl rfl ?_)
  show some (D.bl (Txt.startswith (sS l) (sS [45])))=_
  rw[Tz]
 refine cI (d:=.str (sS (tY l))) ?_ (by exact Nat.le_of_ble_eq_true rfl) (Ua (by omega))
 unfold tY
 by_cases c:l.head?=some 45
 ·rw[if_pos c]
  rw[decide_eq_true c]at hs
  refine uc hs ?_
  obtain⟨t,rfl⟩:∃t,l=45::t:=by
   cases l with
   | nil=>cases c
   | cons a t=>cases c;exact⟨t,rfl⟩
  refine(lM rfl (fH rfl) rfl (oH (by decide) hl)).trans ?_
  rw[Qq]
  rfl
 ·rw[if_neg c]
  rw[decide_eq_false c]at hs
  exact ud hs (xZ rfl rfl)
theorem JW{l:List Nat}(hl:l.length≤100)(h:iW l (tY l)=true):S0 (sS l)=some (Kl l (tY l)):=by
 unfold iW at h
 rw[B4,B4,B4]at h
 obtain⟨⟨h1,h2⟩,h3,h4⟩:=h
 have h1:=of_decide_eq_true h1
 have hd:PySem.NumText.AllDigits (tY l):=λc hc=>of_decide_eq_true (D9.mp h3 c hc)
 have hn:tY l≠[]:=λz=>by rw[z]at h1;simp at h1
 unfold Kl
 by_cases c:l.head?=some 45
 ·obtain⟨t,rfl⟩:∃t,l=45::t:=by
   cases l with
   | nil=>cases c
   | cons a t=>cases c;exact⟨t,rfl⟩
  have e:tY (45::t)=t:=by unfold tY;rw[if_pos c];rfl
  rw[e]at hd hn ⊢
  rw[if_neg (λz=>by have:=congrArg W9 z;simp at this),PySem.intText_neg (x:=sS (45::t)) (cs:=t) rfl hd hn (by rw[iU];omega)]
 ·have e:tY l=l:=by unfold tY;rw[if_neg c]
  rw[e]at hd hn ⊢
  rw[if_pos rfl,PySem.intText_digits (x:=sS l) hd hn (by rw[iU];omega)]
  rfl
theorem jZ{f:FE}{e:DE}{d:D}{T t:String}(h:f e=some d)(ht:xf d=some t)(hT:T∈Py):mF T f e=some (.bl (Ti t T)):=by
 unfold mF
 rw[h]
 show HF T d=_
 unfold HF
 rw[if_pos hT,ht]
 rfl
noncomputable abbrev Ny:FT:=Dl (fQ (fB (mF "str" (aF 0)))) (fQ (fB (bA 1 fJ (aB (aF 0) aG))))
theorem Xu{l:List Nat}(hl:l.length≤5000):Ny (rE [.fro (.str (sS l))])=some (!iW l (tY l)):=
 (PJ (dR (b:=true) (bU (jZ (t := "str") rfl rfl (by decide))))).trans (dR (bU (aX (aC rfl rfl) rfl (JV hl))))
theorem aAo{κ:Nat→Addr}{d:D}(h:Ny (rE [.fro d])=some false):cR κ [d]=none:=by
 unfold cR Sy
 rw[if_pos (show [d].length=1 from rfl)]
 show lB κ [.fro d]=none
 unfold lB Uj
 have h':(Dl (fQ (fB (mF "str" (aF 0)))) (fQ (fB (bA 1 fJ (aB (aF 0) aG))))) (rE [.fro d])=_:=h
 rw[h']
 rfl
theorem um{κ:Nat→Addr}{d:D}(h:Ny (rE [.fro d])=some true):cR κ [d]=some 0:=by
 unfold cR Sy
 rw[if_pos (show [d].length=1 from rfl)]
 show lB κ [.fro d]=some 0
 unfold lB Uj
 have h':(Dl (fQ (fB (mF "str" (aF 0)))) (fQ (fB (bA 1 fJ (aB (aF 0) aG))))) (rE [.fro d])=_:=h
 rw[h']
 rfl
theorem Xv{l:List Nat}(hl:l.length≤100)(h:iW l (tY l)=true):cJ [.str (sS l)]=some (.int (Kl l (tY l))):=by
 refine lW rfl ?_
 unfold wX
 refine zW (Xu (l:=l) (by omega)) (by rw[h];rfl) (Jt ?_)
 refine mQ (fY (aC rfl rfl) ?_)
 show (if(sS l).length≤640 then(S0 (sS l)).map D.int else none)=_
 rw[if_pos (by rw[iU];omega),JW hl h]
 rfl
theorem Ej{L F:List Nat}(h2:F.length≤5000) :
  Qs (λr=>∃d,r=.ret d∧d=if iW L F=true then .int (Kl L F)else .non) ((aQ (jJ (Dl (fB (f2 Zd (fL qH (aB (aF 1) aG)) (fC (.int 1)))) (fB (f2 gn (fL qH (aB (aF 1) aG)) (fC (.int 60))))) (cU (fC .non)) bG)
 (aQ (bD 2 (fC (.int 0)))
 (aQ (uQ [1] 3 (Mv (aF 1)) (aQ (bD 4 (f2 Pz (fC (.str (sS [48,49,50,51,52,53,54,55,56,57]))) (aF 3)))
 (aQ (jJ (fB (f2 Zd (aF 4) (fC (.int 0)))) (cU (fC .non)) bG)
 (bD 2 (f2 cX (f2 yW (aF 2) (fC (.int 10))) (aF 4))))))
 (aQ (jJ (Lz (fB (f2 vN (f2 Ga (aF 1) (fC (.int 0))) (fC (.str (sS [48]))))) (fB (f2 yZ (aF 0) (fC (.str (sS [48])))))) (cU (fC .non)) bG)
 (aQ (jJ (fB (f2 yZ (aF 1) (aF 0))) (cU (nR (aF 2))) bG)
 (mL 2)))))) [.fro (.str (sS L)),.own (.str (sS F)),.no,.no,.no]):=by
 have hlen:=Av F (by omega)
 refine oY (tK (bU (aO (fY (aC rfl rfl) hlen) rfl (mR _ _))) (bU (aO (fY (aC rfl rfl) hlen) rfl (yC _ _)))) (λhb=>?_) (λhb=>jE ?_)
 ·refine pG rfl ⟨_,rfl,?_⟩
  rw[if_neg]
  intro z
  unfold iW at z
  rw[B4,B4]at z
  have z1:=of_decide_eq_true z.1.1
  have z2:=of_decide_eq_true z.1.2
  rw[R3]at hb
  rcases hb with q | q
  ·have:=of_decide_eq_true q;omega
  ·have:=of_decide_eq_true q;omega
 rw[R4]at hb
 have b1:1≤F.length:=by have:=of_decide_eq_false hb.1;omega
 have b2:F.length≤60:=by have:=of_decide_eq_false hb.2;omega
 refine cI rfl (by exact Nat.le_of_ble_eq_true rfl) ?_
 refine Aw (xs:=F.map λc=>D.str ⟨#[c]⟩) (λk env=>∃v3 v4,env=[.fro (.str (sS L)),.fro (.str (sS F)),.own (.int (N3 (F.take k):Int)),v3,v4]∧(F.take k).all oG=true) rfl rfl ⟨_,_,rfl,rfl⟩ ?_ ?_
 ·rintro k x env hx ⟨v3,v4,rfl,hall⟩
  refine⟨by walk_at "lt", ?_⟩
  rw[D5]at hx
  cases qq:F[k]? with
  | none=>rw[qq]at hx;cases hx
  | some c=>
   rw[qq]at hx
   cases hx
   have hk:k<F.length:=(C4.mp qq).1
   have ht:F.take (k+1)=F.take k++[c]:=by rw[S9,qq];rfl
   refine cI (d:=.int (if oG c=true then((c-48:Nat):Int)else -1)) (aO rfl rfl ?_) (by exact Nat.le_of_ble_eq_true rfl) ?_
   ·show some (D.int (Txt.find (sS [48,49,50,51,52,53,54,55,56,57]) (sS [c])))=_
    rw[Xr]
   by_cases hf:oG c=true
   ·rw[if_pos hf]
    refine lA (bU (aO rfl rfl (mR _ _))) (decide_eq_false (by omega)) (jE ?_)
    refine ZX (aO (aO rfl rfl (Js (rm (by decide) (by decide)))) rfl (fG _ _)) (by exact Nat.le_of_ble_eq_true rfl) (.inl ⟨_,rfl,.fro (.str ⟨#[c]⟩),.own (.int ((c-48:Nat):Int)),?_,?_⟩)
    ·rw[ht,PySem.NumText.digitsVal_snoc]
     show [SD.fro (D.str (sS L)),.fro (.str (sS F)),.own (.int ((N3 (F.take k):Int)*10+((c-48:Nat):Int))),_,_]=_
     congr 4
    ·rw[ht,R5,hall]
     simp[hf]
   ·rw[if_neg hf]
    refine PL (bU (aO rfl rfl (mR _ _))) (decide_eq_true (by decide)) (pG rfl (.inr ⟨_,rfl,_,rfl,?_⟩))
    rw[if_neg]
    intro z
    unfold iW at z
    rw[B4,B4,B4]at z
    exact hf (D9.mp z.2.1 c (J0 qq))
 rintro env ⟨v3,v4,rfl,hall⟩
 rw[B3,N2]at hall
 rw[B3,N2]
 obtain⟨c,t,rfl⟩:∃c t,F=c::t:=by
  cases F with
  | nil=>simp at b1
  | cons c t=>exact⟨c,t,rfl⟩
 have hn:iW L (c::t)=(!(c==48)||(L==[48])):=by
  unfold iW
  rw[decide_eq_true b1,decide_eq_true b2,hall]
  show (!((some c:Option Nat)==some 48)||_)=_
  congr 2
 rw[hn]
 refine oY (Qg (bU (aO (aO rfl rfl (Hi (c:=c) (by decide) rfl (by omega))) rfl (Hg _ _))) (bU (aO rfl rfl (Hh _ _)))) (λhb=>?_) (λhb=>jE ?_)
 ·refine pG rfl ⟨_,rfl,?_⟩
  rw[nJ,nJ,B4]at hb
  have e1:(c==48)=true:=by
   have:=beq_iff_eq.mp hb.1
   cases this
   rfl
  rw[if_neg]
  rw[e1]
  have:=hb.2
  rw[K7]at this
  rw[this]
  decide
 rw[nJ,nJ,Q7]at hb
 have hy:(!(c==48)||(L==[48]))=true:=by
  rw[R3]
  rcases hb with z | z
  ·left
   rw[K7,beq_eq_false_iff_ne]
   intro y
   rw[y]at z
   simp at z
  ·right
   rw[M9]at z
   exact z
 rw[if_pos hy]
 unfold Kl
 refine oY (bU (aO rfl rfl (Hh _ _))) (λhb=>?_) (λhb=>jE ?_)
 ·rw[nJ,K7,beq_eq_false_iff_ne]at hb
  rw[if_neg hb]
  exact pG (oX rfl) ⟨_,rfl,rfl⟩
 ·rw[nJ,M9,beq_iff_eq]at hb
  rw[if_pos hb]
  exact wA rfl ⟨_,rfl,rfl⟩
theorem JX{l:List Nat}(hl:l.length≤5000):lZ [.str (sS l)]=some (if iW l (tY l)=true then .int (Kl l (tY l))else .non):=by
 suffices hh:∃d,lZ [.str (sS l)]=some d∧d=if iW l (tY l)=true then .int (Kl l (tY l))else .non by
  obtain⟨d,h1,rfl⟩:=hh
  exact h1
 have hf:=Qo l
 refine lE rfl ?_
 unfold Ai
 rw[uf,ug,uh]
 refine cI (xZ rfl rfl) (by exact Nat.le_of_ble_eq_true rfl) ?_
 have hc:=lM (f:=aF 0) (fl:=fU) (fh:=dI (fC (.int 1))) (e:=rE [.fro (.str (sS l)),.own (.str (sS l)),.no,.no,.no]) (l:=l) rfl rfl (fH rfl) (yI (by decide) hl)
 rw[Tw]at hc
 refine oY (bU (aO hc rfl (Hg _ _))) (λhb=>?_) (λhb=>jE ?_)
 ·rw[nJ,beq_iff_eq]at hb
  obtain⟨t,rfl⟩:∃t,l=45::t:=by
   cases l with
   | nil=>cases hb
   | cons a t=>cases hb;exact⟨t,rfl⟩
  have e:tY (45::t)=t:=by unfold tY;rw[if_pos (show (45::t).head?=some 45 from rfl)];rfl
  rw[e]at hf ⊢
  refine cI (d:=.str (sS t)) ?_ (by exact Nat.le_of_ble_eq_true rfl) (Ej (by omega))
  refine(lM rfl (fH rfl) rfl (oH (by decide) hl)).trans ?_
  rw[Qq]
 ·rw[nJ,beq_eq_false_iff_ne]at hb
  have e:tY l=l:=by
   unfold tY
   rw[if_neg]
   intro z
   cases l with
   | nil=>cases z
   | cons a t=>cases z;exact hb rfl
  rw[e]at hf ⊢
  exact Ej (by omega)
theorem uo{sub:Gi}{n nj j i:Nat}{g:GS}(h1:i<n)(h2:j<nj)(h:sub i j=true):sO sub n nj ((j,g)::[]) i=g:=by
 unfold sO
 rw[if_pos ⟨h1,h2⟩,if_pos h]
theorem az{z:GZ}{g g2:GS}{sub:Gi}{n nj:Nat}{hs:Nat→List (Nat×GS)}{env:EN}{Pr:SR→Prop}(h:z env=none)(k:Qs Pr (aQ g g2 env)):Qs Pr (aQ (Bv z g sub n nj hs) g2 env):=by
 have e:Bv z g sub n nj hs env=g env:=by unfold Bv;rw[h]
 unfold aQ at k ⊢
 rw[e]
 exact k
theorem bc{z:GZ}{g g2 gh:GS}{sub:Gi}{n nj i:Nat}{hs:Nat→List (Nat×GS)}{env:EN}{Pr:SR→Prop}(h:z env=some i)(hp:sO sub n nj (hs i) i=gh)(k:Qs Pr (aQ gh g2 env)):Qs Pr (aQ (Bv z g sub n nj hs) g2 env):=by
 have e:Bv z g sub n nj hs env=gh env:=by unfold Bv;rw[h];show sO sub n nj (hs i) i env=_;rw[hp]
 unfold aQ at k ⊢
 rw[e]
 exact k
theorem aAp{g g2:GS}{k:Nat}{env env':EN}{Pr:SR→Prop}(h1:k<env.length)(h:g (env.set k .no)=.next env')(h2:k<env'.length)(kk:Qs Pr (g2 (env'.set k .no))):Qs Pr (aQ (gw k g) g2 env):=by
 have e:gw k g env=.next (env'.set k .no):=by unfold gw;rw[if_pos h1,h];dsimp only;rw[if_pos h2]
 rw[gR e]
 exact kk
abbrev aBv:D:=.lst [.bl true,.bl true,.bl false,.bl false,.bl false]
theorem Xw(i:Int):rG [.int i]=some (.bl true):=by
 refine lW rfl ?_
 unfold Ef
 apply mQ
 exact JF (jZ (t := "int") rfl rfl (by decide)) (Xe (b:=false) (jZ (t := "int") rfl rfl (by decide)))
theorem Xx(ns:List Int):nZ [dTup ns,dTup ns]=some (.bl true):=by
 suffices h:∃d,nZ [dTup ns,dTup ns]=some d∧d=.bl true by
  obtain⟨d,h1,rfl⟩:=h
  exact h1
 refine lE rfl ?_
 unfold Eg
 have hlen:cO [dTup ns]=some (.int ns.length):=by unfold dTup;rw[qN,B3]
 apply lA
 ·apply tK
  ·exact dR (bU (b:=true) (jZ (t := "tuple") rfl rfl (by decide)))
  ·walk_at "et"
 ·rw[decide_eq_true rfl];rfl
 apply jE
 refine Xl (xs:=ns.map D.int) (pH:=[.fro (dTup ns),.fro (dTup ns),.no]) (λn env=>∃v,env=[.fro (dTup ns),.fro (dTup ns),v]) rfl (Xf rfl) ⟨_,rfl⟩ ?_ ?_
 ·rintro k x env hx ⟨v,rfl⟩
  rw[D5]at hx
  cases q:ns[k]? with
  | none=>rw[q]at hx;cases hx
  | some z=>
   rw[q]at hx
   cases hx
   have hw:=Xw z
   refine⟨by walk_at "lt", ?_⟩
   apply Xj
   ·walk_at "et"
   ·rfl
   exact⟨_,rfl,_,rfl⟩
 ·rintro env' ⟨v,rfl⟩
  apply qO
  ·exact aO rfl rfl (JG ns ns)
  ·exact⟨_,rfl,by rw[decide_eq_true rfl]⟩
def fZ(p:List (List Int)):D:=.lst (p.map dTup)
def aZ(s:List (List (List Int))):D:=.lst (s.map fZ)
theorem Ax{s:List (List (List Int))}{k:Nat}{p:List (List Int)}(h:s[k]?=some p):sH (aZ s) (.int k)=some (fZ p):=by
 unfold aZ
 exact jY (by omega) (by rw[N0,D5,h];rfl)
theorem Qi{p:List (List Int)}{k:Nat}{t:List Int}(h:p[k]?=some t):sH (fZ p) (.int k)=some (dTup t):=by
 unfold fZ
 exact jY (by omega) (by rw[N0,D5,h];rfl)
theorem wN(s:List (List (List Int))):cO [aZ s]=some (.int s.length):=by unfold aZ;rw[zR,B3]
theorem qY(p:List (List Int)):cO [fZ p]=some (.int p.length):=by unfold fZ;rw[zR,B3]
theorem Xy(s:List (List (List Int)))(hs:s.length≤1000)(hp:∀p∈s,p.length≤1000):lN [aZ s,aZ s]=some (.bl true):=by
 suffices h:∃d,lN [aZ s,aZ s]=some d∧d=.bl true by
  obtain⟨d,h1,rfl⟩:=h
  exact h1
 refine lE rfl ?_
 unfold Eh
 have hlen:=wN s
 apply lA
 ·apply tK
  ·exact dR (bU (b:=true) (jZ (t := "list") rfl rfl (by decide)))
  ·walk_at "et"
 ·rw[decide_eq_true rfl];rfl
 apply jE
 refine Qh (n:=s.length) (λn env=>∃v2 v3,env=[.fro (aZ s),.fro (aZ s),v2,v3]) (yF (aC (fY (aC rfl rfl) hlen) rfl) (by omega)) ⟨_,_,rfl⟩ ?_ ?_
 ·rintro k env hk ⟨v2,v3,rfl⟩
  refine⟨by walk_at "lt", ?_⟩
  have ep:s[k]?=some s[k]:=B6 hk
  have ix:=Ax ep
  have lp:=qY s[k]
  have hpl:=hp _ (X4 hk)
  apply lA
  ·apply tK
   ·exact dR (bU (b:=true) (jZ (t := "list") (aO rfl rfl ix) rfl (by decide)))
   ·walk_at "et"
  ·rw[decide_eq_true rfl];rfl
  apply jE
  refine Xk (n:=s[k].length) (λn env=>∃v3,env=[.fro (aZ s),.fro (aZ s),.fro (.int k),v3]) (yF (aC (fY (aC (aO rfl rfl ix) rfl) lp) rfl) (by omega)) ⟨_,rfl⟩ ?_ ?_
  ·rintro j env hj ⟨v3,rfl⟩
   refine⟨by walk_at "lt", ?_⟩
   have et:s[k][j]?=some s[k][j]:=B6 hj
   have ixt:=Qi et
   have ht:=Xx s[k][j]
   apply Xj
   ·walk_at "et"
   ·rfl
   exact⟨_,rfl,_,rfl⟩
  ·rintro env' ⟨v3,rfl⟩
   exact⟨_,rfl,_,_,rfl⟩
 ·rintro env' ⟨v2,v3,rfl⟩
  apply qO
  ·walk_at "ev"
  ·exact⟨_,rfl,rfl⟩
def jn(c:Nat):List (List Nat)→List Nat
 | []=>[]
 | [x]=>x
 | x::y::r=>x++c::jn c (y::r)
def jr(c:Nat):List (List Nat)→List Nat
 | []=>[]
 | y::r=>c::jn c (y::r)
theorem Qt(c:Nat):∀l:List (List Nat),Str.join (sS [c]) (l.map sS)=sS (jn c l)
 | []=>rfl
 | [x]=>rfl
 | x::y::r=>by
  show sS x++sS [c]++Str.join (sS [c]) ((y::r).map sS)=_
  rw[Qt c (y::r),Nv,Nv,W6]
  rfl
def wt:List (List Nat)→Nat
 | []=>0
 | x::r=>x.length+1+wt r
theorem Qu:∀(l:List (List Nat))(a:Nat),(l.map sS).foldl (λn s=>n+s.length+1) a=a+wt l
 | [],a=>rfl
 | x::r,a=>by
  rw[D7,Y0,Qu r,iU]
  show _=a+(x.length+1+wt r)
  omega
theorem Ub{c:Nat}{l:List (List Nat)}(h:wt l≤100000):JoinOk (sS [c]) (l.map sS)=true:=by
 have e:(l.map sS).toArray.foldl (λn s=>n+s.length+(sS [c]).length) 0=wt l:=by
  rw[List.foldl_toArray]
  exact(Qu l 0).trans (by omega)
 show (!Builtin.Str.tooLong ((l.map sS).toArray.foldl (λn s=>n+s.length+(sS [c]).length) 0))=true
 rw[e]
 unfold Builtin.Str.tooLong
 rw[decide_eq_false (by have:=jB h;omega)]
 rfl
theorem Hq(c:Nat):∀l:List (List Nat),(jn c l).length≤wt l
 | []=>D2 _
 | [x]=>by show x.length≤x.length+1+0;omega
 | x::y::r=>by
  have:=Hq c (y::r)
  show (x++c::jn c (y::r)).length≤x.length+1+wt (y::r)
  rw[C6,G8]
  omega
theorem Xz{α:Type}{f:α→List Nat}{n:Nat}:∀{l:List α},(∀x∈l,(f x).length≤n)→wt (l.map f)≤l.length*(n+1)
 | [],_=>O1 _
 | x::r,h=>by
  have h1:=h x D1
  have h2:=Xz (f:=f) (n:=n) (l:=r) λy hy=>h y (C5 _ hy)
  rw[D7,G8,Nat.add_mul]
  show (f x).length+1+wt (r.map f)≤_
  omega
def dG(l:List (List Nat)):D:=.lst (l.map λx=>D.str (sS x))
theorem Yb(l:List (List Nat)):(l.map λx=>D.str (sS x))=(l.map sS).map D.str:=by rw[M8];rfl
theorem Ay{c:Nat}{l:List (List Nat)}(h:wt l≤100000):Dr (.str (sS [c])) (dG l)=some (.str (sS (jn c l))):=by
 show (strsOf (l.map λx=>D.str (sS x))).bind (λxs=>if JoinOk (sS [c]) xs=true then some (D.str (Txt.join (sS [c]) xs))else none)=_
 rw[Yb,zH,C8,if_pos (Ub h)]
 show some (D.str (Builtin.Str.glued (sS [c]) (l.map sS)))=_
 rw[StrLaws.glued_eq_join,Qt]
theorem bf{env:EN}{i:Nat}{π:FP}{f g:FE}{d0:D}{p:List L2.Step}{ns:List Int}{k y:Int}(h1:env[i]?=some (.own d0))(h2:π (rE env)=some p)(h3:qF p d0=some (aW ns))(h4:f (rE env)=some (.int k))(h5:g (rE env)=some (.int y))(k0:0≤k)(k1:k≤(ns.length:Int))(hl:ns.length<1000):Ms i π f g env=.next (env.set i (.own (oU p d0 (aW (ns.take k.toNat++y::ns.drop k.toNat))))):=by
 unfold Ms
 rw[h1,h2,h4,h5]
 dsimp only
 rw[h3]
 unfold aW
 dsimp only
 rw[tG]
 dsimp only
 rw[if_pos ⟨k0,by omega,hl⟩]
theorem JZ{env:EN}{i:Nat}{π:FP}{g:FE}{d0:D}{p:List L2.Step}{ns:List Int}{k:Int}(h1:env[i]?=some (.own d0))(h2:π (rE env)=some p)(h3:qF p d0=some (aW ns))(h5:g (rE env)=some (.int k))(k0:0≤k)(k1:k.toNat<ns.length)(hl:ns.length<1000):zF i π g env=.next (env.set i (.own (oU p d0 (aW (ns.eraseIdx k.toNat))))):=by
 unfold zF
 rw[h1,h2,h5]
 dsimp only
 rw[h3]
 unfold aW
 dsimp only
 rw[tG]
 dsimp only
 rw[if_pos ⟨k0,k1,hl⟩]
theorem Yc{s:L2.Step}{d x:D}{j:Nat}(h1:xM s d=some j)(h2:(kids d)[j]?=some x):qF [s] d=some x:=by unfold qF;rw[h1,C8,h2];rfl
theorem Yd{s:L2.Step}{d x y:D}{j:Nat}(h1:xM s d=some j)(h2:(kids d)[j]?=some y):oU [s] d x=uR d ((kids d).set j x):=by
 show (match xM s d with | some j=>_ | none=>_)=_
 rw[h1]
 show (match (kids d)[j]? with | some c=>_ | none=>_)=_
 rw[h2]
 rfl
theorem Nz{x:D}{xs:List D}{k:Nat}(h:xs[k]?=some x):qF [.ix k] (.lst xs)=some x:=Yc (s:=.ix k) (d:=.lst xs) (j:=k) rfl h
theorem Oa{x:D}{xs:List D}{k:Nat}{y:D}(h:xs[k]?=some y):oU [.ix k] (.lst xs) x=.lst (xs.set k x):=Yd (s:=.ix k) (d:=.lst xs) (j:=k) rfl h
theorem bh{π:FP}{g:FE}{e:DE}{p:List L2.Step}{k:Int}(h1:π e=some p)(h2:g e=some (.int k))(h3:0≤k):Uh π g e=some (p++[.ix k.toNat]):=by
 unfold Uh
 rw[h1,C8,h2,C8]
 dsimp only
 rw[if_pos h3]
theorem jW{fi:FA}{fr:List Nat}{fe:FE}{e:DE}{α:Type}{xs:List α}{ψ φ:α→D}(h1:fi e=some (xs.map ψ))(hn:xs.length≤100000)(he:∀x∈xs,fe (some (ψ x)::iD e fr)=some (φ x)):cV fi fr dW fe e=some (.lst (xs.map φ)):=by
 refine zT h1 (by rw[B3];omega) ?_
 clear h1 hn
 induction xs with
 | nil=>rw[J7,J7];unfold mK;rfl
 | cons x xs ih=>
  rw[D7]
  unfold mK
  show (some true).bind _=_
  rw[C8,if_pos rfl,he x D1,C8,ih λy hy=>he y (C5 _ hy)]
  rfl
theorem Az{fi:FA}{fr:List Nat}{fe:FE}{fz:DE→Option Nat}{env:EN}{α:Type}{xs:List α}{ψ φ:α→D}(ok:α→Bool)(h1:fi (rE env)=some (xs.map ψ))(hn:xs.length≤100000)(hy:∀x∈xs,ok x=true→fe (some (ψ x)::iD (rE env) fr)=some (φ x)∧fz (some (ψ x)::iD (rE env) fr)=none)(hz:∀x∈xs,ok x=false→fz (some (ψ x)::iD (rE env) fr)=some 0):qL fi fr fe fz env=if xs.all ok=true then none else some 0:=by
 unfold qL
 rw[h1,C8,if_pos (by rw[B3];exact hn)]
 clear h1 hn
 induction xs with
 | nil=>unfold zO;rfl
 | cons x xs ih=>
  have ih:=ih (λy hy'=>hy y (C5 _ hy')) λy hy'=>hz y (C5 _ hy')
  rw[D7,K3]
  unfold zO
  cases q:ok x with
  | true=>
   obtain⟨a,b⟩:=hy x D1 q
   rw[b]
   dsimp only
   rw[a,C8,ih,G0]
  | false=>
   rw[hz x D1 q]
   rfl
theorem Qv{z1 z2:GZ}{env:EN}{i:Nat}(h:z1 env=some i):Ze z1 z2 env=some i:=by unfold Ze;rw[h]
theorem wZ{z1 z2:GZ}{env:EN}(h:z1 env=none):Ze z1 z2 env=z2 env:=by unfold Ze;rw[h]
theorem kE{g:GS}{z:GZ}{env env':EN}(h:g env=.next env'):uV g z env=z env':=by unfold uV;rw[h]
theorem Ye{c:FT}{z1 z2:GZ}{env:EN}(h:c (rE env)=some true):Uj c z1 z2 env=z1 env:=by unfold Uj;rw[h]
theorem Qw{c:FT}{z1 z2:GZ}{env:EN}(h:c (rE env)=some false):Uj c z1 z2 env=z2 env:=by unfold Uj;rw[h]
theorem Hr{n m:Nat}{z:GZ}{ds:List D}(h:ds.length=m):Sy n m z ds=z (ds.map SD.fro++B9 (n-m) SD.no):=by unfold Sy;rw[if_pos h]
def iK(c:Nat)(l:List Nat):List (List Nat):=(Txt.split (sS l) (sS [c])).map λs=>s.cps.toList
theorem Yg:("," : Str)=sS [44]:=vH ","
theorem Yh:(" " : Str)=sS [32]:=vH " "
theorem Yi:(";" : Str)=sS [59]:=vH ";"
theorem qZ{c:Nat}{l:List Nat}(h:l.length≤5000):dJ (.str (sS l)) (.str (sS [c]))=some (dG (iK c l)):=by
 show (if((sS [c]).length==0)=false∧(sS l).length≤90000 then some (D.lst ((Txt.split (sS l) (sS [c])).map D.str))else none)=_
 rw[if_pos ⟨rfl,by rw[iU];omega⟩]
 unfold dG iK
 rw[M8]
 exact congrArg (λx=>some (D.lst x)) (R8 λs _=>congrArg D.str (Nx s))
theorem Hs(c:Nat)(l:List Nat):1≤(iK c l).length:=by
 unfold iK
 rw[B3]
 exact PyProof.Rows.split_pos _ _
theorem mZ{c:Nat}{l:List Nat}(h:l.length≤5000):(iK c l).length≤5002:=by
 unfold iK
 rw[B3]
 have:=U8 (sS l) (sS [c])
 rw[iU]at this
 omega
theorem fO{c:Nat}{l x:List Nat}(h:x∈iK c l):x.length≤l.length:=by
 obtain⟨s,hs,rfl⟩:=M7.mp h
 have:=PyProof.Rows.part_short hs
 rw[iU]at this
 rw[K8]
 exact this
theorem KC{l:List Nat}(h:iW l (tY l)=true):l.length≤61:=by
 unfold iW at h
 rw[B4,B4]at h
 have h2:=of_decide_eq_true h.1.2
 unfold tY at h2
 split at h2
 ·rw[X7]at h2;omega
 ·omega
abbrev Qx(x:List Nat):Bool:=iW x (tY x)
abbrev nV(x:List Nat):Int:=Kl x (tY x)
def Ba(m:Nat)(l:List Nat):Bool:=(iK 44 l).all Qx&&((iK 44 l).length==m)
def Bg(l:List Nat):List Int:=(iK 44 l).map nV
def Bb(l:List Nat):Bool:=(iK 32 l).dropLast.all (Ba 5)&&Ba 1 ((iK 32 l).getLastD [])
def Kv(l:List Nat):List (List Int):=(iK 32 l).map Bg
def Bc(s:List (List (List Int))):Bool:=decide (s.length≤8)&&((decide (2≤(s.getD 0 []).length)&&decide ((s.getD 0 []).length≤9))&&s.all λq=>decide (q.length=(s.getD 0 []).length))
def pK(l:List Nat):List (List (List Int)):=(iK 59 l).map Kv
def Ht(l:List Nat):Bool:=(iK 59 l).all Bb&&Bc (pK l)
theorem Qy{κ:Nat→Addr}{x:List Nat}(hl:x.length≤5000):(Qx x=true→cJ [.str (sS x)]=some (.int (nV x))∧cR κ [.str (sS x)]=none)∧(Qx x=false→cR κ [.str (sS x)]=some 0):=by
 have h:=Xu hl
 refine⟨λq=>⟨Xv (by have:=KC q;omega) q,aAo ?_⟩,λq=>um ?_⟩
 ·rw[h,show iW x (tY x)=true from q];rfl
 ·rw[h,show iW x (tY x)=false from q];rfl
theorem PN{l:List Nat}{env:EN}(hl:l.length≤5000)(h0:(rE env)[0]?=some (some (.str (sS l))))(ha:(iK 44 l).all Qx=true):cV (eQ (f2 dJ (aF 0) (fC (.str (sS [44]))))) [] dW (bA 1 cJ (aB (aF 0) aG)) (rE env)=some (aW (Bg l)):=by
 have:=mZ (c:=44) hl
 have hc:=jW (fi:=eQ (f2 dJ (aF 0) (fC (.str (sS [44]))))) (fr:=[]) (fe:=bA 1 cJ (aB (aF 0) aG)) (e:=rE env) (xs:=iK 44 l) (ψ:=λx=>D.str (sS x)) (φ:=λx=>D.int (nV x)) (dY (aO (jD h0) rfl (qZ hl))) (by omega) λx hx=>aX (aC rfl rfl) rfl ((Qy (κ:=λ_=>0) (by have:=fO hx;omega)).1 (D9.mp ha x hx)).1
 rw[hc]
 unfold aW Bg
 rw[M8]
 rfl
theorem rP{κ:Nat→Addr}{l:List Nat}{m:Nat}(hl:l.length≤5000):(Ba m l=true→cW [.str (sS l),.int m]=some (dTup (Bg l))∧bZ κ [.str (sS l),.int m]=none)∧(Ba m l=false→bZ κ [.str (sS l),.int m]=some 0):=by
 have hsl:=mZ (c:=44) hl
 have hlt:(Bg l).length=(iK 44 l).length:=B3 _
 have hZ:qL (eQ (f2 dJ (aF 0) (fC (.str (sS [44]))))) [] (bA 1 cJ (aB (aF 0) aG)) (nF (cR κ) (aB (aF 0) aG)) [.fro (.str (sS l)),.fro (.int m),.no]=if(iK 44 l).all Qx=true then none else some 0:=
  Az (ψ:=λx=>D.str (sS x)) (φ:=λx=>D.int (nV x)) Qx (dY (aO rfl rfl (qZ hl))) (by omega) (λx hx q=>⟨aX (aC rfl rfl) rfl ((Qy (κ:=κ) (by have:=fO hx;omega)).1 q).1,((Qy (κ:=κ) (by have:=fO hx;omega)).1 q).2⟩) λx hx q=>(Qy (κ:=κ) (by have:=fO hx;omega)).2 q
 have eR:bZ κ [.str (sS l),.int m]=oZ κ [.fro (.str (sS l)),.fro (.int m),.no]:=Hr rfl
 have hT:∀{e:DE},e[1]?=some (some (.int (m:Int)))→e[2]?=some (some (aW (Bg l)))→fB (f2 yZ (fL cO (aB (aF 2) aG)) (aF 1)) e=some (!((iK 44 l).length==m)):=λe1 e2=>(bU (aO (fY (aC (jD e2) rfl) (Dy _)) (jD e1) (Qf _ _))).trans (by
  rw[hlt]
  congr 2
  rw[F7,decide_eq_true_iff,beq_iff_eq]
  omega)
 constructor
 ·intro h
  unfold Ba at h
  rw[B4]at h
  have hC:=PN (env:=[.fro (.str (sS l)),.fro (.int m),.no]) hl rfl h.1
  have hT:=hT (e:=rE [.fro (.str (sS l)),.fro (.int m),.own (aW (Bg l))]) rfl rfl
  rw[h.2]at hT
  constructor
  ·refine lW rfl ?_
   unfold Ae
   rw[Yg]
   refine nG hC (by exact Nat.le_of_ble_eq_true rfl) ?_
   exact zW hT rfl (Jt (mQ (fY (aC rfl rfl) (wW _))))
  ·rw[eR]
   unfold oZ
   rw[Yg]
   rw[if_pos h.1]at hZ
   rw[wZ hZ,kE (jC hC (by exact Nat.le_of_ble_eq_true rfl))]
   exact Qw hT
 ·intro h
  rw[eR]
  unfold oZ
  rw[Yg]
  cases ha:(iK 44 l).all Qx with
  | false=>
   rw[if_neg (by rw[ha];exact B8)]at hZ
   exact Qv hZ
  | true=>
   unfold Ba at h
   rw[ha,G0]at h
   have hC:=PN (env:=[.fro (.str (sS l)),.fro (.int m),.no]) hl rfl ha
   have hT:=hT (e:=rE [.fro (.str (sS l)),.fro (.int m),.own (aW (Bg l))]) rfl rfl
   rw[h]at hT
   rw[if_pos ha]at hZ
   rw[wZ hZ,kE (jC hC (by exact Nat.le_of_ble_eq_true rfl))]
   exact(Ye hT).trans rfl
theorem PQ{l:List Nat}:(iK 32 l)=(iK 32 l).dropLast++[(iK 32 l).getLastD []]:=by
 have hp:=Hs 32 l
 have hn:iK 32 l≠[]:=λz=>by rw[z]at hp;cases hp
 rw[List.getLastD_eq_getLast?,List.getLast?_eq_some_getLast hn]
 exact(List.dropLast_concat_getLast hn).symm
theorem Hu{κ:Nat→Addr}{l:List Nat}(hl:l.length≤5000):(Bb l=true→fK [.str (sS l)]=some (fZ (Kv l))∧jQ κ [.str (sS l)]=none)∧(Bb l=false→jQ κ [.str (sS l)]=some 0):=by
 have hsl:=mZ (c:=32) hl
 have hpl:=PQ (l:=l)
 have hsh:∀x∈iK 32 l,x.length≤5000:=λx hx=>F0 (fO hx) hl
 unfold Bb
 unfold Kv
 have hsp:=qZ (c:=32) hl
 generalize hws:iK 32 l=ws at *
 generalize ws.dropLast=ds at *
 generalize ws.getLastD []=z at *
 subst hpl
 rw[C6,D8]at hsl
 have hz:z.length≤5000:=hsh z (C9 _ (F6.mpr rfl))
 have hd:∀x∈ds,x.length≤5000:=λx hx=>hsh x (I0 _ hx)
 have ew:dG (ds++[z])=.lst ((ds.map λt=>D.str (sS t))++[D.str (sS z)]):=by
  unfold dG
  rw[G5]
  rfl
 have uq:∀{e:DE},e[1]?=some (some (dG (ds++[z])))→eQ (Ug false (aF 1) (fU) (dI (nR (fC (.int 1))))) e=some (ds.map λt=>D.str (sS t)):=λe1=>by
  refine(dY (ZZ (jD (e1.trans (by rw[ew]))) rfl (fH (oX rfl)) (.inl rfl))).trans ?_
  rw[Jx,List.dropLast_concat]
 have five:∀{e:DE} {d:D},e[0]?=some (some d)→(aB (aF 0) (aB (fL cO (aB (fC (dTup [0,0,-1,-1,0])) aG)) aG)) e=some [d,.int ((5:Nat):Int)]:=λe0=>aC (jD e0) (aC (fY (aC rfl rfl) (qN _)) rfl)
 have one:∀{e:DE},e[1]?=some (some (dG (ds++[z])))→(aB (f2 sH (aF 1) (nR (fC (.int 1)))) (aB (fL cO (aB (fC (dTup [0])) aG)) aG)) e=some [.str (sS z),.int ((1:Nat):Int)]:=λe1=>aC (aO (jD (e1.trans (by rw[ew]))) (oX rfl) (JK (by rw[List.getLast?_append];rfl))) (aC (fY (aC rfl rfl) (qN _)) rfl)
 have hC:∀{env:EN},(rE env)[1]?=some (some (dG (ds++[z])))→ds.all (Ba 5)=true→cV (eQ (Ug false (aF 1) (fU) (dI (nR (fC (.int 1)))))) [] dW (bA 2 cW (aB (aF 0) (aB (fL cO (aB (fC (dTup [0,0,-1,-1,0])) aG)) aG))) (rE env)=some (fZ (ds.map Bg)):=λ{env} e1 ha=>by
  have hc:=jW (fi:=eQ (Ug false (aF 1) (fU) (dI (nR (fC (.int 1)))))) (fr:=[]) (fe:=bA 2 cW (aB (aF 0) (aB (fL cO (aB (fC (dTup [0,0,-1,-1,0])) aG)) aG))) (e:=rE env) (xs:=ds) (ψ:=λx=>D.str (sS x)) (φ:=λx=>dTup (Bg x)) (uq e1) (by omega) λx hx=>aX (five rfl) rfl ((rP (κ:=κ) (hd x hx)).1 (D9.mp ha x hx)).1
  rw[hc]
  unfold fZ
  rw[M8]
  rfl
 have hZ:∀{env:EN},(rE env)[1]?=some (some (dG (ds++[z])))→qL (eQ (Ug false (aF 1) (fU) (dI (nR (fC (.int 1)))))) [] (bA 2 cW (aB (aF 0) (aB (fL cO (aB (fC (dTup [0,0,-1,-1,0])) aG)) aG))) (nF (bZ κ) (aB (aF 0) (aB (fL cO (aB (fC (dTup [0,0,-1,-1,0])) aG)) aG))) env=if ds.all (Ba 5)=true then none else some 0:=λ{env} e1=>
  Az (ψ:=λx=>D.str (sS x)) (φ:=λx=>dTup (Bg x)) (Ba 5) (uq e1) (by omega) (λx hx q=>⟨aX (five rfl) rfl ((rP (κ:=κ) (hd x hx)).1 q).1,by
   show ((aB (aF 0) (aB (fL cO (aB (fC (dTup [0,0,-1,-1,0])) aG)) aG)) _).bind (bZ κ)=none
   rw[five rfl]
   exact((rP (κ:=κ) (hd x hx)).1 q).2⟩) λx hx q=>by
   show ((aB (aF 0) (aB (fL cO (aB (fC (dTup [0,0,-1,-1,0])) aG)) aG)) _).bind (bZ κ)=some 0
   rw[five rfl]
   exact(rP (κ:=κ) (hd x hx)).2 q
 have eR:jQ κ [.str (sS l)]=rH κ [.fro (.str (sS l)),.no,.no]:=Hr rfl
 have hX:∀{o:Option Nat},bZ κ [.str (sS z),.int ((1:Nat):Int)]=o→zX (Wz (aF 2) (nF (bZ κ) (aB (f2 sH (aF 1) (nR (fC (.int 1)))) (aB (fL cO (aB (fC (dTup [0])) aG)) aG)))) [.fro (.str (sS l)),.own (dG (ds++[z])),.own (fZ (ds.map Bg))]=o:=λ{o} h=>by
  show ((aB (f2 sH (aF 1) (nR (fC (.int 1)))) (aB (fL cO (aB (fC (dTup [0])) aG)) aG)) _).bind (bZ κ)=o
  rw[one rfl]
  exact h
 have Ob:=jC (i:=1) (f:=f2 dJ (aF 0) (fC (.str (sS [32])))) (env:=[.fro (.str (sS l)),.no,.no]) (aO rfl rfl hsp) (by exact Nat.le_of_ble_eq_true rfl)
 have e1:∀{v:SD},(rE [.fro (.str (sS l)),.own (dG (ds++[z])),v])[1]?=some (some (dG (ds++[z]))):=rfl
 constructor
 ·intro h
  rw[B4]at h
  have hC:=hC (env:=[.fro (.str (sS l)),.own (dG (ds++[z])),.no]) e1 h.1
  have hZ:=hZ (env:=[.fro (.str (sS l)),.own (dG (ds++[z])),.no]) e1
  rw[if_pos h.1]at hZ
  have hl1:=(rP (κ:=κ) hz).1 h.2
  constructor
  ·refine lW rfl ?_
   unfold Ed
   rw[Yh]
   refine sr Ob (nG hC (by exact Nat.le_of_ble_eq_true rfl) ?_)
   refine mQ ((aO rfl (b:=.lst [dTup (Bg z)]) (bQ (aC (aX (one rfl) rfl hl1.1) rfl) (by show 1≤_;decide)) (rD ?_ ?_)).trans ?_)
   ·refine Xh λd hd=>?_
    rcases L8.mp hd with q | q
    ·obtain⟨t,_,rfl⟩:=M7.mp q
     exact Jv t
    ·rw[F6.mp q]
     exact Jv _
   ·rw[B3,B3,D8];omega
   ·unfold fZ
    rw[G5,G5]
    rfl
  ·rw[eR]
   unfold rH
   rw[Yh,kE Ob]
   exact(wZ hZ).trans ((kE (jC hC (by exact Nat.le_of_ble_eq_true rfl))).trans (hX hl1.2))
 ·intro h
  rw[eR]
  unfold rH
  rw[Yh,kE Ob]
  have hZ:=hZ (env:=[.fro (.str (sS l)),.own (dG (ds++[z])),.no]) e1
  cases ha:ds.all (Ba 5)with
  | false=>
   rw[if_neg (by rw[ha];exact B8)]at hZ
   exact Qv hZ
  | true=>
   rw[ha,G0]at h
   rw[if_pos ha]at hZ
   have hC:=hC (env:=[.fro (.str (sS l)),.own (dG (ds++[z])),.no]) e1 ha
   exact(wZ hZ).trans ((kE (jC hC (by exact Nat.le_of_ble_eq_true rfl))).trans (hX ((rP (κ:=κ) hz).2 h)))
theorem KD{f1 f2 f3:FE}{e:DE}{a b c:Int}(h1:f1 e=some (.int a))(h2:f2 e=some (.int b))(h3:f3 e=some (.int c)):FN Oz Oz f1 f2 f3 e=some (.bl (decide (a≤b)&&decide (b≤c))):=by
 unfold FN
 rw[Hj h1 h2 h3]
 rfl
theorem bj{s:List (List (List Int))}(h0:1≤s.length)(h1:s.length≤5002):mV [aZ s]=some (.bl (Bc s)):=by
 suffices hh:∃d,mV [aZ s]=some d∧d=.bl (Bc s) by
  obtain⟨d,h1,rfl⟩:=hh
  exact h1
 refine lE rfl ?_
 unfold Qj Bc
 have e0:s[0]?=some (s.getD 0 []):=zY h0
 have xq:=Ax e0
 generalize s.getD 0 []=q0 at *
 refine oY ((PJ (dR (b:=true) (bU (jZ (t := "list") rfl rfl (by decide))))).trans (dR (Hj (a:=1) (b:=s.length) (c:=8) rfl (fY (aC rfl rfl) (wN s)) rfl))) (λhb=>?_) (λhb=>jE ?_)
 ·refine pG rfl ⟨_,rfl,?_⟩
  rw[decide_eq_true (show (1:Int)≤s.length by omega),G0,K7]at hb
  rw[decide_eq_false (show ¬s.length≤8 by have:=of_decide_eq_false hb;omega),U5]
 rw[decide_eq_true (show (1:Int)≤s.length by omega),G0,M9]at hb
 rw[decide_eq_true (show s.length≤8 by have:=of_decide_eq_true hb;omega),G0]
 have hc1:cV (eQ (aF 0)) [] dW (mF "list" (aF 0)) (rE [.fro (aZ s)])=some (.lst (s.map λq=>D.bl ((λ_=>true) q))):=
  jW (xs:=s) (ψ:=fZ) (φ:=λ_=>D.bl true) (dY rfl) (by omega) λq _=>jZ (t := "list") rfl rfl (by decide)
 refine lA (dR (bU (fY (aC hc1 rfl) (Aa (λ_=>true) s)))) (by simp) (jE ?_)
 have hc2:cV (eQ (aF 0)) [0] dW (f2 vN (fL cO (aB (aF 0) aG)) (fL cO (aB (f2 sH (aF 1) (fC (.int 0))) aG))) (rE [.fro (aZ s)])=some (.lst (s.map λq=>D.bl ((λq=>decide (q.length=q0.length)) q))):=by
  refine jW (xs:=s) (ψ:=fZ) (φ:=λq=>D.bl (decide (q.length=q0.length))) (dY rfl) (by omega) λq hq=>?_
  refine(aO (fY (aC rfl rfl) (qY q)) (fY (aC (aO rfl rfl xq) rfl) (qY _)) (yD _ _)).trans ?_
  congr 2
  rw[decide_eq_decide]
  omega
 refine qO (Ju (KD (a:=2) (c:=9) rfl (fY (aC (aO rfl rfl xq) rfl) (qY _)) rfl) (fY (aC hc2 rfl) (Aa _ s))) ⟨_,rfl,?_⟩
 congr 3
 ·rw[decide_eq_decide];omega
 ·rw[decide_eq_decide];omega
theorem Qz{κ:Nat→Addr}{l:List Nat}(hl:l.length≤5000):(Ht l=true→lY [.str (sS l)]=some (aZ (pK l))∧cA κ [.str (sS l)]=none)∧(Ht l=false→cA κ [.str (sS l)]=some 0):=by
 have hsl:=mZ (c:=59) hl
 have hsp:=Hs 59 l
 have hlt:(pK l).length=(iK 59 l).length:=B3 _
 have hsh:∀x∈iK 59 l,x.length≤5000:=λx hx=>F0 (fO hx) hl
 have hg:=bj (s:=pK l) (by omega) (by omega)
 have Bd:fQ (fB (mF "str" (aF 0))) (rE [.fro (.str (sS l)),.no])=some false:=dR (b:=true) (bU (jZ (t := "str") rfl rfl (by decide)))
 have hC:(iK 59 l).all Bb=true→cV (eQ (f2 dJ (aF 0) (fC (.str (sS [59]))))) [] dW (bA 1 fK (aB (aF 0) aG)) (rE [.fro (.str (sS l)),.no])=some (aZ (pK l)):=λha=>by
  have hc:=jW (fi:=eQ (f2 dJ (aF 0) (fC (.str (sS [59]))))) (fr:=[]) (fe:=bA 1 fK (aB (aF 0) aG)) (e:=rE [.fro (.str (sS l)),.no]) (xs:=iK 59 l) (ψ:=λx=>D.str (sS x)) (φ:=λx=>fZ (Kv x)) (dY (aO rfl rfl (qZ hl))) (by omega) λx hx=>aX (aC rfl rfl) rfl ((Hu (κ:=κ) (hsh x hx)).1 (D9.mp ha x hx)).1
  rw[hc]
  unfold aZ pK
  rw[M8]
  rfl
 have hZ:qL (eQ (f2 dJ (aF 0) (fC (.str (sS [59]))))) [] (bA 1 fK (aB (aF 0) aG)) (nF (jQ κ) (aB (aF 0) aG)) [.fro (.str (sS l)),.no]=if(iK 59 l).all Bb=true then none else some 0:=
  Az (ψ:=λx=>D.str (sS x)) (φ:=λx=>fZ (Kv x)) Bb (dY (aO rfl rfl (qZ hl))) (by omega) (λx hx q=>⟨aX (aC rfl rfl) rfl ((Hu (κ:=κ) (hsh x hx)).1 q).1,((Hu (κ:=κ) (hsh x hx)).1 q).2⟩) λx hx q=>(Hu (κ:=κ) (hsh x hx)).2 q
 have eR:cA κ [.str (sS l)]=jR κ [.fro (.str (sS l)),.no]:=Hr rfl
 have hT:fQ (fB (bA 1 mV (aB (aF 1) aG))) (rE [.fro (.str (sS l)),.own (aZ (pK l))])=some (!Bc (pK l)):=dR (bU (aX (aC rfl rfl) rfl hg))
 constructor
 ·intro h
  unfold Ht at h
  rw[B4]at h
  have hC:=hC h.1
  rw[if_pos h.1]at hZ
  rw[h.2]at hT
  constructor
  ·refine lW rfl ?_
   unfold Af
   rw[Yi]
   refine zW Bd rfl (Jt (nG hC (by exact Nat.le_of_ble_eq_true rfl) (zW hT rfl (Jt ?_))))
   exact Ea rfl
  ·rw[eR]
   unfold jR
   rw[Yi]
   exact(wZ (Qw Bd)).trans ((kE (nY Bd)).trans ((wZ hZ).trans ((kE (jC hC (by exact Nat.le_of_ble_eq_true rfl))).trans (Qw hT))))
 ·intro h
  rw[eR]
  unfold jR
  rw[Yi]
  refine(wZ (Qw Bd)).trans ((kE (nY Bd)).trans ?_)
  cases ha:(iK 59 l).all Bb with
  | false=>
   rw[if_neg (by rw[ha];exact B8)]at hZ
   exact Qv hZ
  | true=>
   unfold Ht at h
   rw[ha,G0]at h
   rw[if_pos ha]at hZ
   rw[h]at hT
   exact(wZ hZ).trans ((kE (jC (hC ha) (by exact Nat.le_of_ble_eq_true rfl))).trans ((Ye hT).trans rfl))
theorem Ek{κ:Nat→Addr}{d:D}{t:String}(h:xf d=some t)(hs:Ti t "str" = false):cA κ [d]=some 0:=by
 have Bd:fQ (fB (mF "str" (aF 0))) (rE [.fro d,.no])=some true:=by
  refine dR (b:=false) (bU ?_)
  rw[←hs]
  exact jZ rfl h (by decide)
 have eR:cA κ [d]=jR κ [.fro d,.no]:=Hr rfl
 rw[eR]
 unfold jR
 exact Qv ((Ye Bd).trans rfl)
def Km(r:List Nat):Bool:=(iK 32 r).all λw=>(iK 44 w).all Qx
def xN(l:List Nat):Nat:=((pK l).getD 0 []).length
def lens(q:List (List Int)):List Int:=q.map λt=>(t.length:Int)
def want(n:Nat):List Int:=B9 (n-1) 5++[1]
def sV(l:List Nat):Bool:=(iK 59 l).all Km&&(decide ((pK l).length≤8)&&((decide (2≤xN l)&&decide (xN l≤9))&&(pK l).all λq=>decide (lens q=want (xN l))))
theorem Yj{α:Type}{a b:List α}{x y:α}:a++[x]=b++[y]↔a=b∧x=y:=by
 constructor
 ·intro h
  obtain⟨h1,h2⟩:=List.append_inj' h rfl
  exact⟨h1,List.singleton_inj.mp h2⟩
 ·rintro⟨rfl,rfl⟩
  rfl
theorem Yk(r:List Nat):Bb r=(Km r&&decide (lens (Kv r)=want (Kv r).length)):=by
 have hpl:=PQ (l:=r)
 unfold Bb Km Kv lens want
 generalize hws:iK 32 r=ws at *
 generalize ws.dropLast=ds at *
 generalize ws.getLastD []=z at *
 subst hpl
 have hlen:∀w,((Bg w).length:Int)=((iK 44 w).length:Int):=λw=>by unfold Bg;rw[B3]
 rw[M8,B3,G5,List.map_singleton,C6,D8,Nat.add_sub_cancel,F7,B4,B4,decide_eq_true_iff,R5,B4,Yj,List.eq_replicate_iff]
 show _↔_∧(_∧∀b∈_,b=5)∧((Bg z).length:Int)=1
 rw[hlen z]
 unfold Ba
 constructor
 ·rintro⟨h1,h2⟩
  rw[B4]at h2
  refine⟨⟨D9.mpr λw hw=>?_,?_⟩,⟨B3 _,λb hb=>?_⟩,?_⟩
  ·have:=D9.mp h1 w hw
   rw[B4]at this
   exact this.1
  ·rw[K3,h2.1];rfl
  ·obtain⟨w,hw,rfl⟩:=M7.mp hb
   have:=D9.mp h1 w hw
   rw[B4]at this
   have:=beq_iff_eq.mp this.2
   show ((Bg w).length:Int)=5
   rw[hlen w]
   omega
  ·have:=beq_iff_eq.mp h2.2
   omega
 ·rintro⟨⟨h1,h2⟩,⟨_,h3⟩,h4⟩
  refine⟨D9.mpr λw hw=>?_,?_⟩
  ·rw[B4]
   refine⟨D9.mp h1 w hw,beq_iff_eq.mpr ?_⟩
   have:=h3 _ (M7.mpr ⟨w,hw,rfl⟩)
   have:((Bg w).length:Int)=5:=this
   rw[hlen w]at this
   omega
  ·rw[B4]
   rw[K3,List.all_nil,Y8]at h2
   exact⟨h2,beq_iff_eq.mpr (by omega)⟩
theorem Ko{q:List (List Int)}{n:Nat}(h:lens q=want n):q.length=n-1+1:=by
 have:=congrArg W9 h
 unfold lens want at this
 rw[B3,C6,K2,D8]at this
 exact this
theorem bu(l:List Nat):sV l=Ht l:=by
 unfold sV Ht Bc
 show _=((iK 59 l).all Bb&&(decide ((pK l).length≤8)&&((decide (2≤xN l)&&decide (xN l≤9))&&(pK l).all λq=>decide (q.length=xN l))))
 have hm:∀r∈iK 59 l,Kv r∈pK l:=λr hr=>M7.mpr ⟨r,hr,rfl⟩
 generalize xN l=n
 rw[F7]
 simp only[B4,D9,decide_eq_true_eq]
 constructor
 ·rintro⟨h1,h2,⟨h3,h4⟩,h5⟩
  refine⟨λr hr=>?_,h2,⟨h3,h4⟩,λq hq=>?_⟩
  ·have hl:=h5 _ (hm r hr)
   have:=Ko hl
   rw[Yk,B4,decide_eq_true_iff]
   exact⟨h1 r hr,by rw[hl];congr 1;omega⟩
  ·have:=Ko (h5 q hq)
   omega
 ·rintro⟨h1,h2,⟨h3,h4⟩,h5⟩
  refine⟨λr hr=>?_,h2,⟨h3,h4⟩,λq hq=>?_⟩
  ·have:=h1 r hr
   rw[Yk,B4]at this
   exact this.1
  ·obtain⟨r,hr,rfl⟩:=M7.mp hq
   have:=h1 r hr
   rw[Yk,B4,decide_eq_true_iff]at this
   rw[this.2,h5 _ hq]
def nD(x:List Nat):D:=if Qx x=true then .int (nV x)else .non
theorem bw{ws:List (List Nat)}(h:ws.all Qx=true):ws.map nD=(ws.map nV).map D.int:=by
 rw[M8]
 refine R8 λx hx=>?_
 unfold nD
 rw[if_pos (D9.mp h x hx)]
 rfl
theorem cg(ws:List (List Nat)):kj false .non (.lst (ws.map nD))=some (.bl (!ws.all Qx)):=by
 have h:∃xs,Iw (ws.map nD)=some xs∧xs.all pN=true∧inV .non xs=!ws.all Qx:=by
  induction ws with
  | nil=>exact⟨[],by rw[J7];unfold Iw;rfl,rfl,rfl⟩
  | cons w ws ih=>
   obtain⟨xs,h1,h2,h3⟩:=ih
   rw[D7,K3]
   unfold Iw
   cases q:Qx w with
   | true=>
    have e:toV (nD w)=some (.int (nV w)):=by unfold nD;rw[if_pos q];rfl
    refine⟨.int (nV w)::xs,by rw[e,C8,h1];rfl,by rw[K3,h2];rfl,?_⟩
    unfold inV at h3 ⊢
    rw[Q1,h3,G0]
    rfl
   | false=>
    have e:toV (nD w)=some .non:=by unfold nD;rw[if_neg (by rw[q];exact B8)];rfl
    refine⟨.non::xs,by rw[e,C8,h1];rfl,by rw[K3,h2];rfl,?_⟩
    unfold inV
    rw[Q1]
    rfl
 obtain⟨xs,h1,h2,h3⟩:=h
 unfold kj
 show (some V.non).bind _=_
 rw[C8]
 show (some (ws.map nD)).bind _=_
 rw[C8,h1,C8,if_pos ⟨rfl,h2⟩,h3]
 rfl
theorem Yl{i j:Nat}{env:EN}{ds:List D}{d:D}(h1:env[i]?=some (.own (.lst ds)))(h2:env[j]?=some (.own d))(hn:i≠j)(hl:ds.length<100000):Dt i j env=.next ((env.set j .no).set i (.own (.lst (ds++[d])))):=by
 unfold Dt
 rw[h1,h2]
 dsimp only
 rw[if_pos ⟨hn,hl⟩]
theorem Ra{j:Nat}{c:FT}{f:FE}{env:EN}{α:Type}{ψ:α→D}{b:α→Bool}{d:D}:∀{xs:List α},(∀x∈xs,c (rE (env.set j (.fro (ψ x))))=some (!b x))→(∀x∈xs,f (rE (env.set j (.fro (ψ x))))=some d)→zP j c f env (xs.map ψ)=if xs.all b=true then some none else some (some d)
 | [],_,_=>by rw[J7];unfold zP;rfl
 | x::xs,h1,h2=>by
  have ih:=Ra (xs:=xs) (λy hy=>h1 y (C5 _ hy)) λy hy=>h2 y (C5 _ hy)
  rw[D7,K3]
  unfold zP
  rw[h1 x D1]
  cases q:b x with
  | true=>
   show zP j c f env (xs.map ψ)=_
   rw[ih,G0]
  | false=>
   show (f _).map some=_
   rw[h2 x D1]
   rfl
theorem Rb(n:Nat)(h:n≤1000):Bw (.lst [.int 5]) (.int (n:Int))=some (aW (B9 n 5)):=by
 unfold Bw
 dsimp only
 rw[if_pos ⟨rfl,by omega,by omega,by decide⟩,N0,List.flatten_replicate_singleton]
 unfold aW
 rw[S3]
theorem aAq{Pr:SR→Prop}{g1 g:GS}{env:EN}{d:D}(h:g1 env=.ret d)(k:Pr (.ret d)):Qs Pr (aQ g1 g env):=by
 rw[qM h]
 exact k
theorem PX{l:List Nat}(hl:l.length≤5000):rK [.str (sS l)]=some (if sV l=true then aZ (pK l)else .non):=by
 suffices hh:∃d,rK [.str (sS l)]=some d∧d=if sV l=true then aZ (pK l)else .non by
  obtain⟨d,h1,rfl⟩:=hh
  exact h1
 have hsl:=mZ (c:=59) hl
 have hsp:=Hs 59 l
 have no:(iK 59 l).all Km=false→D.non=if sV l=true then aZ (pK l)else .non:=λh=>by
  unfold sV
  rw[h,U5,if_neg B8]
 refine lE rfl ?_
 unfold Qk
 rw[Yi,Yh,Yg]
 refine cI (d:=aZ []) (bQ rfl (by decide)) (by exact Nat.le_of_ble_eq_true rfl) ?_
 refine Aw (xs:=(iK 59 l).map λx=>D.str (sS x)) (λn env=>∃v2 v3 v4 v5 v6,env=[.fro (.str (sS l)),.own (aZ (((iK 59 l).take n).map Kv)),v2,v3,v4,v5,v6]∧((iK 59 l).take n).all Km=true) rfl (dY (aO rfl rfl (qZ hl))) ⟨_,_,_,_,_,rfl,rfl⟩ ?_ ?_
 ·rintro k x env hx ⟨v2,v3,v4,v5,v6,rfl,hall⟩
  refine⟨by walk_at "lt", ?_⟩
  rw[D5]at hx
  obtain⟨r,hr,rfl⟩:=iZ hx
  have hrl:r.length≤5000:=F0 (fO (J0 hr)) hl
  have hk:=(C4.mp hr).1
  have hrs:=mZ (c:=32) hrl
  have bad:Km r=false→D.non=if sV l=true then aZ (pK l)else .non:=λh=>no (by
   rw[W8]
   exact⟨r,J0 hr,by rw[h];exact B8⟩)
  refine cI (d:=fZ []) (bQ rfl (by decide)) (by exact Nat.le_of_ble_eq_true rfl) ?_
  refine Aw (xs:=(iK 32 r).map λx=>D.str (sS x)) (λn env=>∃v4 v5,env=[.fro (.str (sS l)),.own (aZ (((iK 59 l).take k).map Kv)),.fro (.str (sS r)),.own (fZ (((iK 32 r).take n).map Bg)),v4,v5,v6]∧((iK 32 r).take n).all (λw=>(iK 44 w).all Qx)=true) rfl (dY (aO rfl rfl (qZ hrl))) ⟨_,_,rfl,rfl⟩ ?_ ?_
  ·rintro m y env hy ⟨v4,v5,rfl,hall2⟩
   refine⟨by walk_at "lt", ?_⟩
   rw[D5]at hy
   obtain⟨w,hw,rfl⟩:=iZ hy
   have hwl:w.length≤5000:=F0 (fO (J0 hw)) hrl
   have hm:=(C4.mp hw).1
   have hws:=mZ (c:=44) hwl
   refine cI (d:=.lst ((iK 44 w).map nD)) (jW (xs:=iK 44 w) (ψ:=λx=>D.str (sS x)) (φ:=nD) (dY (aO rfl rfl (qZ hwl))) (by omega) λx hx=>aX (aC rfl rfl) rfl (JX (F0 (fO hx) hwl))) (by exact Nat.le_of_ble_eq_true rfl) ?_
   refine oY (bU (aO rfl rfl (cg (iK 44 w)))) (λhb=>?_) (λhb=>jE ?_)
   ·rw[K7]at hb
    refine pG rfl (.inr ⟨_,rfl,.inr ⟨_,rfl,⟨_,rfl,bad ?_⟩⟩⟩)
    unfold Km
    rw[W8]
    exact⟨w,J0 hw,by rw[hb];exact B8⟩
   ·rw[M9]at hb
    rw[bw hb]
    have ht:(iK 32 r).take (m+1)=(iK 32 r).take m++[w]:=by rw[S9,hw];rfl
    refine Gu (ds:=(((iK 32 r).take m).map Bg).map dTup) (d:=dTup (Bg w)) rfl (fY (aC rfl rfl) (wW ((iK 44 w).map nV))) (by rw[B3,B3,J9];omega) (.inl ⟨_,rfl,.fro (.str (sS w)),.own (.lst (((iK 44 w).map nV).map D.int)),?_,?_⟩)
    ·rw[ht,G5]
     unfold fZ
     rw[G5]
     rfl
    ·rw[ht,R5,hall2,K3,hb]
     rfl
  ·rintro env ⟨v4,v5,rfl,hall2⟩
   rw[B3,N2]at hall2
   rw[B3,N2]
   have ht:(iK 59 l).take (k+1)=(iK 59 l).take k++[r]:=by rw[S9,hr];rfl
   have hg:=Yl (i:=1) (j:=3) (env:=[.fro (.str (sS l)),.own (aZ (((iK 59 l).take k).map Kv)),.fro (.str (sS r)),.own (fZ ((iK 32 r).map Bg)),v4,v5,v6]) (ds:=(((iK 59 l).take k).map Kv).map fZ) (d:=fZ (Kv r)) rfl rfl (by decide) (by rw[B3,B3,J9];omega)
   unfold Qs
   rw[hg]
   refine .inl ⟨_,rfl,.fro (.str (sS r)),.no,v4,v5,v6,?_,?_⟩
   ·rw[ht,G5]
    unfold aZ
    rw[G5]
    rfl
   ·rw[ht,R5,hall,K3,show Km r=true from hall2]
    rfl
 rintro env ⟨v2,v3,v4,v5,v6,rfl,hall⟩
 rw[B3,N2]at hall
 rw[B3,N2]
 have est:(iK 59 l).map Kv=pK l:=rfl
 rw[est]
 have hlt:(pK l).length=(iK 59 l).length:=B3 _
 have e0:(pK l)[0]?=some ((pK l).getD 0 []):=zY (by omega)
 have xq:=Ax e0
 refine cI (d:=.int (xN l)) (fY (aC (aO rfl rfl xq) rfl) (qY _)) (by exact Nat.le_of_ble_eq_true rfl) ?_
 have aAr:sV l=(decide ((pK l).length≤8)&&((decide (2≤xN l)&&decide (xN l≤9))&&(pK l).all λq=>decide (lens q=want (xN l)))):=by
  unfold sV
  rw[hall,G0]
 rw[aAr]
 generalize xN l=n at *
 refine oY (tK (bU (aO (fY (aC rfl rfl) (wN _)) rfl (yC _ _))) (tK (bU (aO rfl rfl (mR _ _))) (bU (aO rfl rfl (yC _ _))))) (λhb=>?_) (λhb=>jE ?_)
 ·refine pG rfl ⟨_,rfl,?_⟩
  rw[if_neg]
  intro z
  rw[B4,B4,B4]at z
  have z1:=of_decide_eq_true z.1
  have z2:=of_decide_eq_true z.2.1.1
  have z3:=of_decide_eq_true z.2.1.2
  rw[R3,R3]at hb
  rcases hb with q | q | q
  ·have:=of_decide_eq_true q;omega
  ·have:=of_decide_eq_true q;omega
  ·have:=of_decide_eq_true q;omega
 rw[R4,R4]at hb
 have b1:(pK l).length≤8:=by have:=of_decide_eq_false hb.1;omega
 have b2:2≤n:=by have:=of_decide_eq_false hb.2.1;omega
 have b3:n≤9:=by have:=of_decide_eq_false hb.2.2;omega
 rw[decide_eq_true b1,decide_eq_true b2,decide_eq_true b3,G0,G0,G0]
 have hpl:∀q∈pK l,q.length≤5002:=λq hq=>by
  obtain⟨r,hr,rfl⟩:=M7.mp hq
  unfold Kv
  rw[B3]
  exact mZ (F0 (fO hr) hl)
 have hq:=Ra (j:=3) (c:=fB (f2 yZ (cV (eQ (aF 3)) [] dW (fL cO (aB (aF 0) aG))) (f2 cX (f2 Bw (eG (aB (fC (.int 5)) aG)) (f2 Bp (aF 6) (fC (.int 1)))) (eG (aB (fC (.int 1)) aG))))) (f:=fC .non) (env:=[.fro (.str (sS l)),.own (aZ (pK l)),v2,v3,v4,v5,.own (.int n)]) (ψ:=fZ) (b:=λq=>decide (lens q=want n)) (d:=.non) (xs:=pK l) (λq hq=>by
  have hc:=jW (fi:=eQ (aF 3)) (fr:=[]) (fe:=fL cO (aB (aF 0) aG)) (e:=rE [.fro (.str (sS l)),.own (aZ (pK l)),v2,.fro (fZ q),v4,v5,.own (.int n)]) (xs:=q) (ψ:=dTup) (φ:=λt=>D.int (t.length:Int)) (dY rfl) (by have:=hpl q hq;omega) λt _=>fY (aC rfl rfl) (by unfold dTup;rw[qN,B3])
  refine bU (aO (a:=aW (lens q)) (b:=aW (want n)) (hc.trans ?_) ?_ (Xm _ _))
  ·unfold aW lens
   rw[M8]
   rfl
  ·have e1:((n:Int)-1)=((n-1:Nat):Int):=by omega
   exact aO (a:=aW (B9 (n-1) 5)) (b:=aW [1]) (aO (bQ (aC rfl rfl) (by decide)) (aO rfl rfl (vA _ _)) (by rw[e1];exact Rb _ (by omega))) (bQ (aC rfl rfl) (by decide)) (zZ _ _ (by rw[K2,D8];omega))) λq hq=>rfl
 have hF:Dw 1 3 (fB (f2 yZ (cV (eQ (aF 3)) [] dW (fL cO (aB (aF 0) aG))) (f2 cX (f2 Bw (eG (aB (fC (.int 5)) aG)) (f2 Bp (aF 6) (fC (.int 1)))) (eG (aB (fC (.int 1)) aG))))) (fC .non) [.fro (.str (sS l)),.own (aZ (pK l)),v2,v3,v4,v5,.own (.int n)]=if((pK l).all λq=>decide (lens q=want n))=true then .next [.fro (.str (sS l)),.own (aZ (pK l)),v2,.no,v4,v5,.own (.int n)]else .ret .non:=by
  unfold Dw
  show (if 3<7∧1≠3 then(match zP _ _ _ _ ((pK l).map fZ)with | some (some d)=>SR.ret d | some none=>.next _ | none=>.bad)else .bad)=_
  rw[if_pos (by decide),hq]
  by_cases z:((pK l).all λq=>decide (lens q=want n))=true
  ·rw[if_pos z,if_pos z]
   rfl
  ·rw[if_neg z,if_neg z]
 by_cases c:((pK l).all λq=>decide (lens q=want n))=true
 ·rw[if_pos c]at hF ⊢
  exact JH hF (wA rfl ⟨_,rfl,rfl⟩)
 ·rw[if_neg c]at hF ⊢
  exact aAq hF ⟨_,rfl,rfl⟩
theorem Ym{n:Nat}{l:List (List Nat)}(h:∀x∈l,x.length≤n):wt l≤l.length*(n+1):=by
 have:=Xz (f:=λx:List Nat=>x) (l:=l) h
 rw[List.map_id']at this
 exact this
theorem cj{x:Int}(h0:-31<x)(h1:x<1000):Pn [.int x]=some (.str (sS (txt x)))∧(txt x).length≤3:=by
 constructor
 ·show (if x.natAbs.log2<1920 then some (D.str (Jk x))else none)=_
  have hl2:x.natAbs.log2<1920:=by
   by_cases c:x.natAbs=0
   ·rw[c];decide
   ·rw[Nat.log2_lt c]
    exact Nat.lt_trans (show x.natAbs<1024 by omega) (show 2 ^ 10<2 ^ 1920 from Nat.pow_lt_pow_right (by decide) (by decide))
  rw[if_pos hl2,JS]
 ·unfold txt
  split
  ·obtain⟨_,d2⟩:=Qn x.natAbs 2 (by decide) (by omega)
   rw[G8]
   omega
  ·exact(Qn x.natAbs 3 (by decide) (by omega)).2
theorem Be(l:List (List Nat))(x:List Nat):D.lst ((l.map λx=>D.str (sS x))++[.str (sS x)])=dG (l++[x]):=by
 unfold dG
 rw[G5]
 rfl
theorem cu{ns:List Int}{shape:List (List Int)}(hl:ns.length≤63)(h9:shape.length≤9)(hq:∀q∈shape,q.length≤11∧∀x∈q,0≤x∧x≤6):∃T:List Nat,qP [aW ns,.lst (shape.map aW)]=some (.str (sS T))∧T.length≤4000:=by
  suffices hh:∃d,qP [aW ns,.lst (shape.map aW)]=some d∧∃T:List Nat,d=.str (sS T)∧T.length≤4000 by
    obtain⟨d,h1,T,rfl,h2⟩:=hh
    exact⟨T,h1,h2⟩
  refine lE rfl ?_
  unfold Jz
  rw[Yi,Yh,Yg]
  refine cI (d:=dG []) (bQ rfl (by decide)) (by exact Nat.le_of_ble_eq_true rfl) (cI rfl (by exact Nat.le_of_ble_eq_true rfl) ?_)
  refine Xl (xs:=shape.map aW) (λn env=>∃(ps:List (List Nat))(a:Int)(v4 v5 v6 v7 v8 v9:SD),env=[.fro (aW ns),.fro (.lst (shape.map aW)),.own (dG ps),.own (.int a),v4,v5,v6,v7,v8,v9]∧ps.length=n∧(∀x∈ps,x.length≤275)∧10≤a∧a≤10+66*(n:Int)) rfl (dY rfl) ⟨[],10,_,_,_,_,_,_,rfl,rfl,λx hx=>(by cases hx),by decide,by decide⟩ ?_ ?_
  · rintro n x env hx ⟨ps,a,v4,v5,v6,v7,v8,v9,rfl,hpl,hps,a0,a1⟩
    refine⟨by walk_at "lt", ?_⟩
    rw[D5]at hx
    obtain⟨q,hqn,rfl⟩:=iZ hx
    have hn:=(C4.mp hqn).1
    obtain⟨q11,qx⟩:=hq q (J0 hqn)
    refine cI (d:=dG []) (bQ rfl (by decide)) (by exact Nat.le_of_ble_eq_true rfl) ?_
    refine Xl (xs:=q.map D.int) (λm env=>∃(ws:List (List Nat))(a:Int)(v6 v7 v8 v9:SD),env=[.fro (aW ns),.fro (.lst (shape.map aW)),.own (dG ps),.own (.int a),.fro (aW q),.own (dG ws),v6,v7,v8,v9]∧ws.length=m∧(∀x∈ws,x.length≤24)∧10≤a∧a≤10+66*(n:Int)+6*(m:Int)) rfl (dY rfl) ⟨[],a,_,_,_,_,rfl,rfl,λx hx=>(by cases hx),a0,by omega⟩ ?_ ?_
    · rintro m y env hy ⟨ws,a,v6,v7,v8,v9,rfl,hwl,hws,a0,a1⟩
      refine⟨by walk_at "lt", ?_⟩
      rw[D5]at hy
      obtain⟨c0,hc,rfl⟩:=iZ hy
      have hm:=(C4.mp hc).1
      obtain⟨c00,c06⟩:=qx c0 (J0 hc)
      obtain⟨c,rfl⟩:∃c:Nat,c0=(c:Int):=⟨c0.toNat,by omega⟩
      refine cI (d:=dG []) (bQ rfl (by decide)) (by exact Nat.le_of_ble_eq_true rfl) ?_
      refine Qh (n:=c) (λj env=>∃(ls:List (List Nat))(a:Int)(v8 v9:SD),env=[.fro (aW ns),.fro (.lst (shape.map aW)),.own (dG ps),.own (.int a),.fro (aW q),.own (dG ws),.fro (.int c),.own (dG ls),v8,v9]∧ls.length=j∧(∀x∈ls,x.length≤3)∧10≤a∧a≤10+66*(n:Int)+6*(m:Int)+(j:Int)) (yF (aC rfl rfl) (by omega)) ⟨[],a,_,_,rfl,rfl,λx hx=>(by cases hx),a0,by omega⟩ ?_ ?_
      · rintro j env hj ⟨ls,a,v8,v9,rfl,hll,hls,a0,a1⟩
        refine⟨by walk_at "lt", ?_⟩
        have hd:=rN (k:=a) hl (by omega) (by omega)
        obtain⟨b0,b1⟩:=vG ns a
        generalize qW ns a=r at *
        refine cI (aX (aC rfl (aC rfl rfl)) rfl hd) (by exact Nat.le_of_ble_eq_true rfl) ?_
        refine cI (aO rfl rfl (fG _ _)) (by exact Nat.le_of_ble_eq_true rfl) ?_
        obtain⟨x,hx,x0,x1⟩:∃x,sH (.lst [.int (r/4%2),.int (r/4%20),.int (r/4%1000),.int (-1-r/4%30)]) (.int (r%4))=some (.int x)∧-31<x∧x<1000:=by
          have m2:=F9 (r/4) (by decide:(2:Int)≠0)
          have m2':=F3 (r/4) (by decide:(0:Int)<2)
          have m20:=F9 (r/4) (by decide:(20:Int)≠0)
          have aBx:=F3 (r/4) (by decide:(0:Int)<20)
          have mk:=F9 (r/4) (by decide:(1000:Int)≠0)
          have mk':=F3 (r/4) (by decide:(0:Int)<1000)
          have m30:=F9 (r/4) (by decide:(30:Int)≠0)
          have aBy:=F3 (r/4) (by decide:(0:Int)<30)
          have e:r%4=0∨r%4=1∨r%4=2∨r%4=3:=by omega
          rcases e with e | e | e | e
          · rw[e];exact⟨_,jY (by decide) rfl,by omega,by omega⟩
          · rw[e];exact⟨_,jY (by decide) rfl,by omega,by omega⟩
          · rw[e];exact⟨_,jY (by decide) rfl,by omega,by omega⟩
          · rw[e];exact⟨_,jY (by decide) rfl,by omega,by omega⟩
        obtain⟨hs,hs3⟩:=cj x0 x1
        refine Gu (ds:=ls.map λx=>D.str (sS x)) (d:=.str (sS (txt x))) rfl (fY (aC (aO (bQ (aC (aO (aO rfl rfl (dX (by decide) (by decide))) rfl (bN (by decide))) (aC (aO (aO rfl rfl (dX (by decide) (by decide))) rfl (bN (by decide))) (aC (aO (aO rfl rfl (dX (by decide) (by decide))) rfl (bN (by decide))) (aC (aO (oX rfl) (aO (aO rfl rfl (dX (by decide) (by decide))) rfl (bN (by decide))) (vA _ _)) rfl)))) (by show 4≤_;decide)) (aO rfl rfl (bN (by decide))) hx) rfl) hs) (by rw[B3];omega) ⟨_,rfl,ls++[txt x],a+1,.fro (.int j),.own (.int r),?_,by rw[C6,hll];rfl,λy hy=>?_,by omega,by omega⟩
        · rw[Be]
          rfl
        · rcases L8.mp hy with z | z
          · exact hls y z
          · rw[F6.mp z];exact hs3
      · rintro env ⟨ls,a,v8,v9,rfl,hll,hls,a0,a1⟩
        have hw:=Ym hls
        rw[hll]at hw
        have hw6:c*4≤6*4:=V2 (by omega) (D2 _)
        have hjl:=Hq 44 ls
        refine Gu (ds:=ws.map λx=>D.str (sS x)) (d:=.str (sS (jn 44 ls))) rfl (aO rfl rfl (Ay (by omega))) (by rw[B3];omega) ⟨_,rfl,ws++[jn 44 ls],a,.fro (.int c),.own (dG ls),v8,v9,?_,by rw[C6,hwl];rfl,λy hy=>?_,a0,by omega⟩
        · rw[Be]
          rfl
        · rcases L8.mp hy with z | z
          · exact hws y z
          · rw[F6.mp z];omega
    · rintro env ⟨ws,a,v6,v7,v8,v9,rfl,hwl,hws,a0,a1⟩
      rw[B3]at hwl a1
      have hw:=Ym hws
      rw[hwl]at hw
      have hw6:q.length*25≤11*25:=V2 q11 (D2 _)
      have hjl:=Hq 32 ws
      refine Gu (ds:=ps.map λx=>D.str (sS x)) (d:=.str (sS (jn 32 ws))) rfl (aO rfl rfl (Ay (by omega))) (by rw[B3];omega) ⟨_,rfl,ps++[jn 32 ws],a,.fro (aW q),.own (dG ws),v6,v7,v8,v9,?_,by rw[C6,hpl];rfl,λy hy=>?_,a0,by omega⟩
      · rw[Be]
        rfl
      · rcases L8.mp hy with z | z
        · exact hps y z
        · rw[F6.mp z];omega
  · rintro env ⟨ps,a,v4,v5,v6,v7,v8,v9,rfl,hpl,hps,a0,a1⟩
    rw[B3]at hpl
    have hw:=Ym hps
    rw[hpl]at hw
    have hw6:shape.length*276≤9*276:=V2 h9 (D2 _)
    have hjl:=Hq 59 ps
    exact qO (aO rfl rfl (Ay (by omega))) ⟨_,rfl,_,rfl,by omega⟩
theorem aAs:(",; -07_+a\n" : Str)=sS [44,59,32,45,48,55,95,43,97,10]:=vH ",; -07_+a\n"
theorem Yn{ns:List Int}{T:List Nat}(hl:ns.length≤63)(hT:T.length≤4000):∃l:List Nat,lX [aW ns,.str (sS T)]=some (.str (sS l))∧l.length≤5000:=by
 suffices hh:∃d,lX [aW ns,.str (sS T)]=some d∧∃l:List Nat,d=.str (sS l)∧l.length≤5000 by
  obtain⟨d,h1,l,rfl,h2⟩:=hh
  exact⟨l,h1,h2⟩
 have hd2:=rN (k:=2) hl (by decide) (by decide)
 have hd3:=rN (k:=3) hl (by decide) (by decide)
 obtain⟨p0,p1⟩:=vG ns 2
 generalize qW ns 2=r at *
 generalize qW ns 3=r3 at *
 refine lE rfl ?_
 unfold Ad
 rw[aAs]
 refine cI (aX (aC rfl (aC rfl rfl)) rfl hd2) (by exact Nat.le_of_ble_eq_true rfl) ?_
 have cp:(0:Int)<(T.length:Int)+1:=by omega
 refine cI (aO (aX (aC rfl (aC rfl rfl)) rfl hd3) (aO (fY (aC rfl rfl) (Av T (by omega))) rfl (fG _ _)) (bN cp)) (by exact Nat.le_of_ble_eq_true rfl) ?_
 have a0:=F9 r3 (show (T.length:Int)+1≠0 by omega)
 generalize r3%((T.length:Int)+1)=a at *
 have s0:=F9 (r/8) (by decide:(10:Int)≠0)
 have s1:=F3 (r/8) (by decide:(0:Int)<10)
 refine cI (aO rfl (aO (aO rfl rfl (dX (by decide) (by decide))) rfl (bN (by decide))) (Hi s0 (zY (d:=0) (by show (r/8%10).toNat<10;omega)) (by decide))) (by exact Nat.le_of_ble_eq_true rfl) ?_
 generalize ([44,59,32,45,48,55,95,43,97,10]:List Nat).getD (r/8%10).toNat 0=c at *
 have c1:=Ho T none (some a)
 have c2:=Ho T (some a) none
 have c3:=Ho T (some (a+1)) none
 have k1:(iY T none (some a)).length≤a.toNat:=by
  unfold iY
  rw[rO _ _ a0,J9]
  show min (min a.toNat T.length-0) _≤_
  omega
 have k2:(iY T (some a) none).length≤T.length-a.toNat:=by
  unfold iY
  rw[rO _ _ a0,J9,M4]
  omega
 have k3:(iY T (some (a+1)) none).length≤T.length-a.toNat:=by
  unfold iY
  rw[rO _ _ (by omega),J9,M4]
  omega
 refine oY (bU (aO (aO rfl rfl (bN (by decide))) rfl (mR _ _))) (λhb=>?_) (λhb=>jE ?_)
 ·rw[qM (Tq (i:=1) rfl rfl)]
  exact⟨_,rfl,T,rfl,by omega⟩
 refine oY (bU (aO (aO rfl rfl (bN (by decide))) rfl (mR _ _))) (λhb=>?_) (λhb=>jE ?_)
 ·refine pG (aO (aO (lM rfl rfl (fH rfl) (yI a0 (by omega))) rfl (qX _ [c] (by rw[D8];omega))) (lM rfl (fH rfl) rfl (oH a0 (by omega))) (qX _ _ (by rw[C6,D8];omega))) ⟨_,rfl,_,rfl,?_⟩
  rw[C6,C6,D8]
  omega
 refine oY (bU (aO (aO rfl rfl (bN (by decide))) rfl (mR _ _))) (λhb=>?_) (λhb=>jE ?_)
 ·refine pG (aO (aO (lM rfl rfl (fH rfl) (yI a0 (by omega))) rfl (qX _ [c] (by rw[D8];omega))) (lM rfl (fH (aO rfl rfl (fG _ _))) rfl (oH (by omega) (by omega))) (qX _ _ (by rw[C6,D8];omega))) ⟨_,rfl,_,rfl,?_⟩
  rw[C6,C6,D8]
  omega
 ·refine qO (aO (lM rfl rfl (fH rfl) (yI a0 (by omega))) (lM rfl (fH (aO rfl rfl (fG _ _))) rfl (oH (by omega) (by omega))) (qX _ _ (by omega))) ⟨_,rfl,_,rfl,?_⟩
  rw[C6]
  omega
def cz(s:List (List Int)):Prop:=s.length≤9∧∀q∈s,q.length≤11∧∀x∈q,0≤x∧x≤6
theorem KH{n:Nat}(h0:1≤n):(want n).length=n∧∀x∈want n,0≤x∧x≤6:=by
 unfold want
 constructor
 ·rw[C6,K2,D8]
  omega
 ·intro x hx
  rcases L8.mp hx with z | z
  ·rw[T7 z];decide
  ·rw[F6.mp z];decide
theorem cz.set{s:List (List Int)}{k:Nat}{q:List Int}(h:cz s)(hl:q.length≤11)(hx:∀x∈q,0≤x∧x≤6):cz (s.set k q):=by
 refine⟨by rw[O3];exact h.1,λp hp=>?_⟩
 rcases T1 hp with z | z
 ·exact h.2 p z
 ·rw[z];exact⟨hl,hx⟩
theorem KJ{ns:List Int}(hl:ns.length≤63):∃s:List (List Int),oE [aW ns]=some (.lst (s.map aW))∧cz s:=by
 suffices hh:∃d,oE [aW ns]=some d∧∃s:List (List Int),d=.lst (s.map aW)∧cz s by
  obtain⟨d,h1,s,rfl,h2⟩:=hh
  exact⟨s,h1,h2⟩
 have hd0:=rN (k:=0) hl (by decide) (by decide)
 have hd1:=rN (k:=1) hl (by decide) (by decide)
 obtain⟨r00,r01⟩:=vG ns 0
 obtain⟨r10,r11⟩:=vG ns 1
 generalize qW ns 0=r0 at *
 generalize qW ns 1=r1 at *
 refine lE rfl ?_
 unfold Ei
 have hp0:=F9 (r0/4) (by decide:(3:Int)≠0)
 have hp1:=F3 (r0/4) (by decide:(0:Int)<3)
 have hz0:=F9 (r0/64) (by decide:(3:Int)≠0)
 have hz1:=F3 (r0/64) (by decide:(0:Int)<3)
 have fin:∀(P n:Nat),1≤P→P≤9→1≤n→n≤10→Qs (λr=>∃d,r=.ret d∧∃s:List (List Int),d=.lst (s.map aW)∧cz s) ((aQ (bD 4 (cV (nQ (aB (aF 2) aG)) [3] dW (f2 cX (f2 Bw (eG (aB (fC (.int 5)) aG)) (f2 Bp (aF 1) (fC (.int 1)))) (eG (aB (fC (.int 1)) aG)))))
 (aQ (bD 1 (bA 2 dZ (aB (aF 0) (aB (fC (.int 1)) aG))))
 (aQ (bD 5 (f2 eH (f2 mD (aF 1) (fC (.int 8))) (aF 2)))
 (aQ (jJ (fB (f2 vN (f2 eH (aF 1) (fC (.int 8))) (fC (.int 0)))) (Ms 4 (Uh rZ (aF 5)) (fC (.int 0)) (fC (.int 5))) bG)
 (aQ (jJ (fB (f2 vN (f2 eH (aF 1) (fC (.int 8))) (fC (.int 1)))) (zF 4 (Uh rZ (aF 5)) (fC (.int 0))) bG)
 (aQ (jJ (fB (f2 vN (f2 eH (aF 1) (fC (.int 8))) (fC (.int 2)))) (wR 4 (Uh rZ (aF 5)) (f2 eH (f2 mD (aF 1) (fC (.int 128))) (aF 3)) (f2 cX (fC (.int 1)) (f2 eH (f2 mD (aF 1) (fC (.int 2048))) (fC (.int 6))))) bG)
 (mL 4)))))))  [.fro (aW ns),.own (.int r0),.own (.int (P:Int)),.own (.int (n:Int)),.no,.no]):=by
  intro P n P1 P9 n1 n10
  have hc:=Nh (fi:=nQ (aB (aF 2) aG)) (fr:=[3]) (fe:=f2 cX (f2 Bw (eG (aB (fC (.int 5)) aG)) (f2 Bp (aF 1) (fC (.int 1)))) (eG (aB (fC (.int 1)) aG))) (e:=rE [.fro (aW ns),.own (.int r0),.own (.int (P:Int)),.own (.int (n:Int)),.no,.no]) (n:=P) (φ:=λ_=>aW (want n)) (yF (aC rfl rfl) (by omega)) (by omega) λk hk=>by
   have e1:((n:Int)-1)=((n-1:Nat):Int):=by omega
   exact aO (a:=aW (B9 (n-1) 5)) (b:=aW [1]) (aO (bQ (aC rfl rfl) (by decide)) (aO rfl rfl (vA _ _)) (by rw[e1];exact Rb _ (by omega))) (bQ (aC rfl rfl) (by decide)) (zZ _ _ (by rw[K2,D8];omega))
  obtain⟨wl,wx⟩:=KH n1
  have hS:cz (B9 P (want n)):=⟨by rw[K2];exact P9,λq hq=>by rw[T7 hq];exact⟨by omega,wx⟩⟩
  refine cI (d:=.lst ((B9 P (want n)).map aW)) (hc.trans (by rw[List.map_const',P5,S3])) (by exact Nat.le_of_ble_eq_true rfl) ?_
  refine cI (aX (aC rfl (aC rfl rfl)) rfl hd1) (by exact Nat.le_of_ble_eq_true rfl) ?_
  refine cI (aO (aO rfl rfl (dX (by decide) (by decide))) rfl (bN (by omega))) (by exact Nat.le_of_ble_eq_true rfl) ?_
  have at0:=F9 (r1/8) (show (P:Int)≠0 by omega)
  have at1:=F3 (r1/8) (show (0:Int)<(P:Int) by omega)
  generalize r1/8%(P:Int)=at_ at *
  have hg:((B9 P (want n)).map aW)[at_.toNat]?=some (aW (want n)):=by
   rw[S3,P0,if_pos (by omega)]
  have Ob:∀q:List Int,((B9 P (want n)).map aW).set at_.toNat (aW q)=((B9 P (want n)).set at_.toNat q).map aW:=λq=>by rw[W4]
  generalize B9 P (want n)=S at *
  have Bd:∀(j:Int) {env:EN},(rE env)[1]?=some (some (.int r1))→fB (f2 vN (f2 eH (aF 1) (fC (.int 8))) (fC (.int j))) (rE env)=some (decide (r1%8=j)):=λj {env} e1=>bU (aO (aO (jD e1) rfl (bN (by decide))) rfl (yD _ _))
  have px:∀{env:EN},(rE env)[5]?=some (some (.int at_))→Uh rZ (aF 5) (rE env)=some [.ix at_.toNat]:=λe5=>bh (p:=[]) rfl (jD e5) at0
  by_cases c0:r1%8=0
  ·refine oY (Bd 0 rfl) (λ_=>?_) λz=>absurd c0 (of_decide_eq_false z)
   refine JH ((bf (p:=[.ix at_.toNat]) (ns:=want n) (k:=0) (y:=5) rfl (px rfl) (Nz hg) rfl rfl (by decide) (by omega) (by omega)).trans (by rw[Oa hg,Ob])) ?_
   refine lA (Bd 1 rfl) (decide_eq_false (by omega)) (jE ?_)
   refine lA (Bd 2 rfl) (decide_eq_false (by omega)) (jE ?_)
   refine wA rfl ⟨_,rfl,_,rfl,hS.set ?_ λx hx=>?_⟩
   ·show (([]:List Int)++5::want n).length≤11
    rw[O4,G8]
    omega
   ·have hx:x∈([]:List Int)++5::want n:=hx
    rcases G2.mp hx with z | z
    ·rw[z];decide
    ·exact wx x z
  refine lA (Bd 0 rfl) (decide_eq_false c0) (jE ?_)
  by_cases c1:r1%8=1
  ·refine oY (Bd 1 rfl) (λ_=>?_) λz=>absurd c1 (of_decide_eq_false z)
   refine JH ((JZ (p:=[.ix at_.toNat]) (ns:=want n) (k:=0) rfl (px rfl) (Nz hg) rfl (by decide) (by show 0<_;omega) (by omega)).trans (by rw[Oa hg,Ob])) ?_
   refine lA (Bd 2 rfl) (decide_eq_false (by omega)) (jE ?_)
   refine wA rfl ⟨_,rfl,_,rfl,hS.set ?_ λx hx=>wx x (List.mem_of_mem_eraseIdx hx)⟩
   have:=List.length_eraseIdx_le (want n) (0:Int).toNat
   omega
  refine lA (Bd 1 rfl) (decide_eq_false c1) (jE ?_)
  by_cases c2:r1%8=2
  ·refine oY (Bd 2 rfl) (λ_=>?_) λz=>absurd c2 (of_decide_eq_false z)
   have i0:=F9 (r1/128) (show (n:Int)≠0 by omega)
   have i1:=F3 (r1/128) (show (0:Int)<(n:Int) by omega)
   have v0:=F9 (r1/2048) (by decide:(6:Int)≠0)
   have v1:=F3 (r1/2048) (by decide:(0:Int)<6)
   have hk:wR 4 (Uh rZ (aF 5)) (f2 eH (f2 mD (aF 1) (fC (.int 128))) (aF 3)) (f2 cX (fC (.int 1)) (f2 eH (f2 mD (aF 1) (fC (.int 2048))) (fC (.int 6)))) [.fro (aW ns),.own (.int r1),.own (.int (P:Int)),.own (.int (n:Int)),.own (.lst (S.map aW)),.own (.int at_)]=.next [.fro (aW ns),.own (.int r1),.own (.int (P:Int)),.own (.int (n:Int)),.own (.lst ((S.set at_.toNat ((want n).set (r1/128%(n:Int)).toNat (1+r1/2048%6))).map aW)),.own (.int at_)]:=by
    refine(JM (p:=[.ix at_.toNat]) (d0:=.lst (S.map aW)) (k:=r1/128%(n:Int)) (ds:=(want n).map D.int) (d:=.int (1+r1/2048%6)) rfl (px rfl) (Nz hg) (aO (aO rfl rfl (dX (by decide) (by decide))) rfl (bN (by omega))) (aO rfl (aO (aO rfl rfl (dX (by decide) (by decide))) rfl (bN (by decide))) (fG _ _)) i0 (by rw[B3];omega)).trans ?_
    rw[Oa hg,←W4]
    show SR.next [SD.fro (aW ns),.own (.int r1),.own (.int (P:Int)),.own (.int (n:Int)),.own (.lst ((S.map aW).set at_.toNat (aW ((want n).set (r1/128%(n:Int)).toNat (1+r1/2048%6))))),.own (.int at_)]=_
    rw[Ob]
   refine JH hk ?_
   refine wA rfl ⟨_,rfl,S.set at_.toNat ((want n).set (r1/128%(n:Int)).toNat (1+r1/2048%6)),rfl,hS.set (by rw[O3];omega) λx hx=>?_⟩
   rcases T1 hx with z | z
   ·exact wx x z
   ·omega
  ·refine lA (Bd 2 rfl) (decide_eq_false c2) (jE ?_)
   exact wA rfl ⟨_,rfl,_,rfl,hS⟩
 refine cI (aX (aC rfl (aC rfl rfl)) rfl hd0) (by exact Nat.le_of_ble_eq_true rfl) ?_
 refine cI (aO rfl (aO (aO rfl rfl (dX (by decide) (by decide))) rfl (bN (by decide))) (fG _ _)) (by exact Nat.le_of_ble_eq_true rfl) ?_
 have Bd:∀(j:Int) {env:EN},(rE env)[1]?=some (some (.int r0))→fB (f2 vN (f2 eH (aF 1) (fC (.int 4))) (fC (.int j))) (rE env)=some (decide (r0%4=j)):=λj {env} e1=>bU (aO (aO (jD e1) rfl (bN (by decide))) rfl (yD _ _))
 have sz:∀{env:EN},(rE env)[1]?=some (some (.int r0))→f2 cX (fC (.int 2)) (f2 eH (f2 mD (aF 1) (fC (.int 64))) (fC (.int 3))) (rE env)=some (.int (2+r0/64%3)):=λe1=>aO rfl (aO (aO (jD e1) rfl (dX (by decide) (by decide))) rfl (bN (by decide))) (fG _ _)
 obtain⟨n2,hn2⟩:∃n:Nat,2+r0/64%3=(n:Int):=⟨(2+r0/64%3).toNat,by omega⟩
 obtain⟨P1,hP1⟩:∃n:Nat,1+r0/4%3=(n:Int):=⟨(1+r0/4%3).toNat,by omega⟩
 by_cases c0:r0%4=0
 ·obtain⟨P7,hP7⟩:∃n:Nat,7+r0/4%3=(n:Int):=⟨(7+r0/4%3).toNat,by omega⟩
  have f:=fin P7 n2 (by omega) (by omega) (by omega) (by omega)
  rw[←hP7,←hn2]at f
  refine oY (Bd 0 rfl) (λ_=>?_) λz=>absurd c0 (of_decide_eq_false z)
  refine cI (aO rfl (aO (aO rfl rfl (dX (by decide) (by decide))) rfl (bN (by decide))) (fG _ _)) (by exact Nat.le_of_ble_eq_true rfl) ?_
  refine cI (sz rfl) (by exact Nat.le_of_ble_eq_true rfl) ?_
  exact lA (Bd 1 rfl) (decide_eq_false (by omega)) (jE f)
 refine lA (Bd 0 rfl) (decide_eq_false c0) (jE ?_)
 refine cI (sz rfl) (by exact Nat.le_of_ble_eq_true rfl) ?_
 by_cases c1:r0%4=1
 ·obtain⟨n,hn,n1,n10⟩:∃n:Nat,sH (.lst [.int 1,.int 9,.int 10]) (.int (r0/64%3))=some (.int (n:Int))∧1≤n∧n≤10:=by
   have e:r0/64%3=0∨r0/64%3=1∨r0/64%3=2:=by omega
   rcases e with e | e | e
   ·rw[e];exact⟨1,jY (by decide) rfl,by decide,by decide⟩
   ·rw[e];exact⟨9,jY (by decide) rfl,by decide,by decide⟩
   ·rw[e];exact⟨10,jY (by decide) rfl,by decide,by decide⟩
  have f:=fin P1 n (by omega) (by omega) n1 n10
  rw[←hP1]at f
  refine oY (Bd 1 rfl) (λ_=>?_) λz=>absurd c1 (of_decide_eq_false z)
  exact cI (xZ (aO (bQ (aC rfl (aC rfl (aC rfl rfl))) (by decide)) (aO (aO rfl rfl (dX (by decide) (by decide))) rfl (bN (by decide))) hn) rfl) (by exact Nat.le_of_ble_eq_true rfl) f
 ·have f:=fin P1 n2 (by omega) (by omega) (by omega) (by omega)
  rw[←hP1,←hn2]at f
  exact lA (Bd 1 rfl) (decide_eq_false c1) (jE f)
theorem Kq{κ:Nat→Addr}{d:D}(h:cA κ [d]=some 0):iG κ [d,.non]=some (.bl true):=by
 suffices hh:∃x,iG κ [d,.non]=some x∧x=.bl true by
  obtain⟨x,h1,rfl⟩:=hh
  exact h1
 refine lE rfl ?_
 unfold Ah
 refine cI (bQ rfl (by decide)) (by exact Nat.le_of_ble_eq_true rfl) (cI rfl (by exact Nat.le_of_ble_eq_true rfl) ?_)
 refine bc (i:=0) ?_ (uo (by decide) (by decide) rfl) ?_
 ·show (some [d]).bind (cA κ)=some 0
  exact h
 refine aAp (by exact Nat.le_of_ble_eq_true rfl) (nG (bQ (aC rfl (aC rfl rfl)) (by decide)) (by exact Nat.le_of_ble_eq_true rfl) (nG (aO rfl (bQ (aC rfl (aC rfl rfl)) (by decide)) (rD rfl (by decide))) (by exact Nat.le_of_ble_eq_true rfl) (jC (aO rfl (bQ (aC rfl rfl) (by decide)) (rD rfl (by decide))) (by exact Nat.le_of_ble_eq_true rfl)))) (by exact Nat.le_of_ble_eq_true rfl) ?_
 refine PL (b:=true) (bU (aO rfl rfl rfl)) rfl (pG (aO rfl (bQ (aC rfl (aC rfl (aC rfl (aC rfl (aC rfl rfl))))) (by decide)) rfl) ⟨_,rfl,?_⟩)
 exact congrArg D.bl (by decide)
theorem KN{κ:Nat→Addr}{d:D}{s:List (List (List Int))}(h:cA κ [d]=none)(hv:lY [d]=some (aZ s))(hal:lN [aZ s,aZ s]=some (.bl true)):iG κ [d,aZ s]=some (.bl true):=by
 suffices hh:∃x,iG κ [d,aZ s]=some x∧x=.bl true by
  obtain⟨x,h1,rfl⟩:=hh
  exact h1
 refine lE rfl ?_
 unfold Ah
 refine cI (bQ rfl (by decide)) (by exact Nat.le_of_ble_eq_true rfl) (cI rfl (by exact Nat.le_of_ble_eq_true rfl) ?_)
 refine az ?_ ?_
 ·show (some [d]).bind (cA κ)=none
  exact h
 refine cI (aX (aC rfl rfl) rfl hv) (by exact Nat.le_of_ble_eq_true rfl) ?_
 refine lA (b:=false) (bU (aO rfl rfl rfl)) rfl (jE (qO (Ju (a:=true) (aO rfl (bQ rfl (by decide)) (show _=some (D.bl (decide (([]:List Bool)=[])))from rfl)) (aX (aC rfl (aC rfl rfl)) rfl hal)) ⟨_,rfl,rfl⟩))
theorem Kr{κ:Nat→Addr}{l:List Nat}(hl:l.length≤5000):iG κ [.str (sS l),if sV l=true then aZ (pK l)else .non]=some (.bl true):=by
 rw[bu]
 have h:=Qz (κ:=κ) hl
 cases q:Ht l with
 | false=>
  rw[if_neg B8]
  exact Kq (h.2 q)
 | true=>
  rw[if_pos rfl]
  obtain⟨h1,h2⟩:=h.1 q
  unfold Ht at q
  rw[B4]at q
  have g:=q.2
  unfold Bc at g
  rw[B4,B4,B4]at g
  have g1:=of_decide_eq_true g.1
  have g2:=of_decide_eq_true g.2.1.2
  refine KN h2 h1 (Xy _ (by omega) λp hp=>?_)
  have:=of_decide_eq_true (D9.mp g.2.2 p hp)
  omega
theorem dg:Ht []=false:=by decide +kernel
abbrev ur:List D:=[.non,.int 7,.bl true,.lst [.str "0,0,-1,-1,0 0"],.tup [.str "0,0,-1,-1,0 0"],.lst [.lst [.tup [.int 0,.int 0,.int (-1),.int (-1),.int 0],.tup [.int 0]]],.str (sS [])]
theorem Yo(κ:Nat→Addr)(ns:List Int)(hl:ns.length≤63)(hS:∀k∈ns,Small k):aj κ [.lst (ns.map D.int)]=some (.bl true):=by
 suffices h:∃d,aj κ [aW ns]=some d∧d=.bl true by
  obtain⟨d,h1,rfl⟩:=h
  exact h1
 have hd:=rN (k:=4) hl (by decide) (by decide)
 obtain⟨b0,b1⟩:=vG ns 4
 generalize qW ns 4=r at *
 have m0:=F9 r (by decide:(7:Int)≠0)
 have m1:=F3 r (by decide:(0:Int)<7)
 obtain⟨d,e1,e2⟩:∃d,ur[(r%7).toNat]?=some d∧cA κ [d]=some 0:=by
  have hi:(r%7).toNat<7:=by omega
  generalize (r%7).toNat=i at *
  match i,hi with
  | 0,_=>exact⟨_,rfl,Ek rfl (by decide)⟩
  | 1,_=>exact⟨_,rfl,Ek rfl (by decide)⟩
  | 2,_=>exact⟨_,rfl,Ek rfl (by decide)⟩
  | 3,_=>exact⟨_,rfl,Ek rfl (by decide)⟩
  | 4,_=>exact⟨_,rfl,Ek rfl (by decide)⟩
  | 5,_=>exact⟨_,rfl,Ek rfl (by decide)⟩
  | 6,_=>exact⟨_,rfl,(Qz (κ:=κ) (l:=[]) (by decide)).2 dg⟩
 obtain⟨s,hs,uv⟩:=KJ hl
 obtain⟨T,hT,hTl⟩:=cu hl uv.1 uv.2
 obtain⟨U,hU,hUl⟩:=Yn (T:=T) hl hTl
 refine lE rfl ?_
 unfold ue
 rw[aAn]
 refine ZW (d:=.lst ur) (bQ (aC rfl (aC rfl (aC rfl (aC (bQ (aC rfl rfl) (by decide)) (aC (yE (aC rfl rfl) (by decide)) (aC (bQ (aC (bQ (aC (yE (aC rfl (aC rfl (aC (oX rfl) (aC (oX rfl) (aC rfl rfl))))) (by decide)) (aC (yE (aC rfl rfl) (by decide)) rfl)) (by decide)) rfl) (by decide)) (aC rfl rfl))))))) (by decide)) (by exact Nat.le_of_ble_eq_true rfl) ?_
 refine lA (b:=false) (dR (b:=true) (bU (aX (aC (aO rfl (aO (aX (aC rfl (aC rfl rfl)) rfl hd) rfl (bN (by decide))) (jY m0 e1)) (aC rfl rfl)) rfl (Kq e2)))) rfl (jE ?_)
 refine cI (aX (aC rfl (aC (aX (aC rfl rfl) rfl hs) rfl)) rfl hT) (by exact Nat.le_of_ble_eq_true rfl) ?_
 refine lA (b:=false) (dR (b:=true) (bU (aX (aC rfl (aC (aX (aC rfl rfl) rfl (PX (l:=T) (by omega))) rfl)) rfl (Kr (l:=T) (by omega))))) rfl (jE ?_)
 refine cI (aX (aC rfl (aC rfl rfl)) rfl hU) (by exact Nat.le_of_ble_eq_true rfl) ?_
 exact qO (aX (aC rfl (aC (aX (aC rfl rfl) rfl (PX hUl)) rfl)) rfl (Kr hUl)) ⟨_,rfl,rfl⟩
end Rs

def PySem.W.Fast.tw14584466604734370072:Unit:=()
def PySem.W.Fast.tw12920194879499438745:Unit:=()
def PySem.W.Fast.tw12284326604722815224:Unit:=()
def PySem.W.Fast.tw343704553816974735:Unit:=()
def PySem.W.Fast.tw11513575288061951843:Unit:=()
def PySem.W.Fast.tw18157122718717807124:Unit:=()
def PySem.W.Fast.tw12683062873913030768:Unit:=()
def PySem.W.Fast.tw3526440681062772290:Unit:=()
def PySem.W.Fast.tw11900894648226126195:Unit:=()
def PySem.W.Fast.tw5593316363937806434:Unit:=()
def PySem.W.Fast.tw4832531970711686211:Unit:=()
def PySem.W.Fast.tw7721793443219127887:Unit:=()
def PySem.W.Fast.tw10470038223831929231:Unit:=()
def PySem.W.Fast.tw1087152955466020356:Unit:=()
def PySem.W.Fast.tw18222619527437523775:Unit:=()
def PySem.W.Fast.tw5871405710476210800:Unit:=()
def PySem.W.Fast.tw8288845517992244093:Unit:=()
def PySem.W.Fast.tw1495072670890408246:Unit:=()
def PySem.W.Fast.tw3109165266690923617:Unit:=()
def PySem.W.Fast.tw10763623480106441073:Unit:=()
def PySem.W.Fast.tw8734775912449833584:Unit:=()
def PySem.W.Fast.tw976237236796951048:Unit:=()
def PySem.W.Fast.tw513077431430894407:Unit:=()
def PySem.W.Fast.tw10983418628879801049:Unit:=()
def PySem.W.Fast.tw13439974853193053552:Unit:=()
def PySem.W.Fast.tw16574811223433125630:Unit:=()
def PySem.W.Fast.tw11054139767019688810:Unit:=()
def PySem.W.Fast.tw3905407112373346668:Unit:=()
def PySem.W.Fast.tw6831235050110821233:Unit:=()
def PySem.W.Fast.tw15474708041997427272:Unit:=()
def PySem.W.Fast.tw5907774712846545977:Unit:=()
def PySem.W.Fast.tw1544807735833096723:Unit:=()
def PySem.W.Fast.tw12120541423326346800:Unit:=()
def PySem.W.Fast.tw6906419606357386939:Unit:=()
def PySem.W.Fast.tw1095402623290322725:Unit:=()
def PySem.W.Fast.tw17437841148210142371:Unit:=()
def PySem.W.Fast.tw2849820433582481700:Unit:=()
def PySem.W.Fast.tw13825597699397832281:Unit:=()
def PySem.W.Fast.tw11849550580961666822:Unit:=()
def PySem.W.Fast.tw12344659040154122096:Unit:=()
def PySem.W.Fast.tw12693392870330466630:Unit:=()
def PySem.W.Fast.tw7025263121669421920:Unit:=()
def PySem.W.Fast.tw7956451854033886835:Unit:=()
def PySem.W.Fast.tw16537435379551894147:Unit:=()
def PySem.W.Fast.tw242718586000985206:Unit:=()
def PySem.W.Fast.tw7973291894417202118:Unit:=()
def PySem.W.Fast.tw3802092921914319196:Unit:=()
def PySem.W.Fast.tw16252135836796517460:Unit:=()
def PySem.W.Fast.tw1463132316408351275:Unit:=()
def PySem.W.Fast.tw3055609991081074698:Unit:=()
def PySem.W.Fast.tw8930721357770297106:Unit:=()
def PySem.W.Fast.tw7411822557754473802:Unit:=()
def PySem.W.Fast.tw13249178234309841547:Unit:=()
namespace Rs
open PySem L2
theorem KQ{K:aA}{f:Addr}{oc:Value}{od:Option Addr}{fd:FuncData}{sl:Array (Option Value)}(l:K.lookup f=some ⟨oc,od,.func fd,sl⟩):K6 K (.ref f)=true:=by
 unfold K6
 dsimp only
 rw[l]
theorem aAt{K:aA}{h:Heap}{mg:Str→Option Value}{x:Str}{st:Stmt}{f:Addr}{oc:Value}{od an:Option Addr}{osl:Array (Option Value)}{kV doc pm cdv ct:Value}(X:K.In h)(G:h.Ns mainGlobals mg)(a:G7 K mainGlobals x=some (some (.ref f)))(l:K.lookup f=some ⟨oc,od,.func (G6 x x (fV st) (cQ st) (aM st) .none kV doc pm an cdv ct),osl⟩)(c:N7 K cdv x=true):Raw K mg x st:=VB X G a l c (KQ l)
theorem KR{K:aA}{a b:Value}{v:Bool}(h:B5 K a b=some v):O9 K a b=some v:=by
 unfold B5 at h
 split at h
 ·exact h
 ·cases h
theorem uw{K:aA}{C:Addr}{v:Value}(h:Q0 K C v=some true):(Q2 K C).isSome=true:=by
 unfold Q0 at h
 cases q:Q2 K C with
 | none=>rw[q]at h;cases h
 | some c=>rfl
theorem exX{K:aA}{h:Heap}{mg:Str→Option Value}(X:K.In h)(G:h.Ns mainGlobals mg){E0 E1 E2 E3 E4 E5 E6 E7 E8 E9 E10:Addr}(a0:G7 K mainGlobals "NoText" = some (some (.ref E0))) (a1:G7 K mainGlobals "StoneError" = some (some (.ref E1))) (a2:G7 K mainGlobals "NoPlace" = some (some (.ref E2))) (a3:G7 K mainGlobals "NoChange" = some (some (.ref E3))) (a4:G7 K mainGlobals "Full" = some (some (.ref E4))) (a5:G7 K mainGlobals "Twice" = some (some (.ref E5))) (a6:G7 K mainGlobals "NoWorth" = some (some (.ref E6))) (a7:G7 K mainGlobals "NoKey" = some (some (.ref E7))) (a8:G7 K mainGlobals "BadStone" = some (some (.ref E8))) (a9:G7 K mainGlobals "NoDeed" = some (some (.ref E9))) (a10:G7 K mainGlobals "NoRow" = some (some (.ref E10))) (b0:J5 K E0 nW "ValueError.__new__" = true) (b1:J5 K E1 nW "ValueError.__new__" = true) (b2:J5 K E2 nW "ValueError.__new__" = true) (b3:J5 K E3 nW "ValueError.__new__" = true) (b4:J5 K E4 nW "ValueError.__new__" = true) (b5:J5 K E5 nW "ValueError.__new__" = true) (b6:J5 K E6 nW "ValueError.__new__" = true) (b7:J5 K E7 nW "ValueError.__new__" = true) (b8:J5 K E8 nW "ValueError.__new__" = true) (b9:J5 K E9 nW "ValueError.__new__" = true) (b10:J5 K E10 nW "ValueError.__new__" = true) (Yp:B5 K (.ref E0) (.ref E0)=some true) (Yq:B5 K (.ref E0) (.ref E1)=some true) (Yr:B5 K (.ref E0) (.ref E2)=some false) (Ys:B5 K (.ref E0) (.ref E3)=some false) (Yt:B5 K (.ref E0) (.ref E4)=some false) (Yu:B5 K (.ref E0) (.ref E5)=some false) (Yv:B5 K (.ref E0) (.ref E6)=some false) (Yw:B5 K (.ref E0) (.ref E7)=some false) (Yx:B5 K (.ref E0) (.ref E8)=some false) (Yy:B5 K (.ref E0) (.ref E9)=some false) (Ks:B5 K (.ref E0) (.ref E10)=some false) (v0:B5 K (.ref E0) (.type "ValueError")=some true) (dh:J6 K (.ref E0) "__getattribute__" = some (some (.builtin "BaseException.__getattribute__"))) (di:J6 K (.ref E0) "__getattr__" = some none) (dj:J6 K (.ref E0) "__class__" = some (some (.builtin "object.__class__"))) (dm:P4 K (.builtin "object.__class__") "__get__" = some (some (.builtin "getset_descriptor.__get__"))) (dq:U0 K (.builtin "object.__class__")=some true) (KY:Q0 K E0 (.type "object")=some true) (du:Y9 K (.ref E0) (.type "BaseException")=some true):∃E0 E1 E2 E3 E4 E5 E6 E7 E8 E9 E10:Addr,oJ K mg "NoText" E0∧oJ K mg "StoneError" E1∧oJ K mg "NoPlace" E2∧oJ K mg "NoChange" E3∧oJ K mg "Full" E4∧oJ K mg "Twice" E5∧oJ K mg "NoWorth" E6∧oJ K mg "NoKey" E7∧oJ K mg "BadStone" E8∧oJ K mg "NoDeed" E9∧oJ K mg "NoRow" E10∧B5 K (.ref E0) (.ref E0)=some true∧B5 K (.ref E0) (.ref E1)=some true∧B5 K (.ref E0) (.ref E2)=some false∧B5 K (.ref E0) (.ref E3)=some false∧B5 K (.ref E0) (.ref E4)=some false∧B5 K (.ref E0) (.ref E5)=some false∧B5 K (.ref E0) (.ref E6)=some false∧B5 K (.ref E0) (.ref E7)=some false∧B5 K (.ref E0) (.ref E8)=some false∧B5 K (.ref E0) (.ref E9)=some false∧B5 K (.ref E0) (.ref E10)=some false∧B5 K (.ref E0) (.type "ValueError")=some true∧zL K E0:=⟨E0,E1,E2,E3,E4,E5,E6,E7,E8,E9,E10,⟨G4 X G a0,b0⟩,⟨G4 X G a1,b1⟩,⟨G4 X G a2,b2⟩,⟨G4 X G a3,b3⟩,⟨G4 X G a4,b4⟩,⟨G4 X G a5,b5⟩,⟨G4 X G a6,b6⟩,⟨G4 X G a7,b7⟩,⟨G4 X G a8,b8⟩,⟨G4 X G a9,b9⟩,⟨G4 X G a10,b10⟩,Yp,Yq,Yr,Ys,Yt,Yu,Yv,Yw,Yx,Yy,Ks,v0,⟨dh,di,dj,dm,dq,KY,du,uw KY⟩⟩
theorem walk{l:Y2}{q:Program}{loose:List Str}{XP:(Str→Option Value)→Heap→Prop}{YP:World→Heap→Prop}{d:DefRec}{K:Params→aA}(hn:l.most=some 63)(hdf:d.params.defaults=[])(hdn:d.name = "law")
  (hY:∀(w:World)(h:Heap),YP w h→(K w.params).In h)
  (F:∀(w:World)(mg:Str→Option Value)(h:Heap),(K w.params).In h→h.Ns mainGlobals mg→(∃E0 E1 E2 E3 E4 E5 E6 E7 E8 E9 E10:Addr,oJ (K w.params) mg "NoText" E0∧oJ (K w.params) mg "StoneError" E1∧oJ (K w.params) mg "NoPlace" E2∧oJ (K w.params) mg "NoChange" E3∧oJ (K w.params) mg "Full" E4∧oJ (K w.params) mg "Twice" E5∧oJ (K w.params) mg "NoWorth" E6∧oJ (K w.params) mg "NoKey" E7∧oJ (K w.params) mg "BadStone" E8∧oJ (K w.params) mg "NoDeed" E9∧oJ (K w.params) mg "NoRow" E10∧B5 (K w.params) (.ref E0) (.ref E0)=some true∧B5 (K w.params) (.ref E0) (.ref E1)=some true∧B5 (K w.params) (.ref E0) (.ref E2)=some false∧B5 (K w.params) (.ref E0) (.ref E3)=some false∧B5 (K w.params) (.ref E0) (.ref E4)=some false∧B5 (K w.params) (.ref E0) (.ref E5)=some false∧B5 (K w.params) (.ref E0) (.ref E6)=some false∧B5 (K w.params) (.ref E0) (.ref E7)=some false∧B5 (K w.params) (.ref E0) (.ref E8)=some false∧B5 (K w.params) (.ref E0) (.ref E9)=some false∧B5 (K w.params) (.ref E0) (.ref E10)=some false∧B5 (K w.params) (.ref E0) (.type "ValueError")=some true∧zL (K w.params) E0)∧Raw (K w.params) mg "_law_draw" Ab∧Raw (K w.params) mg "_law_text" Ac∧Raw (K w.params) mg "_law_spoilt" tO∧Raw (K w.params) mg "is_number" rF∧Raw (K w.params) mg "read_number" mU∧Raw (K w.params) mg "read_thing" iR∧Raw (K w.params) mg "read_pane" jP∧Raw (K w.params) mg "is_grid" vB∧Raw (K w.params) mg "read_stone" iT∧Raw (K w.params) mg "_law_whole" wC∧Raw (K w.params) mg "_law_tuple" wD∧Raw (K w.params) mg "_law_alike" wF∧Raw (K w.params) mg "_law_good" Ag∧Raw (K w.params) mg "_law_sizes" rJ∧Raw (K w.params) mg "_law_number" tQ∧Raw (K w.params) mg "_law_due" vC∧Raw (K w.params) mg "law" aa∧mg "len" = none∧mg "range" = none∧mg "str" = none∧mg "all" = none∧mg "isinstance" = none∧mg "int" = none∧mg "tuple" = none∧mg "list" = none∧mg "bool" = none∧mg "ValueError" = none∧kZ mg "MINUS" "-" ∧ Pj mg "MOST_FIGURES" (60)∧kZ mg "FIGURES" "0123456789" ∧ kZ mg "ZERO" "0" ∧ kZ mg "BETWEEN_NUMBERS" "," ∧ kZ mg "BETWEEN_THINGS" " " ∧ wU (K w.params) mg "BLANK_RECORD" [0,0,-1,-1,0]∧wU (K w.params) mg "BLANK_SEAL" [0]∧kZ mg "BETWEEN_PANES" ";") :
  Y7 q loose XP YP l.row.toRowW d [] (λf vs=>Y1 f vs):=by
 refine L2.Su (n:=63) (k:=7) (x := "script") (CX:=λ_=>Ue) (sp:=λw=>zq (K w.params)) hn (by decide) hdf ⟨rfl,by decide,by decide⟩ hY ?_ (λ_ _ a ns hl hb _ hS=>⟨a,ns,rfl,hS,hl,hb,λ_=>rfl⟩) λ_ _ _ _ _ z=>z
 intro w mg fa h KX G hmg
 obtain⟨⟨E0,E1,E2,E3,E4,E5,E6,E7,E8,E9,E10,gU,qR,Ao,wL,Xp,Nu,An,Nt,wK,Gz,Nr,Yp,Yq,Yr,Ys,Yt,Yu,Yv,Yw,Yx,Yy,Ks,v0,xc0⟩,RLawDraw,RLawText,RLawSpoilt,RIsNumber,RReadNumber,RReadThing,RReadPane,RIsGrid,RReadStone,RLawWhole,RLawTuple,RLawAlike,RLawGood,RLawSizes,RLawNumber,RLawDue,RLaw,cD,nH,sG,Nk,aP,Tt,pB,wY,Xo,qT,Nm,pA,Ak,Ql,cL,eE,dF,jU,dM⟩:=F w mg h KX G
 obtain⟨κ,e0,e1,e2,e3,e4,e5,e6,e7,e8,e9,e10⟩:∃κ:Nat→Addr,κ 0=E0∧κ 1=E1∧κ 2=E2∧κ 3=E3∧κ 4=E4∧κ 5=E5∧κ 6=E6∧κ 7=E7∧κ 8=E8∧κ 9=E9∧κ 10=E10:=⟨(λn=>match n with | 0=>E0 | 1=>E1 | 2=>E2 | 3=>E3 | 4=>E4 | 5=>E5 | 6=>E6 | 7=>E7 | 8=>E8 | 9=>E9 | 10=>E10 | _=>E0),rfl,rfl,rfl,rfl,rfl,rfl,rfl,rfl,rfl,rfl,rfl⟩
 subst e0 e1 e2 e3 e4 e5 e6 e7 e8 e9 e10
 have XM:∀i j,i<1→j<11→B5 (K w.params) (.ref (κ i)) (.ref (κ j))=some (wB i j):=λi j hi hj=>match i,j,hi,hj with
  | 0,0,_,_=>Yp
  | 0,1,_,_=>Yq
  | 0,2,_,_=>Yr
  | 0,3,_,_=>Ys
  | 0,4,_,_=>Yt
  | 0,5,_,_=>Yu
  | 0,6,_,_=>Yv
  | 0,7,_,_=>Yw
  | 0,8,_,_=>Yx
  | 0,9,_,_=>Yy
  | 0,10,_,_=>Ks
  | n+1,_,h,_=>absurd h (by omega)
  | _,n+11,_,h=>absurd h (by omega)
 have XV:∀i,i<1→O9 (K w.params) (.ref (κ i)) (.type "ValueError")=some true:=λi hi=>match i,hi with
  | 0,_=>KR v0
  | n+1,h=>absurd h (by omega)
 have XC:∀i,i<1→zL (K w.params) (κ i):=λi hi=>match i,hi with
  | 0,_=>xc0
  | n+1,h=>absurd h (by omega)
 obtain⟨f,fd,FL,m⟩:=RLaw.ex
 rw[hdn]at hmg
 have e:=hmg.symm.trans m
 cases e
 refine⟨fd,Mq FL (λ_ _ _ _ _ _ u=>rfl),λbase _ _=>?_⟩
 have dD:=Ni (P:=l.prog) (w:=w) (mg:=mg) (base:=base) RLawDraw  cD
 have Aq:=Nj (P:=l.prog) (w:=w) (mg:=mg) (base:=base) RLawText dD  nH sG
 have tX:=Gv (P:=l.prog) (w:=w) (mg:=mg) (base:=base) RLawSpoilt dD  cD
 have lO:=Ka (P:=l.prog) (w:=w) (mg:=mg) (base:=base) RIsNumber  cD Nk Nm pA Ak Ql
 have gJ:=Bx (P:=l.prog) (w:=w) (mg:=mg) (base:=base) RReadNumber lO  aP sG Tt
 have gK:=Gw (P:=l.prog) (w:=w) (mg:=mg) (base:=base) RReadThing gJ  cD pB cL
 have jV:=Kc (P:=l.prog) (w:=w) (mg:=mg) (base:=base) RReadPane gK  cD eE dF jU
 have rM:=Tu (P:=l.prog) (w:=w) (mg:=mg) (base:=base) RIsGrid  cD aP wY Nk
 have tU:=Gx (P:=l.prog) (w:=w) (mg:=mg) (base:=base) RReadStone jV rM  aP sG dM
 have wG:=Kd (P:=l.prog) (w:=w) (mg:=mg) (base:=base) RLawWhole  aP Xo Tt
 have wH:=Ke (P:=l.prog) (w:=w) (mg:=mg) (base:=base) RLawTuple wG  cD aP pB
 have wJ:=Kf (P:=l.prog) (w:=w) (mg:=mg) (base:=base) RLawAlike wH  cD aP wY nH
 have qQ:=Am (P:=l.prog) (w:=w) (mg:=mg) (base:=base) RReadNumber lO gU aP sG
 have pC:=By (P:=l.prog) (w:=w) (mg:=mg) (base:=base) RReadThing gJ qQ gU cD cL
 have wI:=Gy (P:=l.prog) (w:=w) (mg:=mg) (base:=base) RReadPane gK pC cD eE dF jU
 have tV:=Ca (P:=l.prog) (w:=w) (mg:=mg) (base:=base) RReadStone jV rM wI gU aP sG dM
 have qU:=Nq (P:=l.prog) (w:=w) (mg:=mg) (base:=base) RLawGood tU wJ tV qR Nr wK Gz Nt An Nu Xp wL Ao gU XM XC XV aP qT
 have wM:=Kg (P:=l.prog) (w:=w) (mg:=mg) (base:=base) RLawSizes dD  nH
 have tW:=Hf (P:=l.prog) (w:=w) (mg:=mg) (base:=base) RLawNumber  cD
 have yG:=Tv (P:=l.prog) (w:=w) (mg:=mg) (base:=base) RLawDue tW  pB cD
 exact ak FL dD qU wM Aq yG tX  (Yo κ)
end Rs
open PySem PySem.W PyProof.Rows
set_option maxRecDepth 100000 in
set_option maxHeartbeats 0 in
theorem PySem.Challenge.cw_ripestone_k55_odd_stones_holds : PySem.Challenge.rw_ripestone_k55_odd_stones.Holds := by
 w_on;o_law;k_head;(case hw=>w_witness2)
 k_fill
 refine Rs.walk (l:=PySem.Challenge.rw_ripestone_k55_odd_stones) rfl rfl rfl (λw h Y=>PySem.W.kIn_of Y) ?F
 case F=>
  intro w mg h KX G
  refine⟨?_,?_,?_,?_,?_,?_,?_,?_,?_,?_,?_,?_,?_,?_,?_,?_,?_,?_,J1 KX G ?_,J1 KX G ?_,J1 KX G ?_,J1 KX G ?_,J1 KX G ?_,J1 KX G ?_,J1 KX G ?_,J1 KX G ?_,J1 KX G ?_,J1 KX G ?_,?_,?_,?_,?_,?_,?_,?_,?_,?_⟩
  ·refine' Rs.exX KX G ?a0 ?a1 ?a2 ?a3 ?a4 ?a5 ?a6 ?a7 ?a8 ?a9 ?a10 ?b0 ?b1 ?b2 ?b3 ?b4 ?b5 ?b6 ?b7 ?b8 ?b9 ?b10 ?Yp ?Yq ?Yr ?Ys ?Yt ?Yu ?Yv ?Yw ?Yx ?Yy ?Ks ?v0 ?dh ?di ?dj ?dm ?dq ?KY ?du
   (case a0=>k_is);(case a1=>k_is);(case a2=>k_is);(case a3=>k_is);(case a4=>k_is);(case a5=>k_is);(case a6=>k_is);(case a7=>k_is);(case a8=>k_is);(case a9=>k_is);(case a10=>k_is);(case b0=>k_exc);(case b1=>k_exc);(case b2=>k_exc);(case b3=>k_exc);(case b4=>k_exc);(case b5=>k_exc);(case b6=>k_exc);(case b7=>k_exc);(case b8=>k_exc);(case b9=>k_exc);(case b10=>k_exc);(case Yp=>kts_exm);(case Yq=>kts_exm);(case Yr=>kts_exm);(case Ys=>kts_exm);(case Yt=>kts_exm);(case Yu=>kts_exm);(case Yv=>kts_exm);(case Yw=>kts_exm);(case Yx=>kts_exm);(case Yy=>kts_exm);(case Ks=>kts_exm);(case v0=>kts_exm);(case dh=>k_is);(case di=>k_is);(case dj=>k_is);(case dm=>k_is);(case dq=>k_is);(case KY=>k_is);(case du=>k_is)
  iterate 17
   ·refine' Rs.aAt KX G ?a ?l ?c
    (case a=>k_is);(case l=>k_is);(case c=>k_is)
  iterate 10
   ·k_is
  ·refine' L2.nT KX G ?a
   (case a=>k_is)
  ·refine' L2.Vx KX G ?a
   (case a=>k_is)
  ·refine' L2.nT KX G ?a
   (case a=>k_is)
  ·refine' L2.nT KX G ?a
   (case a=>k_is)
  ·refine' L2.nT KX G ?a
   (case a=>k_is)
  ·refine' L2.nT KX G ?a
   (case a=>k_is)
  ·refine' L2.Jh KX G ?a ?l ?v ?s
   (case a=>k_is);(case l=>k_is)
   (case v=>exact .cons ⟨_,rfl⟩ (.cons ⟨_,rfl⟩ (.cons ⟨_,rfl⟩ (.cons ⟨_,rfl⟩ (.cons ⟨_,rfl⟩ (.nil))))))
   (case s=>decide)
  ·refine' L2.Jh KX G ?a ?l ?v ?s
   (case a=>k_is);(case l=>k_is)
   (case v=>exact .cons ⟨_,rfl⟩ (.nil))
   (case s=>decide)
  ·refine' L2.nT KX G ?a
   (case a=>k_is)
#print axioms PySem.Challenge.cw_ripestone_k55_odd_stones_holds
