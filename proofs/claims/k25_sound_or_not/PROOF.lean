import PyProof.Rows.All
import Wide.All
import OpenK.AllK
import Wide.FinOn
import Lean
import PyProof.EqAt
import PyProof.EqKinds
import PyProof.TupleCall
import PySem.Challenge.RW_ripestone_k25_sound_or_not
open Array renaming length_toList→O1,getElem?_toList→R0,toList→V8
open Bool renaming false_ne_true→E2,and_false→F5,eq_iff_iff→J5,and_eq_true→K1,false_and→O3,and_eq_false_iff→R3
open Int renaming emod_lt_of_pos→B6,emod_nonneg→B9,toNat_natCast→C7,toNat→G5,natCast_mul→L9,mul_nonneg→O4,le_refl→Q5,toNat_of_nonneg→S2,zero_add→S9,pow_pos→T6,ediv_le_self→U1,ediv_nonneg→U9,mul_le_mul→V3
open List renaming length_map→A5,getElem?_eq_getElem→A6,getD_eq_getElem?_getD→A7,size_toArray→A9,length_append→B5,getElem?_map→B8,range→C5,getElem?_set_ne→C8,getElem?_eq_some_iff→C9,getElem?_set_self→D1,mem_of_getElem?→D2,length_range→D3,map_cons→D4,mem_cons_of_mem→D5,mem_map→D6,length_set→D7,replicate→D9,mem_append_right→E3,mem_cons_self→E5,getElem?_append_right→E6,getElem?_append_left→E8,mem_cons→E9,mem_singleton→F2,all_eq_true→F3,getElem_mem→F4,mem_range→F8,map_nil→G0,map_append→G1,length_cons→G2,map_map→G3,mem_append→G8,getElem_of_mem→I0,length_drop→J0,not_mem_nil→J1,mem_or_eq_of_mem_set→J4,getElem?_set→J8,eraseIdx_cons_succ→J9,zipWith_cons_cons→K2,find?_cons→K4,getElem?_eq_none→K5,drop_eq_getElem_cons→K6,length_take→K7,cons_append→K8,mem_append_left→L4,replicate_succ→L6,nodup_cons→L7,getLast?_eq_getElem?→L8,zip_cons_cons→M4,take_of_length_le→M5,lookup_cons→M6,any_eq_true→M7,getElem_map→M9,append_nil→N4,of_mem_zip→N5,length_zip→N6,map_set→N8,mem_set→N9,filterMap_cons→O0,getElem?_range→O2,ext_getElem?→P0,pairwise_iff_getElem→P1,getElem_zip→P6,getElem?_replicate→P8,getElem?_cons_succ→P9,nil_append→Q1,drop_eq_nil_of_le→Q4,map_id→Q7,length_replicate→Q9,zipWith_nil_left→R1,mem_of_mem_drop→R5,length_eraseIdx→R7,any_cons→R8,take_succ_cons→R9,map_congr_left→S0,mem_filterMap→S3,zipWith→S8,nodup_append→T2,getElem_take→T3,getLast?_map→T4,getElem_drop→T5,drop_length→U0,take_length→U2,mem_filter→U4,length_nil→U6,range_succ→V0
open Nat renaming le_refl→B7,lt_of_lt_of_le→C6,le_of_ble_eq_true→D8,ne_of_lt→E7,le_trans→F9,lt_irrefl→G6,zero_le→K9,sub_self→L3,ne_of_gt→M3,le_add_right→M8,zero_add→N7,lt_succ_of_lt→O9,le_of_lt→P4,lt_succ_self→P5,sub_zero→P7,le_succ→Q3,mul_le_mul→R4,div_lt_of_lt_mul→R6,lt_of_le_of_lt→S5,min_self→S6,lt_or_ge→T0,succ_le_succ→T9,mod_add_div→V1
open Option renaming bind_some→C4,getD_some→L5,isSome_map→T1,getD_none→T8,none→W0
open Option.some renaming inj→E1
open Or renaming inr→B3,inl→B4
open PyProof.Rows renaming boot_list→E4,boot_all→J3,boot_tuple→K0,callWith_type1→K3,boot_int→N3,boot_bool→Q6
open PySem renaming boot_len→A8,mem_of_lookup→G9,call→U7,Within→V7
open PySem.F renaming plainAttrs_list→F1,slot_list_append→J6,type_list_append→J7,slot_list_pop→N1,type_list_pop→N2
open PySem.W renaming kia_one→F0,fnOf→F6,mg_none_of→F7,keepIn→G7,findIn→J2,codeIn→L0,methodObj→O5,specialIn→O6,kitx_list→O7,kitx_dict→O8,instObj→Q0,cellsFrom_some→Q2,lookIn→Q8,kitx_tuple→S4,nsIn→S7,plainGet→T7,hideAll→U3,takesIn→U5,OpenLaw→U8,kitOne→V2,mroIn→V4,WalkO→V5,mg_of→V6,isFn→V9
open Sum renaming inl→G4,inr→P2
abbrev aC:=PySem.W.Frag
theorem bL{α:Type u_1}{b:α}{β:Type u_2}{x:Option β}{f:β→Option α}(h:x.bind f=some b):∃a,x=some a∧f a=some b:=Option.bind_eq_some_iff.mp h
theorem lZ{α:Type u_1}{b:α}{β:Type u_2}{x:Option β}{f:β→α}(h:x.map f=some b):∃a,x=some a∧f a=b:=Option.map_eq_some_iff.mp h

set_option Elab.async false
set_option linter.all false
set_option maxRecDepth 100000
namespace L2
open PySem PySem.Spec PyProof.Rows
abbrev Key:=Sum Int Str
def Eu:Key→Value→Bool
 | .inl k,v=>Value.isInt k v
 | .inr x,v=>Value.isStrOf x v
def zf(w:World):Key→Int
 | .inl k=>hashInt k
 | .inr x=>hashStr w x
theorem dU:∀{k:Key} {v:Value},Eu k v=true→(∃i t,k=G4 i∧v=Value.int i t)∨(∃x t,k=P2 x∧v=Value.str x t)
 | .inl i,v,h=>by
  obtain⟨t,e⟩:=Value.isInt_shape (k:=i) (v:=v) h
  exact .inl ⟨i,t,rfl,e⟩
 | .inr x,v,h=>by
  obtain⟨t,e⟩:=Value.isStrOf_shape (x:=x) (v:=v) h
  exact .inr ⟨x,t,rfl,e⟩
theorem Vg(i:Int)(t:Tok):Eu (.inl i) (.int i t)=true:=by simp[Eu,Value.isInt]
theorem Vh(x:Str)(t:Tok):Eu (.inr x) (.str x t)=true:=by simp[Eu,Value.isStrOf]
theorem WN(a b:Int):decide ((G4 a:Key)=G4 b)=(a==b):=by
 by_cases e:a=b
 ·subst e;simp
 ·have h:¬(G4 a:Key)=G4 b:=λq=>e (Sum.inl.inj q)
  rw[decide_eq_false h]
  exact(beq_eq_false_iff_ne.mpr e).symm
theorem WQ(a b:Str):decide ((P2 a:Key)=P2 b)=decide (a=b):=by
 by_cases e:a=b
 ·subst e;simp
 ·have h:¬(P2 a:Key)=P2 b:=λq=>e (Sum.inr.inj q)
  rw[decide_eq_false h,decide_eq_false e]
theorem WR(a:Int)(b:Str):decide ((G4 a:Key)=P2 b)=false:=decide_eq_false (λq=>nomatch q)
theorem WT(a:Str)(b:Int):decide ((P2 a:Key)=G4 b)=false:=decide_eq_false (λq=>nomatch q)
def eU(prog:Program)(w:World):PySem.KeyKind prog w Key where
  is:=Eu
  hash:=zf w
  inj:=λv a b ha hb=>by
    rcases dU ha with ⟨i,t,rfl,rfl⟩ | ⟨x,t,rfl,rfl⟩
    · rcases dU hb with ⟨j,u,rfl,e⟩ | ⟨y,u,rfl,e⟩
      · injection e with e1 _;rw[e1]
      · exact nomatch e
    · rcases dU hb with ⟨j,u,rfl,e⟩ | ⟨y,u,rfl,e⟩
      · exact nomatch e
      · injection e with e1 _;rw[e1]
  byValue:=λk v h=>by
    rcases dU h with ⟨i,t,rfl,rfl⟩ | ⟨x,t,rfl,rfl⟩<;>rfl
  pyHash:=λhv h=>by
    rcases dU hv with ⟨i,t,rfl,rfl⟩ | ⟨x,t,rfl,rfl⟩
    · exact wpAny_pyHash_int h
    · exact wpAny_pyHash_str h
  eqBool:=λhu hv h=>by
    rcases dU hu with ⟨i,t,rfl,rfl⟩ | ⟨x,t,rfl,rfl⟩
    · rcases dU hv with ⟨j,u,rfl,rfl⟩ | ⟨y,u,rfl,rfl⟩
      · rw[WN]at h;exact wpAny_eqBool_int h
      · rw[WR]at h;exact SeqAt.EqAt.int_str i t y u _ _ _ _ h
    · rcases dU hv with ⟨j,u,rfl,rfl⟩ | ⟨y,u,rfl,rfl⟩
      · rw[WT]at h;exact SeqAt.EqAt.str_int x t j u _ _ _ _ h
      · rw[WQ]at h;exact wpAny_eqBool_str h
  «strs»:=λk x t v h=>by
    rcases dU h with ⟨i,u,rfl,e⟩ | ⟨y,u,rfl,e⟩
    · exact nomatch e
    · injection e with e1 _
      subst e1
      cases v<;>rfl
theorem Lf(prog:Program)(w:World)(i:Int)(t:Tok):(eU prog w).is (.inl i) (.int i t)=true:=Vg i t
theorem Lg(prog:Program)(w:World)(x:Str)(t:Tok):(eU prog w).is (.inr x) (.str x t)=true:=Vh x t
end L2
namespace L2
open PySem PySem.Spec PyProof.Rows
inductive V where
  | non | bl (b:Bool) | int (i:Int) | str (x:Str) | byt (b:Array UInt8) | flt (b:UInt64) | ref (a:Addr) | ty (n:String)
  deriving DecidableEq
def RelV:V→Value→Prop
 | .non,u=>u=Value.none
 | .bl b,u=>u=Value.bool b
 | .int i,u=>∃t,u=Value.int i t
 | .str x,u=>∃t,u=Value.str x t
 | .byt b,u=>∃t,u=Value.bytes b t
 | .flt b,u=>∃t,u=Value.float b t
 | .ref a,u=>u=Value.ref a
 | .ty n,u=>u=Value.type n
abbrev Vals:List V→List Value→Prop:=Paired RelV
theorem Vals.length{xs:List V}{us:List Value}(r:Vals xs us):xs.length=us.length:=Paired.length r
theorem Vals.get:∀{xs:List V} {us:List Value} {i:Nat} {x:V},Vals xs us→xs[i]?=some x→∃u,us[i]?=some u∧RelV x u
 | _,_,_,_,.nil,e=>by simp at e
 | _,_,0,_,.cons r _,e=>by simp at e;subst e;exact⟨_,rfl,r⟩
 | _,_,i+1,x,.cons _ t,e=>by
  obtain⟨u,h1,h2⟩:=Vals.get (i:=i) (x:=x) t (by simpa using e)
  exact⟨u,by simpa using h1,h2⟩
theorem Vals.set{x:V}{u:Value}(r:RelV x u):∀{xs:List V} {us:List Value} (i:Nat),Vals xs us→Vals (xs.set i x) (us.set i u)
 | _,_,_,.nil=>.nil
 | _,_,0,.cons _ t=>.cons r t
 | _,_,i+1,.cons q t=>.cons q (Vals.set r i t)
theorem Vals.append:∀{xs ys:List V} {us ws:List Value},Vals xs us→Vals ys ws→Vals (xs++ys) (us++ws)
 | _,_,_,_,.nil,s=>s
 | _,_,_,_,.cons r t,s=>.cons r (Vals.append t s)
theorem Vals.take:∀{xs:List V} {us:List Value} (n:Nat),Vals xs us→Vals (xs.take n) (us.take n)
 | _,_,0,_=>.nil
 | _,_,_+1,.nil=>.nil
 | _,_,n+1,.cons r t=>.cons r (Vals.take n t)
theorem Vals.drop:∀{xs:List V} {us:List Value} (n:Nat),Vals xs us→Vals (xs.drop n) (us.drop n)
 | _,_,0,r=>r
 | _,_,_+1,.nil=>.nil
 | _,_,n+1,.cons _ t=>Vals.drop n t
def Pq:Option V→Option Value→Prop
 | some v,some u=>RelV v u
 | none,none=>True
 | _,_=>False
def KV{κ:Type}:List (κ×V)→List (κ×Value)→Prop:=Paired λ(p:κ×V) (q:κ×Value)=>p.1=q.1∧RelV p.2 q.2
def kV:Key→V
 | .inl i=>.int i
 | .inr x=>.str x
inductive HO where
  | lst (xs:List V)
  | tup (xs:List V)
  | dK (kvs:List (Key×V)) | dT (kvs:List (List Key×V))
  | set (S:Int→Bool) (n:Nat)
  | ins (C dx:Addr) (fs:List (Str×V))
  | own (x:Addr)
  | xd (fs:List (Str×V))
  | met (f x:Addr)
  | rng (lo hi:Int)
  | wI (o:Obj) (u:HO)
  | tbl (ps:Array Value)
  | ext (φ:Heap→Prop)
abbrev Hp:=Addr→Option HO
def upd(H:Hp)(a:Addr)(o:HO):Hp:=λb=>if b=a then some o else H b
theorem bO{H:Hp}{a:Addr}{o:HO}:upd H a o a=some o:=by unfold upd;rw[if_pos rfl]
theorem bY{H:Hp}{a b:Addr}{o:HO}(h:b≠a):upd H a o b=H b:=by unfold upd;rw[if_neg h]
theorem JC{H:Hp}{a:Addr}{o u:HO}:upd (upd H a o) a u=upd H a u:=by
 funext b;unfold upd;split<;>rfl
theorem lr{H:Hp}{a b:Addr}{o u:HO}(h:H a=some o)(h':H b=some u)(d:o≠u):a≠b:=by
 intro e;subst e;rw[h]at h';exact d (E1 h')
theorem gO{H:Hp}{a b:Addr}{o:HO}(h:H a=some o)(h':H b=none):a≠b:=by
 intro e;subst e;rw[h]at h';cases h'
section
variable(P:Program)(w:World)
def fX(H:Hp)(h:Heap)(a:Addr):HO→Prop
 | .lst xs=>xs.length≤sizeLine∧∃(its:List Value)(n:Nat),Vals xs its∧h.get? a=some {cls:=.type "list", data:=.seq its.toArray n}
 | .tup xs=>xs.length≤sizeLine∧∃its:List Value,Vals xs its∧IsTup h a its.toArray
 | .dK kvs=>kvs.length≤sizeLine∧(a==sysModules)=false∧∃vs,KV kvs vs∧h.DictOf (eU P w) a vs
 | .dT kvs=>kvs.length≤sizeLine∧(a==sysModules)=false∧∃xs:List (List Key×Addr×Value),
   Paired (λ(p:List Key×V) (q:List Key×Addr×Value)=>p.1=q.1∧H q.2.1=some (.tup (p.1.map kV))∧RelV p.2 q.2.2) kvs xs ∧
   ∃o es ep,h.get? a=some o∧o.ExactDict∧o.data=.dict es ep∧es.toList=xs.map (entryOfKey (tupleKind (eU P w)))∧(xs.map (·.1)).Nodup
 | .set S n=>h.SetOf (intKind P w) a S n
 | .ins C dx fs=>H dx=some (.own a)∧fs.length≤1000∧dx≠a∧h.get? a=some (Q0 C dx) ∧
   ∃mA,h.Ns1 dx mA∧(∀f,Pq (fs.lookup f) (mA f))∧V7 mA (fs.map (·.1))
 | .own _=>∃o,h.get? a=some o
 | .xd fs=>∃mA,h.Ns1 a mA∧∀f,Pq (fs.lookup f) (mA f)
 | .rng lo hi=>∃t u v,h.get? a=some {cls:=.type "range", data:=.fields #[.int lo t,.int hi u,.int 1 v]}
 | .wI o u=>h.get? a=some o∧fX H h a u
 | .tbl ps=>h.get? a=some {cls:=.none,data:=.fields ps}
 | .met f x=>h.get? a=some (O5 (.ref f) (.ref x))
 | .ext φ=>φ h∧(∃o,h.get? a=some o)∧∀h1 h2:Heap,φ h1→(∀o,h1.get? a=some o→h2.get? a=some o)→φ h2
def tV(H:Hp)(h:Heap):Prop:=∀a o,H a=some o→fX P w H h a o
end
section
variable{P:Program}{w:World}{H H':Hp}{h h':Heap}{a:Addr}{o:HO}
theorem fX.lt(x:fX P w H h a o):a<h.objs.size:=by
 cases o with
 | lst xs=>obtain⟨_,_,_,_,e⟩:=x;exact Heap.lt_size e
 | tup xs=>obtain⟨_,_,_,p⟩:=x;exact p.lt
 | dK kvs=>obtain⟨_,_,_,_,o,_,_,e,_⟩:=x;exact Heap.lt_size e
 | dT kvs=>obtain⟨_,_,_,_,o,_,_,e,_⟩:=x;exact Heap.lt_size e
 | set S n=>obtain⟨o,_,_,_,e,_⟩:=x;exact Heap.lt_size e
 | ins C dx fs=>obtain⟨_,_,_,e,_⟩:=x;exact Heap.lt_size e
 | own y=>obtain⟨_,e⟩:=x;exact Heap.lt_size e
 | xd fs=>obtain⟨_,⟨_,_,_,e,_⟩,_⟩:=x;exact Heap.lt_size e
 | rng lo hi=>obtain⟨_,_,_,e⟩:=x;exact Heap.lt_size e
 | wI ob u=>obtain⟨e,_⟩:=x;exact Heap.lt_size e
 | tbl ps=>exact Heap.lt_size (show h.get? a=some _ from x)
 | met f y=>exact Heap.lt_size (show h.get? a=some _ from x)
 | ext φ=>obtain⟨_,⟨_,e⟩,_⟩:=x;exact Heap.lt_size e
theorem Paired.WW{α β:Type}{F G:α→β→Prop}:∀{l₁:List α} {l₂:List β},Paired F l₁ l₂→(∀a b,F a b→G a b)→Paired G l₁ l₂
 | _,_,.nil,_=>.nil
 | _,_,.cons r t,f=>.cons (f _ _ r) (Paired.WW t f)
theorem fX.stay(x:fX P w H h a o)(k:∀b u,(b=a∨H b=some (.own a))→h.get? b=some u→h'.get? b=some u)
  (ho:∀b,H b=some (.own a)→H' b=some (.own a)) (ht:∀b xs,H b=some (.tup xs)→H' b=some (.tup xs)):fX P w H' h' a o:=by
 induction o with
 | lst xs=>obtain⟨z,its,n,r,e⟩:=x;exact⟨z,its,n,r,k _ _ (.inl rfl) e⟩
 | tup xs=>obtain⟨z,its,r,ob,e,c⟩:=x;exact⟨z,its,r,ob,k _ _ (.inl rfl) e,c⟩
 | dK kvs=>obtain⟨z,y,vs,r,ob,es,ep,e,c⟩:=x;exact⟨z,y,vs,r,ob,es,ep,k _ _ (.inl rfl) e,c⟩
 | dT kvs=>
  obtain⟨z,y,xs,r,ob,es,ep,e,c⟩:=x
  exact⟨z,y,xs,Paired.WW r λp q z=>⟨z.1,ht _ _ z.2.1,z.2.2⟩,ob,es,ep,k _ _ (.inl rfl) e,c⟩
 | set S n=>obtain⟨ob,es,ep,t,e,c⟩:=x;exact⟨ob,es,ep,t,k _ _ (.inl rfl) e,c⟩
 | ins C dx fs=>
  obtain⟨d,z,ne,e,mA,⟨od,es,ep,e2,c⟩,r⟩:=x
  exact⟨ho _ d,z,ne,k _ _ (.inl rfl) e,mA,⟨od,es,ep,k _ _ (.inr d) e2,c⟩,r⟩
 | own y=>obtain⟨ob,e⟩:=x;exact⟨ob,k _ _ (.inl rfl) e⟩
 | xd fs=>obtain⟨mA,⟨od,es,ep,e,c⟩,r⟩:=x;exact⟨mA,⟨od,es,ep,k _ _ (.inl rfl) e,c⟩,r⟩
 | rng lo hi=>obtain⟨t,u,v,e⟩:=x;exact⟨t,u,v,k _ _ (.inl rfl) e⟩
 | wI ob u ih=>obtain⟨e,q⟩:=x;exact⟨k _ _ (.inl rfl) e,ih q⟩
 | tbl ps=>
  have e:h.get? a=some {cls:=.none,data:=.fields ps}:=x
  show h'.get? a=some {cls:=.none,data:=.fields ps}
  exact k a _ (.inl rfl) e
 | met f y=>
  have e:h.get? a=some (O5 (.ref f) (.ref y)):=x
  show h'.get? a=some (O5 (.ref f) (.ref y))
  exact k a _ (.inl rfl) e
 | ext φ=>obtain⟨p,⟨o,e⟩,st⟩:=x;exact⟨st _ _ p λo q=>k _ _ (.inl rfl) q,⟨o,k _ _ (.inl rfl) e⟩,st⟩
theorem tV.lt(x:tV P w H h)(e:H a=some o):a<h.objs.size:=(x a o e).lt
theorem tV.fresh(x:tV P w H h)(e:h.objs.size≤a):H a=none:=by
 cases q:H a with
 | none=>rfl
 | some u=>exact absurd (C6 (x.lt q) e) (G6 _)
theorem tV.kept(x:tV P w H h)(k:∀b u,h.get? b=some u→h'.get? b=some u):tV P w H h':=λa o e=>
 (x a o e).stay (λb u _ q=>k b u q) (λ_ q=>q) λ_ _ q=>q
theorem tV.laid(x:tV P w H h)(k:∀b u,h.get? b=some u→h'.get? b=some u)(hp:h.objs.size≤a)(new:fX P w (upd H a o) h' a o):tV P w (upd H a o) h':=λb u e=>by
 have hn:=x.fresh hp
 by_cases hb:b=a
 ·subst hb;rw[bO]at e;cases e;exact new
 ·rw[bY hb]at e
  exact(x b u e).stay (λc v _ q=>k c v q) (λc q=>by rw[bY (gO q hn)];exact q) λc xs q=>by rw[bY (gO q hn)];exact q
end
def Rd(H:Hp)(a:Addr)(u:HO):Prop:=H a=some u∨∃o,H a=some (.wI o u)
theorem Rd.ok{P:Program}{w:World}{H:Hp}{h:Heap}{a:Addr}{u:HO}(r:Rd H a u)(x:tV P w H h):fX P w H h a u:=by
 rcases r with r | ⟨o,r⟩
 ·exact x a u r
 ·obtain⟨_,q⟩:=x a _ r
  exact q
def lu:Option HO→Prop
 | some (.lst _)=>True
 | some (.dK _)=>True
 | some (.dT _)=>True
 | some (.set _ _)=>True
 | some (.ins _ _ _)=>True
 | some (.ext _)=>True
 | _=>False
section
variable{P:Program}{w:World}{H:Hp}{h h':Heap}{x e:Addr}{o':HO}
theorem tV.write(ok:tV P w H h)(mu:lu (H x))(he:e=x∨H e=some (.own x))(k:∀b u,b≠e→h.get? b=some u→h'.get? b=some u)(heo:∃u,h'.get? e=some u)
  (new:fX P w (upd H x o') h' x o'):tV P w (upd H x o') h':=λb u q=>by
 have lz:∀c y,H c=some (.own y)→c≠x:=λc y r z=>by subst z;rw[r]at mu;exact mu
 have zg:∀c xs,H c=some (.tup xs)→c≠x:=λc xs r z=>by subst z;rw[r]at mu;exact mu
 by_cases hb:b=x
 ·subst hb;rw[bO]at q;cases q;exact new
 ·rw[bY hb]at q
  by_cases hbe:b=e
  ·have q':H b=some (.own x):=by
    rcases he with z | z
    ·exact absurd (hbe.trans z) hb
    ·rw[hbe];exact z
   rw[q]at q';cases q'
   obtain⟨v,hv⟩:=heo
   exact⟨v,by rw[hbe];exact hv⟩
  ·refine(ok b u q).stay (λc v hc r=>k c v ?_ r) (λc r=>by rw[bY (lz c b r)];exact r) λc xs r=>by rw[bY (zg c xs r)];exact r
   rcases hc with rfl | hc
   ·exact hbe
   ·rintro rfl
    rcases he with z | z
    ·exact lz c b hc z
    ·rw[hc]at z;cases z;exact hb rfl
end
structure Un(fs ex:List Addr)(H H':Hp)(h h':Heap):Prop where
 keep:∀b o,h.get? b=some o→H b=none→b∉fs→b∉ex→h'.get? b=some o
 slot:∀b o,h.get? b=some o→H b=none→b∈fs→b∉ex→∃sl,h'.get? b=some {o with slots:=sl}
 free:∀b o,h.get? b=some o→H b=none→b∉ex→H' b=none
 there:∀b o,h.get? b=some o→b∉ex→∃o',h'.get? b=some o'
 tups:∀b xs,H b=some (.tup xs)→H' b=some (.tup xs)
 Ig:∀b o u,H b=some (.wI o u)→H' b=some (.wI o u)
 Lh:∀b ps,H b=some (.tbl ps)→∃more,H' b=some (.tbl (ps++more))
section
variable{fs fs' ex ex':List Addr}{H H1 H2:Hp}{h h1 h2 h':Heap}{a x e:Addr}{o:HO}
theorem Un.any(u:Un fs ex H H1 h h1){b:Addr}{ob:Obj}(q:h.get? b=some ob)(n:H b=none)(hx:b∉ex):∃sl,h1.get? b=some {ob with slots:=sl}:=by
 by_cases hb:b∈fs
 ·exact u.slot b ob q n hb hx
 ·exact⟨ob.slots,u.keep b ob q n hb hx⟩
theorem Un.kept(k:∀b u,h.get? b=some u→h'.get? b=some u):Un fs ex H H h h':=
 ⟨λb ob q _ _ _=>k b ob q,λb ob q _ _ _=>⟨ob.slots,k b ob q⟩,λ_ _ _ n _=>n,λb ob q _=>⟨ob,k b ob q⟩,λ_ _ q=>q,λ_ _ _ q=>q,λ_ ps q=>⟨#[],by rw[q];simp⟩⟩
theorem Un.refl:Un fs ex H H h h:=Un.kept λ_ _ q=>q
theorem Un.laid(k:∀b u,h.get? b=some u→h'.get? b=some u)(hp:h.objs.size≤a)(hn:H a=none):Un fs ex H (upd H a o) h h' where
 keep:=λb u q _ _ _=>k b u q
 slot:=λb u q _ _ _=>⟨u.slots,k b u q⟩
 free:=λb u q n _=>by rw[bY (E7 (C6 (Heap.lt_size q) hp))];exact n
 there:=λb u q _=>⟨u,k b u q⟩
 tups:=λb xs q=>by rw[bY (gO q hn)];exact q
 Ig:=λb u xs q=>by rw[bY (gO q hn)];exact q
 Lh:=λb ps q=>⟨#[],by rw[bY (gO q hn),q];simp⟩
theorem Un.write(mu:lu (H x))(he:e=x∨H e=some (.own x))(k:∀b u,b≠e→h.get? b=some u→h'.get? b=some u)(heo:∃u,h'.get? e=some u):Un fs ex H (upd H x o) h h':=by
 have hx:∀b,H b=none→b≠x:=λb n z=>by subst z;rw[n]at mu;exact mu
 have hb:∀b,H b=none→b≠e:=λb n z=>by
  subst z
  rcases he with r | r
  ·exact hx b n r
  ·rw[n]at r;cases r
 have hm:∀b u,H b=some u→¬lu (some u)→b≠x:=λb u q nm z=>by subst z;rw[q]at mu;exact nm mu
 refine⟨λb u q n _ _=>k b u (hb b n) q,λb u q n _ _=>⟨u.slots,k b u (hb b n) q⟩,λb u q n _=>by rw[bY (hx b n)];exact n,λb u q _=>?_,
  λb xs q=>by rw[bY (hm b _ q λz=>z)];exact q,λb u xs q=>by rw[bY (hm b _ q λz=>z)];exact q,λb ps q=>⟨#[],by rw[bY (hm b _ q λz=>z),q];simp⟩⟩
 by_cases hbe:b=e
 ·subst hbe;exact heo
 ·exact⟨u,k b u hbe q⟩
end
def xg(h:Heap)(H:Hp):List Addr:=(C5 h.objs.size).filter λa=>(H a).isSome
def Ih(h:Heap)(H:Hp):Heap:=U3 h (xg h H)
theorem Vi(h:Heap)(H:Hp):(Ih h H).objs.size=h.objs.size:=PySem.W.hideAll_size _ _
theorem Yc{h:Heap}{H:Hp}{b:Addr}{o:Obj}(e:h.get? b=some o)(n:H b=none):(Ih h H).get? b=some o:=
 PySem.W.hideAll_get _ e λhm=>by
  have q:(H b).isSome=true:=(U4.mp hm).2
  rw[n]at q;simp at q
theorem JD{h:Heap}{H:Hp}{b:Addr}{o:Obj}(e:(Ih h H).get? b=some o):h.get? b=some o∧H b=none:=by
 have e':h.get? b=some o:=PySem.W.of_hideAll (xg h H) e
 refine⟨e',?_⟩
 cases q:H b with
 | none=>rfl
 | some x=>
  have hm:b∈xg h H:=U4.mpr ⟨F8.mpr (Heap.lt_size e'),by simp[q]⟩
  have z:(Ih h H).get? b=none:=PySem.W.hideAll_none (xg h H) hm
  rw[z]at e;cases e
def JF(g h:Heap)(L:Addr):List (Addr×Obj):=(C5 h.objs.size).filterMap λa=>if a=L∨(g.get? a).isSome=true then none else(h.get? a).map λo=>(a,o)
def rest(g h:Heap)(L d:Addr):List (Addr×Obj):=(JF g h L).filter λp=>decide (p.1≠d)
end L2
namespace L2
open PySem PySem.Spec PyProof.Rows
structure Mod(K:aC)(mg:Str→Option Value)(base:Heap):Prop where
 zj:K.In base
 glob:base.Ns mainGlobals mg
 blt:∃mb,base.Ns builtinsNs mb∧∀x:Str,x ≠ "__name__" → mb x=bootBuiltins x
 nolimit:base.NoLimit
structure Cx where
 prog:Program
 w:World
 K:aC
 mg:Str→Option Value
 base:Heap
 A:Around
 N:List Str
 s₀:Shared
 H₀:Hp
 env:Env
 outer:List Env
 stack:List Env
 ex:List Addr
 fn:Str→Bool
 calm:Bool
 pn:List (Addr×Obj)
 xe:Value→Shared→Prop
def frs(l:List Env):List Addr:=l.filterMap (·.frame)
abbrev Cx.fs(X:Cx):List Addr:=frs X.outer
def xj(sc:Scope)(x:Str):Prop:=sc.names.lookup x=some .local∨sc.names.lookup x=some .cell∨sc.names.lookup x=some .free
def Loc(sc:Scope)(x:Str):Prop:=sc.names.lookup x=some .local∨sc.names.lookup x=some .cell
def Look(env:Env)(h:Heap)(m:Str→Option Value)(x:Str)(u:Value):Prop:=
 (env.kindOf x=some .local∧m x=some u)∨((env.kindOf x=some .cell∨env.kindOf x=some .free)∧∃c,env.cells.lookup x=some c∧h.IsCell c (some u))
structure Cx.Ok(X:Cx):Prop where
 mod:Mod X.K X.mg X.base
 kind:X.env.scope.kind=.function
 glob:X.env.globals=mainGlobals
 blt:X.env.builtins=builtinsNs
 above:X.s₀.heap.objs.size≤X.env.locals
 inj:∀x y c,X.env.cells.lookup x=some c→X.env.cells.lookup y=some c→x=y
 has:∀x,(X.env.kindOf x=some .cell∨X.env.kindOf x=some .free)→∃c,X.env.cells.lookup x=some c
 cab:∀x c,X.fn x=true→X.env.cells.lookup x=some c→X.s₀.heap.objs.size≤c
 hd:X.calm=true→X.A.handled=none
 frames:X.A.frames=some X.stack
 xm:X.stack=X.outer∨(X.stack=X.env::X.outer∧X.env.frame=some X.env.locals)
 exf:∀b∈X.ex,b≠X.env.locals∧∀x c,X.env.cells.lookup x=some c→c≠b
 bs:∀b o,X.base.get? b=some o→X.s₀.heap.get? b=some o∧X.H₀ b=none
 RZ:X.base.objs.size≤X.s₀.heap.objs.size
 Yd:∀b o,X.base.get? b=some o→b∉X.ex
 JG:∀b∈X.ex,b∉X.fs
 Ak:X.s₀.heap.FunFrames X.base X.outer
 jr:∀b∈X.fs,X.H₀ b=none
structure Inv(X:Cx)(pins:List (Addr×Obj))(σ:List (Option V))(H:Hp)(s:Shared):Prop where
 ok:X.Ok
 os:s.os=X.s₀.os
 bare:AllBare s.gens
 base:Un X.fs X.ex X.H₀ H X.s₀.heap s.heap
 loc:∃m,s.heap.Ns X.env.locals m∧∀(i:Nat)(x:Str)(v:V),X.N[i]?=some x→σ[i]?=some (some v)→xj X.env.scope x→∃u,RelV v u∧Look X.env s.heap m x u
 cell:∀x c,X.env.cells.lookup x=some c→∃v,s.heap.IsCell c v
 free:H X.env.locals=none
 qZ:∀x c,X.env.cells.lookup x=some c→H c=none
 pin:∀p∈X.pn++pins,s.heap.get? p.1=some p.2∧H p.1=none∧p.1≠X.env.locals∧p.1∉X.fs∧∀v,p.2.data≠.cell v
 hok:tV X.prog X.w H s.heap
 len:σ.length=X.N.length
section
variable{X:Cx}{pins:List (Addr×Obj)}{σ:List (Option V)}{H H':Hp}{s:Shared}{h':Heap}
theorem Cx.Ok.zp(ok:X.Ok){b:Addr}{o:Obj}(e:X.base.get? b=some o):b∉X.fs:=λhb=>by
 have:=(ok.Ak.mem hb).1
 rw[e]at this;cases this
theorem Inv.bs(I:Inv X pins σ H s):∀b o,X.base.get? b=some o→s.heap.get? b=some o∧H b=none:=λb o e=>
 ⟨I.base.keep b o (I.ok.bs b o e).1 (I.ok.bs b o e).2 (I.ok.zp e) (I.ok.Yd b o e),I.base.free b o (I.ok.bs b o e).1 (I.ok.bs b o e).2 (I.ok.Yd b o e)⟩
theorem Inv.bk(I:Inv X pins σ H s):∀b o,X.base.get? b=some o→s.heap.get? b=some o:=λb o e=>(I.bs b o e).1
theorem Inv.mod(I:Inv X pins σ H s):Mod X.K X.mg X.base:=I.ok.mod
theorem Inv.Ew(I:Inv X pins σ H s):X.K.In s.heap:=I.ok.mod.zj.keeps I.bk
theorem Inv.lt(I:Inv X pins σ H s):X.env.locals<s.heap.objs.size:=let ⟨_,hn,_⟩:=I.loc;hn.lt
theorem Inv.sz(I:Inv X pins σ H s):X.s₀.heap.objs.size≤s.heap.objs.size:=F9 I.ok.above (P4 I.lt)
theorem Inv.zq(I:Inv X pins σ H s){a:Addr}(h:s.heap.objs.size≤a):a∉X.fs:=λhb=>by
 obtain⟨_,o,ho,_⟩:=I.ok.Ak.mem hb
 exact absurd (C6 (Heap.lt_size ho) (F9 I.sz h)) (G6 _)
theorem Inv.HX(I:Inv X pins σ H s):∀x c,X.env.cells.lookup x=some c→c≠X.env.locals:=λx c e z=>by
 obtain⟨v,o,ho,hd⟩:=I.cell x c e
 obtain⟨m,⟨o',es,ep,ho',hd',_⟩,_⟩:=I.loc
 rw[z,ho']at ho;cases ho;rw[hd']at hd;cases hd
theorem Inv.Ak(I:Inv X pins σ H s):s.heap.FunFrames X.base X.outer:=by
 have all:∀(l:List Env),(∀b∈frs l,b∈X.fs)→X.s₀.heap.FunFrames X.base l→s.heap.FunFrames X.base l:=by
  intro l
  induction l with
  | nil=>intro _ _;trivial
  | cons env r ih=>
   intro hs hl
   obtain⟨hk,⟨L,o,hf,hn,ho,hd⟩,hr⟩:=hl
   have hL:L∈X.fs:=hs L (by unfold frs;rw[O0,hf];exact E5)
   obtain⟨sl,e⟩:=I.base.slot L o ho (I.ok.jr L hL) hL λz=>I.ok.JG L z hL
   exact⟨hk,⟨L,_,hf,hn,e,hd⟩,ih (λb hb=>hs b (by unfold frs;rw[O0,hf];exact D5 _ hb)) hr⟩
 exact all X.outer (λ_ hb=>hb) I.ok.Ak
theorem Inv.stack(I:Inv X pins σ H s):s.heap.FunFrames X.base X.stack:=by
 rcases I.ok.xm with e | ⟨e,hf⟩
 ·rw[e];exact I.Ak
 ·rw[e]
  obtain⟨m,hn,_⟩:=I.loc
  refine .cons (by rw[I.ok.kind];decide) hf hn ?_ I.Ak
  exact Heap.get?_none_of_le (F9 I.ok.RZ I.ok.above)
theorem Inv.Ii(I:Inv X pins σ H s):∀b∈frs X.stack,b∈X.env.locals::X.fs:=λb hb=>by
 rcases I.ok.xm with e | ⟨e,hf⟩
 ·rw[e]at hb;exact D5 _ hb
 ·rw[e]at hb
  unfold frs at hb
  rw[O0,hf]at hb
  exact hb
theorem Inv.Sy(I:Inv X pins σ H s):∀b∈frs X.stack,H b=none:=λb hb=>by
 rcases E9.mp (I.Ii b hb)with e | hb
 ·rw[e];exact I.free
 ·obtain⟨_,o,ho,_⟩:=I.ok.Ak.mem hb
  exact I.base.free b o ho (I.ok.jr b hb) λz=>I.ok.JG b z hb
theorem Inv.step{g':Array GenState}{t':Nat}{d':Drawn}{ch:List Addr}(I:Inv X pins σ H s)
  (hch:∀b∈ch,(b∈X.ex∨X.s₀.heap.objs.size≤b)∧b≠X.env.locals∧(∀x c,X.env.cells.lookup x=some c→c≠b)∧∀p∈X.pn++pins,p.1≠b)
  (keep:∀b o,b≠X.env.locals→b∉X.fs→b∉ch→s.heap.get? b=some o→H b=none→h'.get? b=some o)
  (slot:∀b o,b≠X.env.locals→b∈X.fs→b∉ch→s.heap.get? b=some o→H b=none→∃sl,h'.get? b=some {o with slots:=sl}) (free:∀b o,b∉ch→s.heap.get? b=some o→H b=none→H' b=none)
  (there:∀b o,b∉ch→s.heap.get? b=some o→∃o',h'.get? b=some o')
  (tups:∀b xs,H b=some (.tup xs)→H' b=some (.tup xs)) (Ig:∀b o u,H b=some (.wI o u)→H' b=some (.wI o u)) (Lh:∀b ps,H b=some (.tbl ps)→∃more,H' b=some (.tbl (ps++more)))
  (ns:∀m,s.heap.Ns X.env.locals m→h'.Ns X.env.locals m) (hok:tV X.prog X.w H' h') (hg:AllBare g') :
  Inv X pins σ H' {s with heap:=h',gens:=g',drawn:=d',toks:=t'}:=by
 have neL:∀b o,X.s₀.heap.get? b=some o→b≠X.env.locals:=λb o e=>E7 (C6 (Heap.lt_size e) I.ok.above)
 have jt:∀b o,X.s₀.heap.get? b=some o→b∉X.ex→b∉ch:=λb o e hx hb=>by
  rcases(hch b hb).1 with z | z
  ·exact hx z
  ·exact absurd (C6 (Heap.lt_size e) z) (G6 _)
 have cellK:∀x c,X.env.cells.lookup x=some c→∀v,s.heap.IsCell c v→h'.IsCell c v:=λx c e v ⟨o,ho,hd⟩=>by
  have mj:c∉ch:=λz=>(hch c z).2.2.1 x c e rfl
  by_cases hc:c∈X.fs
  ·obtain⟨sl,q⟩:=slot c o (I.HX x c e) hc mj ho (I.qZ x c e)
   exact⟨_,q,hd⟩
  ·exact⟨o,keep c o (I.HX x c e) hc mj ho (I.qZ x c e),hd⟩
 refine⟨I.ok,I.os,hg,⟨λb o e n hb hx=>?_,λb o e n hb hx=>?_,λb o e n hx=>?_,λb o e hx=>?_,λb xs e=>tups b xs (I.base.tups b xs e),λb o xs e=>Ig b o xs (I.base.Ig b o xs e),λb ps e=>?_⟩,?_,λx c e=>?_,?_,λx c e=>?_,λp hp=>?_,hok,I.len⟩
 ·exact keep b o (neL b o e) hb (jt b o e hx) (I.base.keep b o e n hb hx) (I.base.free b o e n hx)
 ·obtain⟨sl,e1⟩:=I.base.slot b o e n hb hx
  obtain⟨sl',e2⟩:=slot b _ (neL b o e) hb (jt b o e hx) e1 (I.base.free b o e n hx)
  exact⟨sl',e2⟩
 ·obtain⟨o',e1⟩:=I.base.there b o e hx
  exact free b o' (jt b o e hx) e1 (I.base.free b o e n hx)
 ·obtain⟨o',e1⟩:=I.base.there b o e hx
  exact there b o' (jt b o e hx) e1
 ·obtain⟨m1,e1⟩:=I.base.Lh b ps e
  obtain⟨m2,e2⟩:=Lh b _ e1
  exact⟨m1++m2,by rw[e2,Array.append_assoc]⟩
 ·obtain⟨m,hn,hl⟩:=I.loc
  refine⟨m,ns m hn,λi x v e1 e2 e3=>?_⟩
  obtain⟨u,r,l⟩:=hl i x v e1 e2 e3
  refine⟨u,r,?_⟩
  rcases l with l | ⟨k,c,e,z⟩
  ·exact .inl l
  ·exact .inr ⟨k,c,e,cellK x c e _ z⟩
 ·obtain⟨v,z⟩:=I.cell x c e
  exact⟨v,cellK x c e v z⟩
 ·obtain⟨m,⟨o,_,_,ho,_⟩,_⟩:=I.loc
  exact free _ o (λz=>(hch _ z).2.1 rfl) ho I.free
 ·obtain⟨v,o,ho,hd⟩:=I.cell x c e
  exact free c o (λz=>(hch c z).2.2.1 x c e rfl) ho (I.qZ x c e)
 ·obtain⟨e,n,ne,nf,d⟩:=I.pin p hp
  have mj:p.1∉ch:=λz=>(hch p.1 z).2.2.2 p hp rfl
  exact⟨keep p.1 p.2 ne nf mj e n,free p.1 p.2 mj e n,ne,nf,d⟩
theorem Inv.un{t':Nat}(I:Inv X pins σ H s)(u:Un X.fs [] H H' s.heap h')(hok:tV X.prog X.w H' h'):Inv X pins σ H' {s with heap:=h',toks:=t'}:=by
 obtain⟨m,⟨o,es,ep,ho,r⟩,_⟩:=id I.loc
 obtain⟨sl,hL⟩:=u.any ho I.free (by simp)
 exact I.step (g':=s.gens) (d':=s.drawn) (ch:=[]) (λ_ z=>nomatch z) (λb o _ hb _ e n=>u.keep b o e n hb (by simp)) (λb o _ hb _ e n=>u.slot b o e n hb (by simp)) (λb o _ e n=>u.free b o e n (by simp)) (λb o _ e=>u.there b o e (by simp)) u.tups u.Ig u.Lh (λm' hm=>by
  obtain⟨o',es',ep',ho',r'⟩:=hm
  rw[ho]at ho';cases ho'
  exact⟨_,es',ep',hL,r'⟩) hok I.bare
theorem Inv.call{g':Array GenState}{t':Nat}{d':Drawn}{ch:List Addr}(I:Inv X pins σ H s)(u:Un (frs X.stack) ch H H' s.heap h')(hok:tV X.prog X.w H' h')(hg:AllBare g')
  (hch:∀b∈ch,(b∈X.ex∨X.s₀.heap.objs.size≤b)∧b≠X.env.locals∧(∀x c,X.env.cells.lookup x=some c→c≠b)∧∀p∈X.pn++pins,p.1≠b) :
  Inv X pins σ H' {s with heap:=h',gens:=g',drawn:=d',toks:=t'}:=by
 obtain⟨m,⟨o,es,ep,ho,r⟩,_⟩:=id I.loc
 obtain⟨sl,hL⟩:=u.any ho I.free λz=>(hch _ z).2.1 rfl
 exact I.step (ch:=ch) hch (λb o hL hb hc e n=>u.keep b o e n (λz=>(E9.mp (I.Ii b z)).elim hL hb) hc) (λb o _ _ hc e n=>u.any e n hc) (λb o hc e n=>u.free b o e n hc) (λb o hc e=>u.there b o e hc) u.tups u.Ig u.Lh (λm' hm=>by
  obtain⟨o',es',ep',ho',r'⟩:=hm
  rw[ho]at ho';cases ho'
  exact⟨_,es',ep',hL,r'⟩) hok hg
theorem Inv.turned{t':Nat}{it:Addr}(I:Inv X pins σ H s)(k:∀b o,b≠it→s.heap.get? b=some o→h'.get? b=some o)(hn:H it=none)(hL:it≠X.env.locals)
  (h1:it∈X.ex∨X.s₀.heap.objs.size≤it) (h2:∀x c,X.env.cells.lookup x=some c→c≠it) (h3:∀p∈X.pn++pins,p.1≠it):Inv X pins σ H {s with heap:=h',toks:=t'}:=by
 have mq:∀b u,H b=some u→b≠it:=λb u e z=>by rw[z,hn]at e;cases e
 refine I.step (g':=s.gens) (d':=s.drawn) (ch:=[it]) (λb hb=>?_) (λb o _ _ hc e _=>k b o (λz=>hc (by simp[z])) e) (λb o _ _ hc e _=>⟨o.slots,k b o (λz=>hc (by simp[z])) e⟩) (λ_ _ _ _ n=>n)
  (λb o hc e=>⟨o,k b o (λz=>hc (by simp[z])) e⟩) (λ_ _ e=>e) (λ_ _ _ e=>e) (λb ps e=>⟨#[],by rw[e];simp⟩) (λm hm=>?_) (λb u e=>?_) I.bare
 ·have e:b=it:=by simpa using hb
  subst e
  exact⟨h1,hL,h2,h3⟩
 ·obtain⟨o,es,ep,ho,r⟩:=hm
  exact⟨o,es,ep,k _ o (Ne.symm hL) ho,r⟩
 ·refine(I.hok b u e).stay (λc v hc q=>k c v ?_ q) (λ_ q=>q) λ_ _ q=>q
  rcases hc with z | z
  ·rw[z];exact mq b u e
  ·exact mq c _ z
theorem Inv.tok(I:Inv X pins σ H s)(t:Nat):Inv X pins σ H {s with toks:=t}:=I.un (h':=s.heap) (t':=t) Un.refl I.hok
theorem Inv.kept{t':Nat}(I:Inv X pins σ H s)(k:∀b u,s.heap.get? b=some u→h'.get? b=some u):Inv X pins σ H {s with heap:=h',toks:=t'}:=I.un (Un.kept k) (I.hok.kept k)
theorem Inv.laid{a:Addr}{o:HO}{t':Nat}(I:Inv X pins σ H s)(k:∀b u,s.heap.get? b=some u→h'.get? b=some u)(hp:s.heap.objs.size≤a)(new:fX X.prog X.w (upd H a o) h' a o) :
  Inv X pins σ (upd H a o) {s with heap:=h',toks:=t'}:=I.un (Un.laid k hp (I.hok.fresh hp)) (I.hok.laid k hp new)
theorem Inv.write{x e:Addr}{o:HO}{t':Nat}(I:Inv X pins σ H s)(mu:lu (H x))(he:e=x∨H e=some (.own x))(k:∀b u,b≠e→s.heap.get? b=some u→h'.get? b=some u)(heo:∃u,h'.get? e=some u)
  (new:fX X.prog X.w (upd H x o) h' x o):Inv X pins σ (upd H x o) {s with heap:=h',toks:=t'}:=I.un (Un.write mu he k heo) (I.hok.write mu he k heo new)
theorem Inv.weak{σ':List (Option V)}(I:Inv X pins σ H s)(hl:σ'.length=σ.length)(w:∀(i:Nat) v,σ'[i]?=some (some v)→σ[i]?=some (some v)):Inv X pins σ' H s:=
 ⟨I.ok,I.os,I.bare,I.base,let ⟨m,hn,hl'⟩:=I.loc;⟨m,hn,λi x v e1 e2 e3=>hl' i x v e1 (w i v e2) e3⟩,I.cell,I.free,I.qZ,I.pin,I.hok,hl.trans I.len⟩
theorem Inv.Tc{Ye:List (Addr×Obj)}(I:Inv X pins σ H s)(h:∀p∈Ye,s.heap.get? p.1=some p.2∧H p.1=none∧p.1≠X.env.locals∧p.1∉X.fs∧∀v,p.2.data≠.cell v):Inv X Ye σ H s:=
 ⟨I.ok,I.os,I.bare,I.base,I.loc,I.cell,I.free,I.qZ,λp hp=>(G8.mp hp).elim (λz=>I.pin p (L4 _ z)) (h p),I.hok,I.len⟩
theorem Li{N:List Str}(hN:N.Nodup){i j:Nat}{x:Str}(a:N[i]?=some x)(b:N[j]?=some x):i=j:=by
 obtain⟨h1,e1⟩:=C9.mp a
 obtain⟨h2,e2⟩:=C9.mp b
 exact(List.getElem_inj hN).mp (e1.trans e2.symm)
theorem Ey{M:Model}{A:Around}{E:Value→Shared→Prop}{i:Nat}{x:Str}{v:V}{u:Value}{Q:Unit→Shared→Prop}(I:Inv X pins σ H s)(hN:X.N.Nodup)(hi:X.N[i]?=some x)(hx:Loc X.env.scope x)(r:RelV v u)
  (h:∀s',Inv X pins (σ.set i (some v)) H s'→(∃a,Heap.SameBut a s.heap s'.heap∧(a=X.env.locals∨X.env.cells.lookup x=some a))→Q () s') (hf:X.fn x=true∨X.env.scope.names.lookup x=some .local:=by first | exact .inl rfl | exact .inr rfl | assumption):wpAny M A (storeName X.env x u) Q E s:=by
 obtain⟨m,hn,hl⟩:=id I.loc
 have hcls:(X.env.scope.kind==.class||(X.env.scope.kind==.module&&X.env.locals != X.env.globals))=false:=by rw[I.ok.kind];rfl
 have hiσ:i<σ.length:=by rw[I.len];exact(C9.mp hi).1
 have HX:=I.HX
 have tracked:∀{a:Addr} {h':Heap},(∃o,s.heap.get? a=some o∧H a=none)→Heap.SameBut a s.heap h'→tV X.prog X.w H h':=λ{a h'} ha hs b ob e=>by
  obtain⟨_,_,hfree⟩:=ha
  refine(I.hok b ob e).stay (λc w' hc q=>(hs.2 c ?_).trans q) (λ_ q=>q) λ_ _ q=>q
  rintro rfl
  rcases hc with rfl | hc
  ·rw[hfree]at e;cases e
  ·rw[hfree]at hc;cases hc
 rcases hx with hk | hk
 ·refine wpAny_storeName_local hk hn (λh' hn' hs=>?_) hcls
  obtain⟨oL,_,_,hoL,_⟩:=id hn
  refine h _ ⟨I.ok,I.os,I.bare,⟨λb o e n hb hx=>?_,λb o e n hb hx=>?_,I.base.free,λb o e hx=>?_,I.base.tups,I.base.Ig,I.base.Lh⟩,⟨_,hn',λj y v' e1 e2 e3=>?_⟩,λy c e=>?_,I.free,I.qZ,λp hp=>?_,tracked ⟨oL,hoL,I.free⟩ hs,by simpa using I.len⟩ ⟨_,hs,.inl rfl⟩
  ·exact(hs.2 b (E7 (C6 (Heap.lt_size e) I.ok.above))).trans (I.base.keep b o e n hb hx)
  ·obtain⟨sl,e1⟩:=I.base.slot b o e n hb hx
   exact⟨sl,(hs.2 b (E7 (C6 (Heap.lt_size e) I.ok.above))).trans e1⟩
  ·obtain⟨o',e1⟩:=I.base.there b o e hx
   exact⟨o',(hs.2 b (E7 (C6 (Heap.lt_size e) I.ok.above))).trans e1⟩
  ·by_cases hj:j=i
   ·subst hj
    rw[hi]at e1;cases e1
    rw[D1 hiσ]at e2
    cases e2
    exact⟨u,r,.inl ⟨hk,by simp⟩⟩
   ·rw[C8 (Ne.symm hj)]at e2
    obtain⟨u',r',q⟩:=hl j y v' e1 e2 e3
    refine⟨u',r',?_⟩
    rcases q with ⟨k,e⟩ | ⟨k,c,e,z⟩
    ·refine .inl ⟨k,?_⟩
     have:y≠x:=λe=>hj (Li hN e1 (e▸hi))
     simp[this,e]
    ·exact .inr ⟨k,c,e,z.sameBut hs (HX y c e)⟩
  ·obtain⟨w',z⟩:=I.cell y c e
   exact⟨w',z.sameBut hs (HX y c e)⟩
  ·obtain⟨e,n,ne,nf,d⟩:=I.pin p hp
   exact⟨(hs.2 p.1 ne).trans e,n,ne,nf,d⟩
 ·have hfn:X.fn x=true:=by
   rcases hf with z | z
   ·exact z
   ·rw[z]at hk;cases hk
  obtain⟨c,hc⟩:=I.ok.has x (.inl hk)
  obtain⟨w',z⟩:=I.cell x c hc
  refine wpAny_storeName_cell I.ok.kind hk hc z (λh' hc' hs=>?_)
  obtain⟨oc,hoc,zr⟩:=id z
  refine h {s with heap:=h'} ⟨I.ok,I.os,I.bare,⟨λb o e n hb hx=>?_,λb o e n hb hx=>?_,I.base.free,λb o e hx=>?_,I.base.tups,I.base.Ig,I.base.Lh⟩,⟨m,hn.sameBut hs (Ne.symm (HX x c hc)),λj y v' e1 e2 e3=>?_⟩,λy c' e=>?_,I.free,I.qZ,λp hp=>?_,tracked ⟨oc,hoc,I.qZ x c hc⟩ hs,by simpa using I.len⟩ ⟨c,hs,.inr hc⟩
  ·exact(hs.2 b (E7 (C6 (Heap.lt_size e) (I.ok.cab x c hfn hc)))).trans (I.base.keep b o e n hb hx)
  ·obtain⟨sl,e1⟩:=I.base.slot b o e n hb hx
   exact⟨sl,(hs.2 b (E7 (C6 (Heap.lt_size e) (I.ok.cab x c hfn hc)))).trans e1⟩
  ·obtain⟨o',e1⟩:=I.base.there b o e hx
   exact⟨o',(hs.2 b (E7 (C6 (Heap.lt_size e) (I.ok.cab x c hfn hc)))).trans e1⟩
  ·by_cases hj:j=i
   ·subst hj
    rw[hi]at e1;cases e1
    rw[D1 hiσ]at e2
    cases e2
    exact⟨u,r,.inr ⟨.inl hk,c,hc,hc'⟩⟩
   ·rw[C8 (Ne.symm hj)]at e2
    obtain⟨u',r',q⟩:=hl j y v' e1 e2 e3
    refine⟨u',r',?_⟩
    rcases q with q | ⟨k,c',e,z'⟩
    ·exact .inl q
    ·refine .inr ⟨k,c',e,z'.sameBut hs ?_⟩
     rintro rfl
     exact hj (Li hN e1 (I.ok.inj _ _ _ e hc▸hi))
  ·by_cases hcc:c'=c
   ·subst hcc;exact⟨_,hc'⟩
   ·obtain⟨w2,z2⟩:=I.cell y c' e
    exact⟨w2,z2.sameBut hs hcc⟩
  ·obtain⟨e,n,ne,nf,d⟩:=I.pin p hp
   refine⟨(hs.2 p.1 ?_).trans e,n,ne,nf,d⟩
   intro q
   rw[q,hoc]at e
   have q':oc=p.2:=E1 e
   exact d w' (by rw[←q'];exact zr)
theorem Lj{M:Model}{A:Around}{E:Value→Shared→Prop}{i:Nat}{x:Str}{v:V}{u:Value}{Q:Unit→Shared→Prop}(I:Inv X pins σ H s)(hN:X.N.Nodup)(hi:X.N[i]?=some x)(hx:Loc X.env.scope x)(r:RelV v u)
  (h:∀s',Inv X pins (σ.set i (some v)) H s'→Q () s') (hf:X.fn x=true∨X.env.scope.names.lookup x=some .local:=by first | exact .inl rfl | exact .inr rfl | assumption):wpAny M A (storeName X.env x u) Q E s:=
 Ey I hN hi hx r (λs' I' _=>h s' I') hf
theorem Inv.call'{s':Shared}{ch:List Addr}(I:Inv X pins σ H s)(ho:s'.os=s.os)(u:Un (frs X.stack) ch H H' s.heap s'.heap)(hok:tV X.prog X.w H' s'.heap)(hg:AllBare s'.gens)
  (hch:∀b∈ch,(b∈X.ex∨X.s₀.heap.objs.size≤b)∧b≠X.env.locals∧(∀x c,X.env.cells.lookup x=some c→c≠b)∧∀p∈X.pn++pins,p.1≠b):Inv X pins σ H' s':=by
 obtain⟨h',g',d',t',o'⟩:=s'
 have e:o'=s.os:=ho
 subst e
 exact I.call (g':=g') (t':=t') (d':=d') u hok hg hch
end
abbrev XK:=Value→Option Addr→Hp→Prop
abbrev St:=List (Option V)
abbrev VK:=V→Hp→Prop
abbrev TE:=St→Hp→VK→Prop
abbrev TT:=St→Hp→(Bool→Hp→Prop)→Prop
abbrev TA:=St→Hp→(List V→Hp→Prop)→Prop
structure Ends where
 nx:St→Hp→Prop
 rt:VK
 bk:St→Hp→Prop:=λ_ _=>False
 ct:St→Hp→Prop:=λ_ _=>False
abbrev TS:=Ends→St→Hp→Prop
def EP(X:Cx)(pins:List (Addr×Obj))(σ:St)(Q:VK)(u:Value)(s':Shared):Prop:=∃v H',Inv X pins σ H' s'∧RelV v u∧Q v H'
def TP(X:Cx)(pins:List (Addr×Obj))(σ:St)(Q:Bool→Hp→Prop)(b:Bool)(s':Shared):Prop:=∃H',Inv X pins σ H' s'∧Q b H'
def AP(X:Cx)(pins:List (Addr×Obj))(σ:St)(Q:List V→Hp→Prop)(us:List Value)(s':Shared):Prop:=∃vs H',Inv X pins σ H' s'∧Vals vs us∧Q vs H'
def SP(X:Cx)(pins:List (Addr×Obj))(D:Ends)(f:Flow)(s':Shared):Prop:=
 match f with
 | .next=>∃σ' H',Inv X pins σ' H' s'∧D.nx σ' H'
 | .brk=>∃σ' H',Inv X pins σ' H' s'∧D.bk σ' H'
 | .cont=>∃σ' H',Inv X pins σ' H' s'∧D.ct σ' H'
 | .ret u=>∃v σ' H',Inv X pins σ' H' s'∧RelV v u∧D.rt v H'
def PE(X:Cx)(e:Expr)(t:TE):Prop:=
 ∀(pins:List (Addr×Obj))(s:Shared)(σ:St)(H:Hp)(Q:VK),Inv X pins σ H s→t σ H Q→wpAny (model X.prog X.w) X.A (eval e X.env) (EP X pins σ Q) X.xe s
def PT(X:Cx)(e:Expr)(t:TT):Prop:=
 ∀(pins:List (Addr×Obj))(s:Shared)(σ:St)(H:Hp)(Q:Bool→Hp→Prop),Inv X pins σ H s→t σ H Q→wpAny (model X.prog X.w) X.A (isTrue e X.env (eval e X.env)) (TP X pins σ Q) X.xe s
def PW(X:Cx)(e:Expr)(t:TT):Prop:=
 ∀(whole:Sem Value)(pins:List (Addr×Obj))(s:Shared)(σ:St)(H:Hp)(Q:Bool→Hp→Prop),Inv X pins σ H s→t σ H Q→wpAny (model X.prog X.w) X.A (isTrue e X.env whole) (TP X pins σ Q) X.xe s
theorem PW.pt{X:Cx}{e:Expr}{t:TT}(h:PW X e t):PT X e t:=h _
def PA(X:Cx)(es:List Expr)(t:TA):Prop:=
 ∀(pos:Pos)(pins:List (Addr×Obj))(s:Shared)(σ:St)(H:Hp)(Q:List V→Hp→Prop),Inv X pins σ H s→t σ H Q→wpAny (model X.prog X.w) X.A (spliced (backTo pos (starEach es X.env))) (AP X pins σ Q) X.xe s
def PS(X:Cx)(st:Stmt)(t:TS):Prop:=
 ∀(pins:List (Addr×Obj))(s:Shared)(σ:St)(H:Hp)(D:Ends),Inv X pins σ H s→t D σ H→wpAny (model X.prog X.w) X.A (exec st X.env) (SP X pins D) X.xe s
def Lk(X:Cx)(st:List Stmt)(t:TS):Prop:=
 ∀(pins:List (Addr×Obj))(s:Shared)(σ:St)(H:Hp)(D:Ends),Inv X pins σ H s→t D σ H→wpAny (model X.prog X.w) X.A (execs st X.env) (SP X pins D) X.xe s
theorem gG{α:Type}{t:Sem α}{Q Q':α→Shared→Prop}{M:Model}{A:Around}{E:Value→Shared→Prop}{s:Shared}(h:wpAny M A t Q E s)(hQ:∀a s,Q a s→Q' a s):wpAny M A t Q' E s:=wpAny_mono h hQ λ_ _ x=>x
end L2
namespace L2
open PySem PySem.Spec PyProof.Rows
section
variable{X:Cx}
def iK(i:Nat):TE:=λσ H Q=>∃v,σ[i]?=some (some v)∧Q v H
def tC(v:V):TE:=λ_ H Q=>Q v H
theorem WX{i:Nat}{x:Str}{pos:Pos}(hN:X.N[i]?=some x)(hv:xj X.env.scope x)(hd:(x==("__debug__" : Str))=false:=by decide) (hcd:(x==("__classdict__" : Str))=false:=by decide):PE X (.Name x pos) (iK i):=by
  intro pins s σ H Q I h
  obtain⟨v,e,h⟩:=h
  obtain⟨m,hn,hl⟩:=I.loc
  obtain⟨u,r,l⟩:=hl i x v hN e hv
  have fin:EP X pins σ Q u s:=⟨v,H,I,r,h⟩
  rcases l with ⟨hk,hm⟩ | ⟨hk,c,hc,hcell⟩
  · exact wpAny_Name (wpAny_loadName_local I.ok.kind hk hn hm fin) hd
  · rcases hk with hk | hk
    · exact wpAny_Name (wpAny_loadName_cell I.ok.kind hk hc hcell fin) hd
    · exact wpAny_Name (wpAny_loadName_free I.ok.kind hk hc hcell fin hcd) hd
theorem Yg{i j pos}:PE X (.Constant (.int i) j pos) (tC (.int i)):=λ_ _ _ H _ I h=>wpAny_Constant_int ⟨.int i,H,I.tok _,⟨_,rfl⟩,h⟩
theorem my{b j pos}:PE X (.Constant (.bool b) j pos) (tC (.bl b)):=λ_ _ _ H _ I h=>Constant_bool ⟨.bl b,H,I,rfl,h⟩
theorem Yh{j pos}:PE X (.Constant .none j pos) (tC .non):=λ_ _ _ H _ I h=>Constant_none ⟨.non,H,I,rfl,h⟩
theorem WY{x j pos}:PE X (.Constant (.str x) j pos) (tC (.str x)):=λ_ _ _ H _ I h=>Calls.Constant_str ⟨.str x,H,I.tok _,⟨_,rfl⟩,h⟩
def Gl(X:Cx)(x:Str):Prop:=X.env.kindOf x=some .globalImplicit
theorem Td{E:Value→Shared→Prop}{pins:List (Addr×Obj)}{s:Shared}{σ:St}{H:Hp}{x:Str}{u:Value}{pos:Pos}{Q:Value→Shared→Prop}(I:Inv X pins σ H s)(hg:Gl X x)(hm:X.mg x=some u)(h:Q u s)
  (hd:(x==("__debug__" : Str))=false:=by decide):wpAny (model X.prog X.w) X.A (eval (.Name x pos) X.env) Q E s:=
 Calls.Name_function_global I.ok.kind hg (Calls.loadGlobal_global (by rw[I.ok.glob];exact I.mod.glob.keeps I.bk) hm h) hd
theorem wJ{E:Value→Shared→Prop}{pins:List (Addr×Obj)}{s:Shared}{σ:St}{H:Hp}{x:Str}{u:Value}{pos:Pos}{Q:Value→Shared→Prop}(I:Inv X pins σ H s)(hg:Gl X x)(hm:X.mg x=none)(hv:bootBuiltins x=some u)(h:Q u s)
  (hn:x ≠ "__name__" := by decide) (hd:(x==("__debug__" : Str))=false:=by decide):wpAny (model X.prog X.w) X.A (eval (.Name x pos) X.env) Q E s:=by
 obtain⟨mb,h1,h2⟩:=I.mod.blt
 exact Calls.Name_function_global I.ok.kind hg (Calls.loadGlobal_builtin (by rw[I.ok.glob];exact I.mod.glob.keeps I.bk) hm (by rw[I.ok.blt];exact h1.keeps I.bk) ((h2 x hn).trans hv) h) hd
theorem JH{x:Str}{v:V}{u:Value}{pos:Pos}(hg:Gl X x)(hm:X.mg x=some u)(r:RelV v u)(hd:(x==("__debug__" : Str))=false:=by decide):PE X (.Name x pos) (tC v):=
 λ_ _ _ H _ I h=>Td I hg hm ⟨v,H,I,r,h⟩ hd
theorem lB{x:Str}{v:V}{u:Value}{pos:Pos}(hg:Gl X x)(hm:X.mg x=none)(hv:bootBuiltins x=some u)(r:RelV v u)(hn:x ≠ "__name__" := by decide) (hd:(x==("__debug__" : Str))=false:=by decide):PE X (.Name x pos) (tC v):=
 λ_ _ _ H _ I h=>wJ I hg hm hv ⟨v,H,I,r,h⟩ hn hd
variable{a b:Expr}{ta tb:TE}{pos:Pos}
def PC(X:Cx)(op:CmpOp)(a b:Expr)(t:TE):Prop:=
 ∀(pins:List (Addr×Obj))(s:Shared)(σ:St)(H:Hp)(Q:VK),Inv X pins σ H s→t σ H Q →
  wpAny (model X.prog X.w) X.A (eval a X.env) (λv s₁=>wpAny (model X.prog X.w) X.A (eval b X.env) (λu s₂=>wpAny (model X.prog X.w) X.A (compareOp op v u) (EP X pins σ Q) X.xe s₂) X.xe s₁) X.xe s
def tB(t:TE):TT:=λσ H Q=>t σ H λx H1=>∃c,x=.bl c∧Q c H1
theorem XC{op:CmpOp}{t:TE}(h:PC X op a b t)(h1:behindInMarks op b=false:=by first | exact nobehind _ (by decide) (by decide) | rfl):PE X (.Compare a [op] [b] pos) t:=λpins s σ H Q I hw=>wpAny_Compare1 (h pins s σ H Q I hw) h1
theorem XD{op:CmpOp}{t:TE}(h:PC X op a b t)(h1:behindInMarks op b=false:=by first | exact nobehind _ (by decide) (by decide) | rfl):PT X (.Compare a [op] [b] pos) (tB t):=by
 intro pins s σ H Q I hw
 refine wpAny_isTrue_Compare1 (gG (h pins s σ H _ I hw) λv s1 h1=>gG h1 λu s2 h2=>gG h2 λc s3 ⟨x,H1,I1,r1,q1⟩=>?_) h1
 obtain⟨d,rfl,q⟩:=q1
 cases r1
 exact wpAny_truthy_bool ⟨H1,I1,q⟩
theorem XF{e:Expr}{t:TE}(h:PE X e t)(he:∀whole,isTrue e X.env whole=(do let v ←whole;standAt e.pos;holding [v] (truthy v)):=by intro _;rfl):PT X e (tB t):=by
 intro pins s σ H Q I hw
 refine isTrue_plain (gG (h pins s σ H _ I hw) λv s1 ⟨x,H1,I1,r1,q1⟩=>?_) (he _)
 obtain⟨d,rfl,q⟩:=q1
 cases r1
 exact wpAny_truthy_bool ⟨H1,I1,q⟩
variable{tA xn:TT}{rest:List Expr}
def XH(t u:TT):TT:=λσ H Q=>t σ H λc H1=>if c=true then u σ H1 Q else Q false H1
def zu(t u:TT):TT:=λσ H Q=>t σ H λc H1=>if c=true then Q true H1 else u σ H1 Q
def XQ(t:TT):TT:=λσ H Q=>t σ H λc H1=>Q (!c) H1
theorem JK(ha:PT X a tA):PW X (.BoolOp .And [a] pos) tA:=by
 intro wh pins s σ H Q I h
 refine isTrue_and (gG (ha pins s σ H Q I h) λc s1 e=>?_)
 cases c with
 | true=>exact isTrue_and_nil e
 | false=>exact e
theorem XS(ha:PT X a tA):PW X (.BoolOp .Or [a] pos) tA:=by
 intro wh pins s σ H Q I h
 refine isTrue_or (gG (ha pins s σ H Q I h) λc s1 e=>?_)
 cases c with
 | false=>exact isTrue_or_nil e
 | true=>exact e
theorem XX(ha:PT X a tA)(hb:PW X (.BoolOp .And (b::rest) pos) xn):PW X (.BoolOp .And (a::b::rest) pos) (XH tA xn):=by
 intro wh pins s σ H Q I h
 refine isTrue_and (gG (ha pins s σ H _ I h) λc s1 ⟨H1,I1,q1⟩=>?_)
 cases c with
 | true=>exact hb wh pins s1 σ H1 Q I1 q1
 | false=>exact⟨H1,I1,q1⟩
theorem mz(ha:PT X a tA)(hb:PW X (.BoolOp .Or (b::rest) pos) xn):PW X (.BoolOp .Or (a::b::rest) pos) (zu tA xn):=by
 intro wh pins s σ H Q I h
 refine isTrue_or (gG (ha pins s σ H _ I h) λc s1 ⟨H1,I1,q1⟩=>?_)
 cases c with
 | true=>exact⟨H1,I1,q1⟩
 | false=>exact hb wh pins s1 σ H1 Q I1 q1
theorem YC(ha:PT X a tA):PT X (.UnaryOp .Not a pos) (XQ tA):=by
 intro pins s σ H Q I h
 exact isTrue_not (ha pins s σ H (λc H1=>Q (!c) H1) I h)
def SJ(ta tb:TE):TE:=λσ H Q=>ta σ H λx H1=>∃c,x=.bl c∧if c=true then tb σ H1 Q else Q (.bl false) H1
def SM(ta:TE):TE:=λσ H Q=>ta σ H λx H1=>∃c,x=.bl c∧Q (.bl (!c)) H1
theorem YD{op}{t:TE}(h:PE X a t):PE X (.BoolOp op [a] pos) t:=λpins s σ H Q I hw=>BoolOp_one (h pins s σ H Q I hw)
theorem YF(ha:PE X a ta)(hb:PE X (.BoolOp .And (b::rest) pos) tb):PE X (.BoolOp .And (a::b::rest) pos) (SJ ta tb):=by
 intro pins s σ H Q I h
 refine BoolOp_and (gG (ha pins s σ H _ I h) λv s1 ⟨x,H1,I1,r1,q1⟩=>?_)
 obtain⟨c,rfl,q1⟩:=q1
 cases r1
 refine wpAny_truthy_bool ?_
 cases c with
 | true=>exact hb pins s1 σ H1 Q I1 q1
 | false=>exact⟨.bl false,H1,I1,rfl,q1⟩
theorem YG(ha:PE X a ta):PE X (.UnaryOp .Not a pos) (SM ta):=by
 intro pins s σ H Q I h
 refine UnaryOp_ (gG (ha pins s σ H _ I h) λv s1 ⟨x,H1,I1,r1,q1⟩=>?_)
 obtain⟨c,rfl,q1⟩:=q1
 cases r1
 exact not_of (wpAny_truthy_bool ⟨.bl (!c),H1,I1,rfl,q1⟩)
end
end L2
namespace L2
open PySem PySem.Spec PyProof.Rows
def jC(K:aC)(H:Hp)(a:Addr)(xs:List V):Prop:=
 Rd H a (.lst xs) ∨
  ∃(o:Obj)(its:Array Value)(n:Nat),K.lookup a=some o∧o.cls=.type "list" ∧ o.dict=none∧o.data=.seq its n∧its.size≤sizeLine∧Vals xs its.toList
def pZ(K:aC)(H:Hp)(a:Addr)(xs:List V):Prop:=
 Rd H a (.tup xs) ∨
  ∃(o:Obj)(its:Array Value)(n:Nat),K.lookup a=some o∧o.cls=.type "tuple" ∧ o.data=.seq its n∧its.size≤sizeLine∧Vals xs its.toList
def zy:Value→Option V
 | .none=>some .non
 | .bool b=>some (.bl b)
 | .int i _=>some (.int i)
 | .str x _=>some (.str x)
 | .bytes b _=>some (.byt b)
 | .float b _=>some (.flt b)
 | .ref a=>some (.ref a)
 | .type n=>some (.ty n)
 | _=>none
theorem RelV.abs{x:V}{u:Value}(r:RelV x u):zy u=some x:=by
 cases x with
 | non=>cases r;rfl
 | bl _=>cases r;rfl
 | int _=>obtain⟨t,rfl⟩:=r;rfl
 | str _=>obtain⟨t,rfl⟩:=r;rfl
 | byt _=>obtain⟨t,rfl⟩:=r;rfl
 | flt _=>obtain⟨t,rfl⟩:=r;rfl
 | ref _=>cases r;rfl
 | ty _=>cases r;rfl
theorem RelV.inj{x y:V}{u:Value}(r:RelV x u)(q:RelV y u):x=y:=E1 (r.abs.symm.trans q.abs)
theorem Vals.inj:∀{xs ys:List V} {us:List Value},Vals xs us→Vals ys us→xs=ys
 | _,_,_,.nil,.nil=>rfl
 | _,_,_,.cons r t,.cons r' t'=>by rw[r.inj r',Vals.inj t t']
section
variable{X:Cx}{pins:List (Addr×Obj)}{σ:St}{H:Hp}{s:Shared}{a:Addr}{xs ys:List V}
theorem jC.of{K:aC}(h:H a=some (.lst xs)):jC K H a xs:=.inl (.inl h)
theorem pZ.of{K:aC}(h:H a=some (.tup xs)):pZ K H a xs:=.inl (.inl h)
theorem Inv.list(I:Inv X pins σ H s)(h:jC X.K H a xs):∃its:List Value,Vals xs its∧PlainL s.heap a its.toArray∧xs.length≤sizeLine:=by
 rcases h with h | ⟨o,its,n,hk,hc,hd,hs,hz,r⟩
 ·obtain⟨z,its,n,r,e⟩:=h.ok I.hok
  exact⟨its,r,⟨_,n,e,rfl,rfl,rfl⟩,z⟩
 ·refine⟨its.toList,r,⟨o,n,I.Ew a o hk,hc,hd,by simpa using hs⟩,?_⟩
  have e:=r.length
  simp only[O1]at e
  omega
theorem Inv.tuple(I:Inv X pins σ H s)(h:pZ X.K H a xs):∃its:List Value,Vals xs its∧IsTup s.heap a its.toArray∧xs.length≤sizeLine:=by
 rcases h with h | ⟨o,its,n,hk,hc,hs,hz,r⟩
 ·obtain⟨z,its,r,p⟩:=h.ok I.hok
  exact⟨its,r,p,z⟩
 ·refine⟨its.toList,r,⟨o,I.Ew a o hk,hc,n,by simpa using hs⟩,?_⟩
  have e:=r.length
  simp only[O1]at e
  omega
theorem Inv.vB(I:Inv X pins σ H s)(h:jC X.K H a xs)(h':jC X.K H a ys):xs=ys:=by
 obtain⟨its,r,⟨o,n,e,_,_,d⟩,_⟩:=I.list h
 obtain⟨its',r',⟨o',n',e',_,_,d'⟩,_⟩:=I.list h'
 rw[e]at e';cases e'
 rw[d]at d'
 injection d' with d1 _
 have:its=its':=by simpa using congrArg V8 d1
 subst this
 exact r.inj r'
theorem Inv.Ez(I:Inv X pins σ H s)(h:pZ X.K H a xs)(h':pZ X.K H a ys):xs=ys:=by
 obtain⟨its,r,⟨o,e,_,n,d⟩,_⟩:=I.tuple h
 obtain⟨its',r',⟨o',e',_,n',d'⟩,_⟩:=I.tuple h'
 rw[e]at e';cases e'
 rw[d]at d'
 injection d' with d1 _
 have:its=its':=by simpa using congrArg V8 d1
 subst this
 exact r.inj r'
end
abbrev Cx.wish(X:Cx)(E:Value→Shared→Prop):Cx:={X with xe:=E}
abbrev Cx.YH(X:Cx):Cx:=X.wish λ_ _=>False
theorem Cx.Ok.wish{X:Cx}(ok:X.Ok)(E:Value→Shared→Prop):(X.wish E).Ok:=
 ⟨ok.mod,ok.kind,ok.glob,ok.blt,ok.above,ok.inj,ok.has,ok.cab,ok.hd,ok.frames,ok.xm,ok.exf,ok.bs,ok.RZ,ok.Yd,ok.JG,ok.Ak,ok.jr⟩
theorem Cx.Ok.rA{X:Cx}{E:Value→Shared→Prop}(ok:(X.wish E).Ok):X.Ok:=
 ⟨ok.mod,ok.kind,ok.glob,ok.blt,ok.above,ok.inj,ok.has,ok.cab,ok.hd,ok.frames,ok.xm,ok.exf,ok.bs,ok.RZ,ok.Yd,ok.JG,ok.Ak,ok.jr⟩
section
variable{X:Cx}{pins:List (Addr×Obj)}{σ:St}{H:Hp}{s:Shared}{E:Value→Shared→Prop}
theorem Inv.wish(I:Inv X pins σ H s)(E:Value→Shared→Prop):Inv (X.wish E) pins σ H s:=⟨I.ok.wish E,I.os,I.bare,I.base,I.loc,I.cell,I.free,I.qZ,I.pin,I.hok,I.len⟩
theorem Inv.rA(I:Inv (X.wish E) pins σ H s):Inv X pins σ H s:=⟨I.ok.rA,I.os,I.bare,I.base,I.loc,I.cell,I.free,I.qZ,I.pin,I.hok,I.len⟩
theorem SP.rA{D:Ends}{f:Flow}{s':Shared}(h:SP (X.wish E) pins D f s'):SP X pins D f s':=by
 cases f with
 | next=>obtain⟨σ',H',I,q⟩:=h;exact⟨σ',H',I.rA,q⟩
 | brk=>obtain⟨σ',H',I,q⟩:=h;exact⟨σ',H',I.rA,q⟩
 | cont=>obtain⟨σ',H',I,q⟩:=h;exact⟨σ',H',I.rA,q⟩
 | ret u=>obtain⟨v,σ',H',I,r,q⟩:=h;exact⟨v,σ',H',I.rA,r,q⟩
theorem Lk.YH{st:List Stmt}{t:TS}(h:Lk X.YH st t):Lk X st t:=λpins s σ H D I hw=>
 wpAny_mono (h pins s σ H D (I.wish _) hw) (λ_ _ q=>q.rA) λ_ _ z=>False.elim z
end
section
variable{X:Cx}{st:Stmt}{rest:List Stmt}{t u:TS}{e:Expr}{te:TE}{pos:Pos}
def SN:TS:=λD σ H=>D.nx σ H
def Ln(t u:TS):TS:=λD σ H=>t {D with nx:=u D} σ H
theorem JL:Lk X [] SN:=λ_ _ σ H _ I h=>wpAny_execs_nil ⟨σ,H,I,h⟩
theorem pC(h1:PS X st t)(h2:Lk X rest u):Lk X (st::rest) (Ln t u):=by
 intro pins s σ H D I h
 refine wpAny_execs_cons (gG (h1 pins s σ H {D with nx:=u D} I h) λf s1 q=>?_)
 cases f with
 | next=>
  obtain⟨σ',H',I',q⟩:=q
  exact h2 pins s1 σ' H' D I' q
 | ret v=>exact q
 | brk=>exact q
 | cont=>exact q
theorem Ij(h1:PS X st t):Lk X [st] t:=by
 intro pins s σ H D I h
 refine wpAny_execs_cons (gG (h1 pins s σ H D I h) λf s1 q=>?_)
 cases f with
 | next=>exact wpAny_execs_nil q
 | ret v=>exact q
 | brk=>exact q
 | cont=>exact q
theorem Inv.quiet{pins:List (Addr×Obj)}{σ:St}{H:Hp}{s:Shared}(I:Inv X pins σ H s):interactive X.env=false:=by simp[interactive,I.ok.kind]
def pD(te:TE):TS:=λD σ H=>te σ H λ_ H1=>D.nx σ H1
theorem oE(he:PE X e te)(hs:swapsWith e none pos.line X.env=pure false:=by rfl):PS X (.Expr e pos) (pD te):=by
 intro pins s σ H D I h
 exact wpAny_Expr_any (gG (he pins s σ H _ I h) λv s1 ⟨x,H1,I1,r1,q1⟩=>⟨σ,H1,I1,q1⟩) I.quiet hs
def Ei(te:TE):TS:=λD σ H=>te σ H D.rt
theorem wK(he:PE X e te):PS X (.Return (some e) pos) (Ei te):=by
 intro pins s σ H D I h
 exact wpAny_Return_some (gG (he pins s σ H _ I h) λv s1 ⟨x,H1,I1,r1,q1⟩=>⟨x,σ,H1,I1,r1,q1⟩)
def ni(c:TT)(t u:TS):TS:=λD σ H=>c σ H λb H1=>if b=true then t D σ H1 else u D σ H1
theorem nq{c:Expr}{a b:List Stmt}{tc:TT}(hc:PT X c tc)(ha:Lk X a t)(hb:Lk X b u):PS X (.If c a b pos) (ni tc t u):=by
 intro pins s σ H D I h
 refine wpAny_If (gG (hc pins s σ H _ I h) λd s1 ⟨H1,I1,q1⟩=>?_)
 cases d with
 | true=>exact ha pins s1 σ H1 D I1 q1
 | false=>exact hb pins s1 σ H1 D I1 q1
end
abbrev TG:=V→St→Hp→(St→Hp→Prop)→Prop
abbrev SQ:=List V→St→Hp→(St→Hp→Prop)→Prop
def PG(X:Cx)(target:Expr)(t:TG):Prop:=
 ∀(pins:List (Addr×Obj))(s:Shared)(σ:St)(H:Hp)(v:V)(u:Value)(Q:St→Hp→Prop),Inv X pins σ H s→RelV v u→t v σ H Q →
  wpAny (model X.prog X.w) X.A (assign target X.env u) (λ_ s'=>∃σ' H',Inv X pins σ' H' s'∧Q σ' H') X.xe s
def xq(X:Cx)(ts:List Expr)(t:SQ):Prop:=
 ∀(pins:List (Addr×Obj))(s:Shared)(σ:St)(H:Hp)(vs:List V)(us:List Value)(Q:St→Hp→Prop),Inv X pins σ H s→Vals vs us→t vs σ H Q →
  wpAny (model X.prog X.w) X.A (assignInOrder ((assignEach ts X.env).map (·.2)) us) (λ_ s'=>∃σ' H',Inv X pins σ' H' s'∧Q σ' H') X.xe s
abbrev YJ:=V→V→V→Hp→(Hp→Prop)→Prop
def nu(X:Cx)(t:YJ):Prop:=
 ∀(pins:List (Addr×Obj))(s:Shared)(σ:St)(H:Hp)(o i v:V)(ov iv u:Value)(Q:Hp→Prop),Inv X pins σ H s→RelV o ov→RelV i iv→RelV v u→t o i v H Q →
  wpAny (model X.prog X.w) X.A (setItem ov iv u) (λ_ s'=>∃H',Inv X pins σ H' s'∧Q H') X.xe s
section
variable{X:Cx}{pos:Pos}
def eG(i:Nat):TG:=λv σ H Q=>Q (σ.set i (some v)) H
theorem fK{i:Nat}{x:Str}(hN:X.N.Nodup)(hi:X.N[i]?=some x)(hx:Loc X.env.scope x)(hf:X.fn x=true∨X.env.scope.names.lookup x=some .local:=by first | exact .inl rfl | exact .inr rfl | assumption):PG X (.Name x pos) (eG i):=by
 intro pins s σ H v u Q I r h
 exact wpAny_assign_Name (Lj I hN hi hx r (λs' I'=>⟨_,H,I',h⟩) hf)
def YK:SQ:=λvs σ H Q=>vs=[]∧Q σ H
def Te(t:TG)(u:SQ):SQ:=λvs σ H Q=>∃v r,vs=v::r∧t v σ H λσ' H'=>u r σ' H' Q
theorem Ik:xq X [] YK:=by
 intro pins s σ H vs us Q I r h
 obtain⟨e,h⟩:=h
 subst e
 cases r
 exact assignInOrder_nil ⟨σ,H,I,h⟩
theorem mX{e:Expr}{es:List Expr}{t:TG}{u:SQ}(h1:PG X e t)(h2:xq X es u)
  (hs:(assignEach (e::es) X.env).map (·.2)=assign e X.env::(assignEach es X.env).map (·.2):=by rfl):xq X (e::es) (Te t u):=by
 intro pins s σ H vs us Q I r h
 obtain⟨v,vr,e1,h⟩:=h
 subst e1
 cases r with
 | cons r rr=>
  rw[hs]
  refine assignInOrder_cons (gG (h1 pins s σ H _ _ _ I r h) λ_ s1 ⟨σ1,H1,I1,q1⟩=>?_)
  exact h2 pins s1 σ1 H1 _ _ Q I1 rr q1
def Yi(K:aC)(n:Nat)(t:SQ):TG:=λv σ H Q=>∃a xs,v=.ref a∧pZ K H a xs∧xs.length=n∧t xs σ H Q
theorem Pu{es:List Expr}{k:Nat}{t:SQ}{n:Nat}(hc:X.calm=true)(h:xq X es t)
  (hn:(assignEach es X.env).length=n:=by rfl) (hst:(assignEach es X.env).findIdx? (·.1)=none:=by rfl):PG X (.Tuple es k pos) (Yi X.K n t):=by
 intro pins s σ H v u Q I r hw
 obtain⟨a,xs,e1,hq,hl,hw⟩:=hw
 subst e1
 cases r
 obtain⟨its,rv,ht,hz⟩:=I.tuple hq
 refine assign_Tuple_tuple (I.ok.hd hc) ht (by simp[hn,←hl,rv.length]) hst λh' hx=>?_
 have I1:Inv X pins σ H {s with heap:=h'}:=I.kept (t':=s.toks) λb o e=>hx b o (E7 (Heap.lt_size e)) e
 exact h pins _ σ H xs _ Q I1 (by simpa using rv) hw
def Il(to ti:TE)(t:YJ):TG:=λv σ H Q=>to σ H λo H1=>ti σ H1 λi H2=>t o i v H2 λH3=>Q σ H3
theorem kJ{o i:Expr}{to ti:TE}{t:YJ}(ho:PE X o to)(hi:PE X i ti)(hs:nu X t)
  (ha:∀v,assign (.Subscript o i pos) X.env v=(do
   let ov ←holding [v] (eval o X.env)
   let iv ←holding [v,ov] (eval i X.env)
   standAt pos
   holding [v,ov,iv] (setItem ov iv v)
   release [v,ov,iv] []):=by intro _;rfl):PG X (.Subscript o i pos) (Il to ti t):=by
 intro pins s σ H v u Q I r h
 rw[ha]
 refine wpAny_bind (wpAny_holding (gG (ho pins s σ H _ I h) λov s1 ⟨x,H1,I1,r1,q1⟩=>?_))
 refine wpAny_bind (wpAny_holding (gG (hi pins s1 σ H1 _ I1 q1) λiv s2 ⟨y,H2,I2,r2,q2⟩=>?_))
 refine wpAny_bind (wpAny_standAt (wpAny_bind (wpAny_holding (gG (hs pins s2 σ H2 x y v ov iv u _ I2 r1 r2 r q2) λ_ s3 ⟨H3,I3,q3⟩=>?_))))
 exact wpAny_release ⟨σ,H3,I3,q3⟩
def lG(te:TE)(g:TG):TS:=λD σ H=>te σ H λx H1=>g x σ H1 D.nx
theorem jH{tg e:Expr}{te:TE}{g:TG}(he:PE X e te)(hg:PG X tg g)(hs:swapsWithSole [tg] e pos.line X.env=pure false:=by rfl)(hw:swappedStores [tg] e X.env=pure none:=by rfl)
  (h1:(assignEach [tg] X.env).map (·.2)=[assign tg X.env]:=by rfl):PS X (.Assign [tg] e pos) (lG te g):=by
 intro pins s σ H D I h
 refine wpAny_Assign_stores (gG (he pins s σ H _ I h) λv s1 ⟨x,H1,I1,r1,q1⟩=>?_) hs hw
 rw[h1]
 exact gG (hg pins s1 σ H1 x v _ I1 r1 q1) λ_ s2 q=>q
theorem aZ{i:Nat}{x:Str}{e:Expr}{te:TE}{pos':Pos}(hN:X.N.Nodup)(hi:X.N[i]?=some x)(hx:Loc X.env.scope x)(he:PE X e te)(hs:swapsWith e (some (.Name x pos')) pos.line X.env=pure false:=by rfl)(hf:X.fn x=true∨X.env.scope.names.lookup x=some .local:=by first | exact .inl rfl | exact .inr rfl | assumption) :
  PS X (.Assign [.Name x pos'] e pos) (lG te (eG i)):=by
 intro pins s σ H D I h
 refine wpAny_Assign_Name (gG (he pins s σ H _ I h) λv s1 ⟨y,H1,I1,r1,q1⟩=>?_) hs
 exact Lj I1 hN hi hx r1 (λs2 I2=>⟨_,H1,I2,q1⟩) hf
end
section
variable{X:Cx}{pos:Pos}
def Px(c:TT)(tb:TS):TS:=λD σ H=>∃W:Nat→St→Hp→Prop,(∃m,W m σ H)∧∀m σ H,W m σ H →
 c σ H λb H1=>if b=true then ∃N:St→Hp→Prop,(∀σ' H',N σ' H'→∃m',m'<m∧W m' σ' H')∧tb {D with nx:=N,ct:=N,bk:=D.nx} σ H1 else D.nx σ H1
theorem Yj{c:Expr}{body:List Stmt}{tc:TT}{tb:TS}(hp:PassesOwn (model X.prog X.w) X.A X.env X.xe)(hc:PT X c tc)(hb:Lk X body tb):PS X (.While c body [] pos) (Px tc tb):=by
 intro pins s σ H D I h
 obtain⟨W,⟨m0,w0⟩,turn⟩:=h
 refine wpAny_While (codeAny_whileLoop (λn s'=>∃σ' H',Inv X pins σ' H' s'∧W n σ' H') ?_ m0 ⟨σ,H,I,w0⟩)
 rintro n s1 ⟨σ1,H1,I1,w1⟩
 refine wpAny_passesOwn hp (gG (hc pins s1 σ1 H1 _ I1 (turn n σ1 H1 w1)) λb s2 ⟨H2,I2,q2⟩=>?_)
 cases b with
 | true=>
  obtain⟨N,hN,q2⟩:=q2
  rw[if_pos rfl]
  refine wpAny_passesOwn hp (gG (hb pins s2 σ1 H2 _ I2 q2) λf s3 q3=>?_)
  cases f with
  | next=>
   obtain⟨σ3,H3,I3,n3⟩:=q3
   obtain⟨m',hm,w3⟩:=hN σ3 H3 n3
   exact⟨m',hm,σ3,H3,I3,w3⟩
  | cont=>
   obtain⟨σ3,H3,I3,n3⟩:=q3
   obtain⟨m',hm,w3⟩:=hN σ3 H3 n3
   exact⟨m',hm,σ3,H3,I3,w3⟩
  | brk=>exact q3
  | ret v=>exact q3
 | false=>
  rw[if_neg E2]
  exact wpAny_execs_nil ⟨σ1,H2,I2,q2⟩
end
structure It where
 go:Nat→Hp→Prop
 oh:Nat→Hp→V→Hp→Prop
 stop:Nat→Hp→Prop
def vC(X:Cx)(pins:List (Addr×Obj))(H:Hp)(b:Addr):Prop:=
 H b=none∧b≠X.env.locals∧b∉X.fs∧(b∈X.ex∨X.s₀.heap.objs.size≤b)∧(∀x c,X.env.cells.lookup x=some c→c≠b)∧∀p∈X.pn++pins,p.1≠b
theorem Inv.JM{X:Cx}{pins:List (Addr×Obj)}{σ:St}{H H':Hp}{s:Shared}{b:Addr}(I:Inv X pins σ H s)(hb:s.heap.objs.size≤b)(hn:H' b=none):vC X pins H' b:=by
 refine⟨hn,M3 (C6 I.lt hb),I.zq hb,.inr (F9 I.sz hb),λx c e z=>?_,λp hp z=>?_⟩
 ·obtain⟨v,q⟩:=I.cell x c e
  exact absurd (C6 q.lt (by rw[z];exact hb)) (G6 _)
 ·exact absurd (C6 (Heap.lt_size (I.pin p hp).1) (by rw[z];exact hb)) (G6 _)
structure Turn(P:Program)(w:World)(K:aC)(tg:Expr)(J:It)(fp:List Addr)(it:Addr)(tn:Nat→Heap→Prop):Prop where
 mem:it∈fp
 obj:∀i h,tn i h→∀b∈fp,∃o,h.get? b=some o∧∀v,o.data≠.cell v
 keep:∀i h h',tn i h→(∀b∈fp,∀o,h.get? b=some o→h'.get? b=some o)→tn i h'
 item:∀(X:Cx),X.prog=P→X.w=w→X.K=K→X.calm=true→∀(i:Nat)(pins:List (Addr×Obj))(s:Shared)(σ:St)(H:Hp)(E:Value→Shared→Prop),Inv X pins σ H s→(∀b∈fp,vC X pins H b)→tn i s.heap→J.go i H →
  wpAny (model P w) X.A (pyNext (.ref it)) (λr s1=>∃u,r=some u ∧
   wpAny (model P w) X.A (letOwnedTupleGo tg (.ref it) u) (λ_ s2=>∃x H',Inv X pins σ H' s2∧RelV x u∧J.oh i H x H'∧tn (i+1) s2.heap∧∀b∈fp,H' b=none) E s1) E s
 done:∀(X:Cx),X.prog=P→X.w=w→X.K=K→X.calm=true→∀(i:Nat)(pins:List (Addr×Obj))(s:Shared)(σ:St)(H:Hp)(E:Value→Shared→Prop),Inv X pins σ H s→(∀b∈fp,vC X pins H b)→tn i s.heap→J.stop i H →
  wpAny (model P w) X.A (pyNext (.ref it)) (λr s1=>r=none∧Inv X pins σ H s1) E s
 self:∀(A:Around)(i:Nat)(s:Shared)(Q:Value→Shared→Prop)(E:Value→Shared→Prop),tn i s.heap→Q (.ref it) s→wpAny (model P w) A (pyIter (.ref it)) Q E s
abbrev TI:=St→Hp→(It→Hp→Prop)→Prop
def PIE(X:Cx)(pins:List (Addr×Obj))(σ:St)(tg:Expr)(R:It→Hp→Prop)(itv:Value)(s2:Shared):Prop:=
 ∃(it:Addr)(fp:List Addr)(tn:Nat→Heap→Prop)(J:It)(H':Hp),itv=.ref it∧Inv X pins σ H' s2∧Turn X.prog X.w X.K tg J fp it tn∧tn 0 s2.heap∧(∀b∈fp,vC X pins H' b)∧R J H'
def PI(X:Cx)(tg iter:Expr)(wi:TI):Prop:=
 ∀(pins:List (Addr×Obj))(s:Shared)(σ:St)(H:Hp)(R:It→Hp→Prop),Inv X pins σ H s→wi σ H R →
  wpAny (model X.prog X.w) X.A (eval iter X.env) (λv s1=>wpAny (model X.prog X.w) X.A (pyIter v) (PIE X pins σ tg R) X.xe s1) X.xe s
theorem Yk{M:Model}{A:Around}{E:Value→Shared→Prop}{s:Shared}{tg:Expr}{it:Addr}{u:Value}{o:Obj}{n:String}{vs:Array Value}{Q:Unit→Shared→Prop}(ho:s.heap.get? it=some o)(hc:o.cls=.type n)(hd:o.data=.fields vs)
    (hn:["enumerate", "zip", "dict_itemiterator", "dict_reverseitemiterator", "odict_iterator", "itertools.zip_longest", "itertools.pairwise"].contains n=false) (hQ:Q () s):wpAny M A (letOwnedTupleGo tg (.ref it) u) Q E s:=by
  unfold letOwnedTupleGo
  cases tg<;>first
    | exact wpAny_pure hQ
    | (cases u<;>first
        | exact wpAny_pure hQ
        | (refine wpAny_bind (wpAny_load ho ?_)
           rw[hc,hd]
           show wpAny M A (if(["enumerate", "zip", "dict_itemiterator", "dict_reverseitemiterator", "odict_iterator", "itertools.zip_longest", "itertools.pairwise"].contains n&&vs[0]?==some (rawInt _))=true then _ else _) Q E s
           rw[if_neg (by intro h;rw[hn,O3]at h;cases h)]
           exact wpAny_pure hQ))
def Itl(K:aC)(a:Addr):It:=
 ⟨λi H=>∃xs x,jC K H a xs∧xs[i]?=some x,λi H x H'=>H'=H∧∀xs,jC K H a xs→xs[i]?=some x,λi H=>∃xs,jC K H a xs∧xs.length≤i⟩
def Itt(K:aC)(a:Addr):It:=
 ⟨λi H=>∃xs x,pZ K H a xs∧xs[i]?=some x,λi H x H'=>H'=H∧∀xs,pZ K H a xs→xs[i]?=some x,λi H=>∃xs,pZ K H a xs∧xs.length≤i⟩
def ou(lo:Int)(n:Nat):It:=⟨λi _=>i<n,λi H x H'=>H'=H∧x=.int (lo+i),λi _=>n≤i⟩
theorem Vj{P:Program}{w:World}{K:aC}{tg:Expr}(a it:Addr):Turn P w K tg (Itl K a) [it] it (λi h=>h.IsListIter it a i) where
 mem:=by simp
 obj:=λi h st b hb=>by
  have e:b=it:=by simpa using hb
  subst e
  obtain⟨o,e,c,d⟩:=st
  exact⟨o,e,λv z=>by rw[d]at z;cases z⟩
 keep:=λi h h' st k=>st.at λo e=>k it (by simp) o e
 item:=by
  intro X hP hw hK hc i pins s σ H E I hf st hg
  subst hP hw hK
  obtain⟨xs,x,hq,hx⟩:=hg
  obtain⟨its,rv,p,hz⟩:=I.list hq
  obtain⟨u,hu,ru⟩:=rv.get hx
  obtain⟨f0,f1,f2,f3,f4,f5⟩:=hf it (by simp)
  refine wpAny_pyNext_list_item st p.isList (x:=u) (by simpa using hu) λh' st' sb=>?_
  have I1:Inv X pins σ H {s with heap:=h'}:=I.turned (t':=s.toks) (λb o hb e=>(sb.2 b hb).trans e) f0 f1 f3 f4 f5
  obtain⟨o,e,c,d⟩:=id st'
  exact⟨u,rfl,Yk (s:={s with heap:=h'}) e c d (by decide) ⟨x,H,I1,ru,⟨rfl,λys hy=>by rw[I.vB hy hq];exact hx⟩,st',λb hb=>(hf b hb).1⟩⟩
 done:=by
  intro X hP hw hK hc i pins s σ H E I hf st hg
  subst hP hw hK
  obtain⟨xs,hq,hx⟩:=hg
  obtain⟨its,rv,p,hz⟩:=I.list hq
  obtain⟨f0,f1,f2,f3,f4,f5⟩:=hf it (by simp)
  have hl:=rv.length
  exact wpAny_pyNext_list_end (I.ok.hd hc) st p.isList (by simp;omega) λh' eb=>⟨rfl,I.turned (t':=s.toks) (λb o hb e=>eb b o hb e) f0 f1 f3 f4 f5⟩
 self:=λ_ _ _ _ _ st h=>wpAny_pyIter_listiter st h
theorem Py{P:Program}{w:World}{K:aC}{tg:Expr}(a it:Addr):Turn P w K tg (Itt K a) [it] it (λi h=>h.IsTupleIter it a i) where
 mem:=by simp
 obj:=λi h st b hb=>by
  have e:b=it:=by simpa using hb
  subst e
  obtain⟨o,e,c,d⟩:=st
  exact⟨o,e,λv z=>by rw[d]at z;cases z⟩
 keep:=λi h h' st k=>st.at λo e=>k it (by simp) o e
 item:=by
  intro X hP hw hK hc i pins s σ H E I hf st hg
  subst hP hw hK
  obtain⟨xs,x,hq,hx⟩:=hg
  obtain⟨its,rv,p,hz⟩:=I.tuple hq
  obtain⟨u,hu,ru⟩:=rv.get hx
  obtain⟨f0,f1,f2,f3,f4,f5⟩:=hf it (by simp)
  refine wpAny_pyNext_tuple_item st (show s.heap.IsTuple a its.toArray from p) (x:=u) (by simpa using hu) λh' st' sb=>?_
  have I1:Inv X pins σ H {s with heap:=h'}:=I.turned (t':=s.toks) (λb o hb e=>(sb.2 b hb).trans e) f0 f1 f3 f4 f5
  obtain⟨o,e,c,d⟩:=id st'
  exact⟨u,rfl,Yk (s:={s with heap:=h'}) e c d (by decide) ⟨x,H,I1,ru,⟨rfl,λys hy=>by rw[I.Ez hy hq];exact hx⟩,st',λb hb=>(hf b hb).1⟩⟩
 done:=by
  intro X hP hw hK hc i pins s σ H E I hf st hg
  subst hP hw hK
  obtain⟨xs,hq,hx⟩:=hg
  obtain⟨its,rv,p,hz⟩:=I.tuple hq
  obtain⟨f0,f1,f2,f3,f4,f5⟩:=hf it (by simp)
  have hl:=rv.length
  exact wpAny_pyNext_tuple_end (I.ok.hd hc) st (show s.heap.IsTuple a its.toArray from p) (by simp;omega) λh' eb=>⟨rfl,I.turned (t':=s.toks) (λb o hb e=>eb b o hb e) f0 f1 f3 f4 f5⟩
 self:=λ_ _ _ _ _ st h=>wpAny_pyIter_tupleiter st h
theorem Pz{P:Program}{w:World}{K:aC}{tg:Expr}(it:Addr)(lo:Int)(n:Nat):Turn P w K tg (ou lo n) [it] it (λi h=>IsRangeIter h it (lo+(i:Nat)*1) ((n:Int)-(i:Nat)) 1) where
 mem:=by simp
 obj:=λi h st b hb=>by
  have e:b=it:=by simpa using hb
  subst e
  exact⟨_,st,λv z=>by
   have z':Data.fields _=Data.cell v:=z
   cases z'⟩
 keep:=λi h h' st k=>k it (by simp) _ st
 item:=by
  intro X hP hw hK hc i pins s σ H E I hf st hg
  subst hP hw hK
  obtain⟨f0,f1,f2,f3,f4,f5⟩:=hf it (by simp)
  have W:=Walks.range (prog:=X.prog) (w:=X.w) (I.ok.hd hc) it lo 1 n
  refine W.item i s _ _ hg st λv h' tk hv st' kk=>?_
  obtain⟨t,rfl⟩:=hv
  have I1:Inv X pins σ H {s with heap:=h',toks:=tk}:=I.turned (λb o hb e=>kk b o (by simpa using hb) e) f0 f1 f3 f4 f5
  refine⟨_,rfl,Yk (s:={s with heap:=h',toks:=tk}) (n := "range_iterator") st' rfl rfl (by decide) ⟨.int (lo+i),H,I1,⟨t,?_⟩,⟨rfl,rfl⟩,st',λb hb=>(hf b hb).1⟩⟩
  rw[Int.mul_one]
 done:=by
  intro X hP hw hK hc i pins s σ H E I hf st hg
  subst hP hw hK
  obtain⟨f0,f1,f2,f3,f4,f5⟩:=hf it (by simp)
  exact wpAny_pyNext_range_end (I.ok.hd hc) st (by have:n≤i:=hg;omega) λh' eb=>⟨rfl,I.turned (t':=s.toks) (λb o hb e=>eb b o hb e) f0 f1 f3 f4 f5⟩
 self:=λ_ _ _ _ _ st h=>wpAny_pyIter_rangeiter st h
end L2
namespace L2
open PySem PySem.Spec PyProof.Rows
section
variable{X:Cx}{tg:Expr}
def SX(K:aC)(tl:TE):TI:=λσ H R=>tl σ H λx H1=>∃a,x=.ref a∧(∃xs,jC K H1 a xs)∧R (Itl K a) H1
def ph(K:aC)(tl:TE):TI:=λσ H R=>tl σ H λx H1=>∃a,x=.ref a∧(∃xs,pZ K H1 a xs)∧R (Itt K a) H1
theorem JN{l:Expr}{tl:TE}(hl:PE X l tl):PI X tg l (SX X.K tl):=by
 intro pins s σ H R I h
 refine gG (hl pins s σ H _ I h) λv s1 ⟨x,H1,I1,r1,q1⟩=>?_
 obtain⟨a,e,⟨xs,hq⟩,q⟩:=q1
 subst e
 cases r1
 obtain⟨its,rv,p,hz⟩:=I1.list hq
 refine wpAny_pyIter_list p.isList ?_
 refine⟨s1.heap.objs.size,[s1.heap.objs.size],_,_,H1,rfl,I1.kept (t':=s1.toks) λb o e=>Heap.get?_push_of_some _ e,Vj a _,⟨_,Heap.get?_push_size _ rfl,rfl,rfl⟩,λb hb=>?_,q⟩
 have e:b=s1.heap.objs.size:=by simpa using hb
 subst e
 exact I1.JM (B7 _) (I1.hok.fresh (B7 _))
theorem YL{l:Expr}{tl:TE}(hl:PE X l tl):PI X tg l (ph X.K tl):=by
 intro pins s σ H R I h
 refine gG (hl pins s σ H _ I h) λv s1 ⟨x,H1,I1,r1,q1⟩=>?_
 obtain⟨a,e,⟨xs,hq⟩,q⟩:=q1
 subst e
 cases r1
 obtain⟨its,rv,p,hz⟩:=I1.tuple hq
 refine wpAny_pyIter_tuple (show s1.heap.IsTuple a its.toArray from p) ?_
 refine⟨s1.heap.objs.size,[s1.heap.objs.size],_,_,H1,rfl,I1.kept (t':=s1.toks) λb o e=>Heap.get?_push_of_some _ e,Py a _,⟨_,Heap.get?_push_size _ rfl,rfl,rfl⟩,λb hb=>?_,q⟩
 have e:b=s1.heap.objs.size:=by simpa using hb
 subst e
 exact I1.JM (B7 _) (I1.hok.fresh (B7 _))
theorem Lp{pins:List (Addr×Obj)}{σ:St}{H:Hp}{s:Shared}{R:It→Hp→Prop}{E:Value→Shared→Prop}{lo hi:Int}{t u v:Tok}{tk:Nat}(I:Inv X pins σ H s)(h1:-(2 ^ 62)≤lo)(h2:lo<2 ^ 62)(h3:-(2 ^ 62)≤hi)(h4:hi<2 ^ 62)
  (q:R (ou lo (hi-lo).toNat) H):wpAny (model X.prog X.w) X.A (pyIter (.ref s.heap.objs.size)) (PIE X pins σ tg R) E {s with heap:=s.heap.push {cls:=.type "range", data:=.fields #[.int lo t,.int hi u,.int 1 v]},toks:=tk}:=by
 refine wpAny_pyIter_range (IsRange.new ..) (small_one h1 h2 h3 h4) ?_
 have I1:Inv X pins σ H {s with heap:=s.heap.push {cls:=.type "range", data:=.fields #[.int lo t,.int hi u,.int 1 v]},toks:=tk}:=I.kept λb o e=>Heap.get?_push_of_some _ e
 refine⟨(s.heap.push {cls:=.type "range", data:=.fields #[.int lo t,.int hi u,.int 1 v]}).objs.size,[(s.heap.push {cls:=.type "range", data:=.fields #[.int lo t,.int hi u,.int 1 v]}).objs.size],_,_,H,rfl,
  I1.kept (t':=tk) λb o e=>Heap.get?_push_of_some _ e,Pz _ lo (hi-lo).toNat,?_,λb hb=>?_,q⟩
 ·have e1:lo+((0:Nat):Int)*1=lo:=by simp
  have e2:(((hi-lo).toNat:Nat):Int)-((0:Nat):Int)=Builtin.Range.rangeSize lo hi 1:=by rw[rangeSize_one];split<;>omega
  show IsRangeIter _ _ (lo+((0:Nat):Int)*1) ((((hi-lo).toNat:Nat):Int)-((0:Nat):Int)) 1
  rw[e1,e2]
  exact Heap.get?_push_size _ rfl
 ·have e:b=(s.heap.push {cls:=.type "range", data:=.fields #[.int lo t,.int hi u,.int 1 v]}).objs.size:=by simpa using hb
  subst e
  exact I1.JM (B7 _) (I1.hok.fresh (B7 _))
def Yl(ta:TA):TI:=λσ H R=>ta σ H λvs H1=>∃j:Int,vs=[.int j]∧-(2 ^ 62)≤j∧j<2 ^ 62∧R (ou 0 j.toNat) H1
def Ym(ta:TA):TI:=λσ H R=>ta σ H λvs H1=>∃i j:Int,vs=[.int i,.int j]∧(-(2 ^ 62)≤i∧i<2 ^ 62∧-(2 ^ 62)≤j∧j<2 ^ 62)∧R (ou i (j-i).toNat) H1
theorem Fb{a:Expr}{ta:TA}{p pos:Pos}(hg:Gl X "range") (hm:X.mg "range" = none) (ha:PA X [a] ta) (hs:starEach [a] X.env=[(false,eval a X.env)]:=by rfl):PI X tg (.Call (.Name "range" p) [a] [] pos) (Yl ta):=by
 intro pins s σ H R I h
 refine Call_ (wJ I hg hm boot_range (K3 (gG (ha pos pins s σ H _ I h) λus s1 ⟨vs,H1,I1,r1,q1⟩=>?_) hs rfl))
 obtain⟨j,e,q1,q2,q⟩:=q1
 subst e
 cases r1 with
 | cons r rr=>
  cases rr
  obtain⟨t,rfl⟩:=r
  exact call_range_1 (Lp I1 (by omega) (by omega) q1 q2 (by simpa using q))
theorem Vk{a b:Expr}{ta:TA}{p pos:Pos}(hg:Gl X "range") (hm:X.mg "range" = none) (ha:PA X [a,b] ta) (hs:starEach [a,b] X.env=[(false,eval a X.env),(false,eval b X.env)]:=by rfl) (hs2:starEach [b] X.env=[(false,eval b X.env)]:=by rfl) :
  PI X tg (.Call (.Name "range" p) [a,b] [] pos) (Ym ta):=by
 intro pins s σ H R I h
 refine Call_ (wJ I hg hm boot_range (K3 (gG (ha pos pins s σ H _ I h) λus s1 ⟨vs,H1,I1,r1,q1⟩=>?_) (by rw[hs,hs2]) (by rw[hs2];rfl)))
 obtain⟨i,j,e,⟨q1,q2,q3,q4⟩,q⟩:=q1
 subst e
 cases r1 with
 | cons r rr=>
  cases rr with
  | cons r' rr=>
   cases rr
   obtain⟨t,rfl⟩:=r
   obtain⟨t',rfl⟩:=r'
   exact call_range_2 (Lp I1 q1 q2 q3 q4 q)
def Yn(wi:TI)(g:TG)(tb:TS):TS:=λD σ H=>wi σ H λJ H1=>∃W:Nat→Nat→St→Hp→Prop,(∃m,W 0 m σ H1)∧∀i m σ H,W i m σ H →
 (J.stop i H∧D.nx σ H)∨(J.go i H∧∃N:St→Hp→Prop,(∀σ' H',N σ' H'→∃m',m'<m∧W (i+1) m' σ' H')∧∀x H',J.oh i H x H'→g x σ H' λσ2 H2=>tb {D with nx:=N,ct:=N,bk:=D.nx} σ2 H2)
def Al(fp:List Addr)(h:Heap):List (Addr×Obj):=fp.filterMap λb=>(h.get? b).map λo=>(b,o)
theorem qC{fp:List Addr}{h:Heap}{b:Addr}{o:Obj}(hb:b∈fp)(e:h.get? b=some o):(b,o)∈Al fp h:=S3.mpr ⟨b,hb,by rw[e];rfl⟩
theorem Vl{fp:List Addr}{h:Heap}{p:Addr×Obj}(hp:p∈Al fp h):p.1∈fp∧h.get? p.1=some p.2:=by
 obtain⟨b,hb,e⟩:=S3.mp hp
 cases q:h.get? b with
 | none=>rw[q]at e;cases e
 | some o=>
  rw[q]at e
  have e':(b,o)=p:=E1 e
  subst e'
  exact⟨hb,q⟩
theorem Inv.pinned{pins:List (Addr×Obj)}{σ:St}{H:Hp}{s:Shared}{fp:List Addr}(I:Inv X pins σ H s)(hf:∀b∈fp,vC X pins H b)(ho:∀b∈fp,∃o,s.heap.get? b=some o∧∀v,o.data≠.cell v):Inv X (pins++Al fp s.heap) σ H s:=
 I.Tc λp hp=>(G8.mp hp).elim (λz=>I.pin p (E3 _ z)) λz=>by
  obtain⟨hb,e⟩:=Vl z
  obtain⟨f0,f1,f2,_⟩:=hf p.1 hb
  obtain⟨o,e',d⟩:=ho p.1 hb
  rw[e]at e';cases e'
  exact⟨e,f0,f1,f2,d⟩
theorem Inv.vD{pins pl:List (Addr×Obj)}{σ:St}{H:Hp}{s:Shared}(I:Inv X (pins++pl) σ H s):Inv X pins σ H s:=I.Tc λp hp=>I.pin p (E3 _ (L4 _ hp))
theorem Yo{iter:Expr}{body:List Stmt}{wi:TI}{g:TG}{tb:TS}{pos:Pos}(hp:PassesOwn (model X.prog X.w) X.A X.env X.xe)(hc:X.calm=true)(hi:PI X tg iter wi)(hg:PG X tg g)(hb:Lk X body tb)
  (hs:∀x,foldedSetIterable iter X.env x=pure x:=by intro _;rfl):PS X (.For tg iter body [] pos) (Yn wi g tb):=by
 intro pins s σ H D I h
 refine wpAny_For (gG (hi pins s σ H _ I h) λv s1 h1=>gG h1 λitv s2 h2=>?_) hs
 obtain⟨it,fp,tn,J,H2,e,I2,T,st2,f2,W,⟨m0,w0⟩,turn⟩:=h2
 subst e
 have stat:∀{H':Hp},(∀b∈fp,H' b=none)→∀b∈fp,vC X pins H' b:=λhn b hb=>⟨hn b hb,(f2 b hb).2⟩
 refine codeAny_forLoop_any (λn s'=>∃i σ' H',Inv X pins σ' H' s'∧tn i s'.heap∧(∀b∈fp,H' b=none)∧W i n σ' H') ?_ m0 ⟨0,σ,H2,I2,st2,λb hb=>(f2 b hb).1,w0⟩
 rintro n s3 ⟨i,σ3,H3,I3,st3,fr3,w3⟩
 rcases turn i n σ3 H3 w3 with ⟨stop,qn⟩ | ⟨go,N,hN,step⟩
 ·refine wpAny_passesOwn hp (gG (T.done X rfl rfl rfl hc i pins s3 σ3 H3 X.xe I3 (stat fr3) st3 stop) λr s4 ⟨hr,I4⟩=>?_)
  subst hr
  exact wpAny_execs_nil ⟨σ3,H3,I4,qn⟩
 ·refine wpAny_passesOwn hp (gG (T.item X rfl rfl rfl hc i pins s3 σ3 H3 X.xe I3 (stat fr3) st3 go) λr s4 ⟨u,hr,h4⟩=>?_)
  subst hr
  refine wpAny_passesOwn hp (gG h4 λ_ s5 ⟨x,H5,I5,r5,y5,st5,fr5⟩=>?_)
  have I5':=I5.pinned (stat fr5) (T.obj _ _ st5)
  refine wpAny_passesOwn hp (gG (hg _ s5 σ3 H5 x u _ I5' r5 (step x H5 y5)) λ_ s6 ⟨σ6,H6,I6,q6⟩=>?_)
  refine wpAny_passesOwn hp (gG (hb _ s6 σ6 H6 _ I6 q6) λf s7 q7=>?_)
  have again:∀{σ7:St} {H7:Hp},Inv X (pins++Al fp s5.heap) σ7 H7 s7→N σ7 H7→∃m,m<n∧∃i σ' H',Inv X pins σ' H' s7∧tn i s7.heap∧(∀b∈fp,H' b=none)∧W i m σ' H':=λ{σ7 H7} I7 n7=>by
   obtain⟨m',hm,w7⟩:=hN σ7 H7 n7
   refine⟨m',hm,i+1,σ7,H7,I7.vD,T.keep _ _ _ st5 λb hb o e=>(I7.pin (b,o) (E3 _ (E3 _ (qC hb e)))).1,λb hb=>?_,w7⟩
   obtain⟨o,e,d⟩:=T.obj _ _ st5 b hb
   exact(I7.pin (b,o) (E3 _ (E3 _ (qC hb e)))).2.1
  cases f with
  | next=>obtain⟨σ7,H7,I7,n7⟩:=q7;exact again I7 n7
  | cont=>obtain⟨σ7,H7,I7,n7⟩:=q7;exact again I7 n7
  | brk=>obtain⟨σ7,H7,I7,q7⟩:=q7;exact⟨σ7,H7,I7.vD,q7⟩
  | ret v=>obtain⟨x7,σ7,H7,I7,r7,q7⟩:=q7;exact⟨x7,σ7,H7,I7.vD,r7,q7⟩
end
end L2
namespace L2
open PySem PySem.Spec PyProof.Rows
abbrev R2:=V→V→Hp→VK→Prop
def pF(X:Cx)(f:Value→Value→Sem Value)(r:R2):Prop:=
 ∀(pins:List (Addr×Obj))(s:Shared)(σ:St)(H:Hp)(x y:V)(v u:Value)(Q:VK),Inv X pins σ H s→RelV x v→RelV y u→r x y H Q →
  wpAny (model X.prog X.w) X.A (f v u) (EP X pins σ Q) X.xe s
def UnR(X:Cx)(f:Value→Sem Value)(r:V→Hp→VK→Prop):Prop:=
 ∀(pins:List (Addr×Obj))(s:Shared)(σ:St)(H:Hp)(x:V)(v:Value)(Q:VK),Inv X pins σ H s→RelV x v→r x H Q →
  wpAny (model X.prog X.w) X.A (f v) (EP X pins σ Q) X.xe s
def lH(X:Cx)(f:Value)(r:List V→Hp→VK→Prop):Prop:=
 ∀(pins:List (Addr×Obj))(s:Shared)(σ:St)(H:Hp)(xs:List V)(us:List Value)(Q:VK),Inv X pins σ H s→Vals xs us→r xs H Q →
  wpAny (model X.prog X.w) X.A (call f us) (EP X pins σ Q) X.xe s
def Am(r:R2)(ta tb:TE):TE:=λσ H Q=>ta σ H λx H1=>tb σ H1 λy H2=>r x y H2 Q
def tUn(r:V→Hp→VK→Prop)(ta:TE):TE:=λσ H Q=>ta σ H λx H1=>r x H1 Q
def rI(C:Int→Int→Prop)(g:Int→Int→V):R2:=λx y H Q=>∃i j,x=.int i∧y=.int j∧C i j∧Q (g i j) H
def Vm(g:Int→Int→V):R2:=λx y H Q=>∃i j,x=.int i∧y=.int j∧Q (g i j) H
def rU(g:Int→V):V→Hp→VK→Prop:=λx H Q=>∃i,x=.int i∧Q (g i) H
section
variable{X:Cx}{a b c:Expr}{ta tb tc:TE}{pos:Pos}
theorem YM(ha:PE X a ta)(hb:PE X b tb){pins:List (Addr×Obj)}{s:Shared}{σ:St}{H:Hp}{R:V→V→Hp→Prop}(I:Inv X pins σ H s)
  (h:ta σ H λx H1=>tb σ H1 λy H2=>R x y H2) {Q:Value→Shared→Prop} {f:Value→Value→Sem Value}
  (hf:∀v u s2 x y H2,Inv X pins σ H2 s2→RelV x v→RelV y u→R x y H2→wpAny (model X.prog X.w) X.A (f v u) Q X.xe s2) :
  wpAny (model X.prog X.w) X.A (eval a X.env) (λv s₁=>wpAny (model X.prog X.w) X.A (eval b X.env) (λu s₂=>wpAny (model X.prog X.w) X.A (f v u) Q X.xe s₂) X.xe s₁) X.xe s:=by
 refine gG (ha pins s σ H _ I h) λv s1 ⟨x,H1,I1,r1,q1⟩=>?_
 refine gG (hb pins s1 σ H1 _ I1 q1) λu s2 ⟨y,H2,I2,r2,q2⟩=>?_
 exact hf v u s2 x y H2 I2 r1 r2 q2
theorem Yp{op:Operator}{r:R2}(ho:pF X (binaryOp op) r)(ha:PE X a ta)(hb:PE X b tb):PE X (.BinOp a op b pos) (Am r ta tb):=by
 intro pins s σ H Q I h
 exact wpAny_BinOp (YM ha hb I h λv u s2 x y H2 I2 rx ry q=>ho pins s2 σ H2 x y v u Q I2 rx ry q)
theorem pq{op:UnaryOp}{r:V→Hp→VK→Prop}(ho:UnR X (unaryOp op) r)(ha:PE X a ta):PE X (.UnaryOp op a pos) (tUn r ta):=by
 intro pins s σ H Q I h
 exact UnaryOp_ (gG (ha pins s σ H _ I h) λv s1 ⟨x,H1,I1,r1,q1⟩=>ho pins s1 σ H1 x v Q I1 r1 q1)
theorem xr{f:Value→Value→Sem Value}{C:Int→Int→Prop}{g:Int→Int→Int}
  (rule:∀(i j:Int)(t u:Tok)(s:Shared)(Q:Value→Shared→Prop)(E:Value→Shared→Prop),C i j→Q (.int (g i j) s.toks) {s with toks:=s.toks+1}→wpAny (model X.prog X.w) X.A (f (.int i t) (.int j u)) Q E s) :
  pF X f (rI C λi j=>.int (g i j)):=by
 intro pins s σ H x y v u Q I rx ry h
 obtain⟨i,j,rfl,rfl,hc,q⟩:=h
 obtain⟨t,rfl⟩:=rx
 obtain⟨t',rfl⟩:=ry
 exact rule i j t t' s _ _ hc ⟨.int (g i j),H,I.tok _,⟨_,rfl⟩,q⟩
theorem qd{f:Value→Value→Sem Value}{g:Int→Int→Int}
  (rule:∀(i j:Int)(t u:Tok)(s:Shared)(Q:Value→Shared→Prop)(E:Value→Shared→Prop),Q (.int (g i j) s.toks) {s with toks:=s.toks+1}→wpAny (model X.prog X.w) X.A (f (.int i t) (.int j u)) Q E s) :
  pF X f (Vm λi j=>.int (g i j)):=by
 intro pins s σ H x y v u Q I rx ry h
 obtain⟨i,j,rfl,rfl,q⟩:=h
 obtain⟨t,rfl⟩:=rx
 obtain⟨t',rfl⟩:=ry
 exact rule i j t t' s _ _ ⟨.int (g i j),H,I.tok _,⟨_,rfl⟩,q⟩
theorem JP{f:Value→Value→Sem Value}{g:Int→Int→Bool}
  (rule:∀(i j:Int)(t u:Tok)(s:Shared)(Q:Value→Shared→Prop)(E:Value→Shared→Prop),Q (.bool (g i j)) s→wpAny (model X.prog X.w) X.A (f (.int i t) (.int j u)) Q E s) :
  pF X f (Vm λi j=>.bl (g i j)):=by
 intro pins s σ H x y v u Q I rx ry h
 obtain⟨i,j,rfl,rfl,q⟩:=h
 obtain⟨t,rfl⟩:=rx
 obtain⟨t',rfl⟩:=ry
 exact rule i j t t' s _ _ ⟨.bl (g i j),H,I,rfl,q⟩
def Vn(i j:Int):Prop:=0<j∧j<1073741824
def Vo(i j:Int):Prop:=0≤j∧j≤1000000∧i.natAbs<2 ^ 64
def Ej(i j:Int):Prop:=(-(2 ^ 64)<i∧i<2 ^ 64)∨(-(2 ^ 64)<j∧j<2 ^ 64)
theorem Ej.ok{i j:Int}(h:Ej i j):IntMulOk i j:=by
 rcases h with ⟨h1,h2⟩ | ⟨h1,h2⟩
 ·exact .of_left (intBits_le_64 h1 h2)
 ·exact .of_right (intBits_le_64 h1 h2)
theorem YQ:pF X (binaryOp .Add) (Vm λi j=>.int (i+j)):=qd λ_ _ _ _ _ _ _ q=>add_int q
theorem YT:pF X (binaryOp .Sub) (Vm λi j=>.int (i-j)):=qd λ_ _ _ _ _ _ _ q=>sub_int q
theorem YW:pF X (binaryOp .Mult) (rI Ej λi j=>.int (i*j)):=xr λ_ _ _ _ _ _ _ hc q=>mul_int q hc.ok
theorem JQ:pF X (binaryOp .FloorDiv) (rI Vn λi j=>.int (i/j)):=xr λi j _ _ _ _ _ hc q=>by
 have h1:(0:Int)<j:=hc.1
 have h2:j<1073741824:=hc.2
 exact floordiv_int (by omega) (by rw[Int.fdiv_eq_ediv_of_nonneg i (by omega)];exact q) (.inl (PyProof.noPylong_small (by omega)))
theorem YX:pF X (binaryOp .Mod) (rI (λ_ j=>0<j) λi j=>.int (i%j)):=xr λi j _ _ _ _ _ hc q=>by
 have h1:(0:Int)<j:=hc
 exact mod_int' (by omega) (by rw[Int.fmod_eq_emod_of_nonneg i (by omega)];exact q)
theorem ZC:pF X (binaryOp .Pow) (rI Vo λi j=>.int (i ^ j.toNat)):=xr λ_ _ _ _ _ _ _ hc q=>pow_int_small hc.1 hc.2.1 hc.2.2 q
theorem unI{f:Value→Sem Value}{g:Int→Int}
  (rule:∀(i:Int)(t:Tok)(s:Shared)(Q:Value→Shared→Prop)(E:Value→Shared→Prop),Q (.int (g i) s.toks) {s with toks:=s.toks+1}→wpAny (model X.prog X.w) X.A (f (.int i t)) Q E s) :
  UnR X f (rU λi=>.int (g i)):=by
 intro pins s σ H x v Q I rx h
 obtain⟨i,rfl,q⟩:=h
 obtain⟨t,rfl⟩:=rx
 exact rule i t s _ _ ⟨.int (g i),H,I.tok _,⟨_,rfl⟩,q⟩
theorem ZD:UnR X (unaryOp .USub) (rU λi=>.int (-i)):=unI λ_ _ _ _ _ q=>neg_int q
end
def JR:V→V→Bool
  | .non,.non=>true | .non,.int _=>true | .int _,.non=>true | .non,.bl _=>true | .bl _,.non=>true | .non,.str _=>true | .str _,.non=>true
  | .int _,.int _=>true | .bl _,.bl _=>true | .str _,.str _=>true | .byt _,.byt _=>true
  | .int _,.str _=>true | .str _,.int _=>true | .bl _,.str _=>true | .str _,.bl _=>true
  | _,_=>false
def rEq:R2:=λx y H Q=>JR x y=true∧Q (.bl (decide (x=y))) H
def rNe:R2:=λx y H Q=>JR x y=true∧Q (.bl (!decide (x=y))) H
theorem Tf{i j:Int}:decide (V.int i=V.int j)=(i==j):=by
 rw[J5]
 simp
theorem Yq{i j:Bool}:decide (V.bl i=V.bl j)=(i==j):=by
 rw[J5]
 simp
theorem Tg{i j:Str}:decide (V.str i=V.str j)=(i==j):=by
 rw[J5]
 simp
theorem Th{i j:Array UInt8}:decide (V.byt i=V.byt j)=(i.toList==j.toList):=by
 rw[J5]
 cases i
 cases j
 simp
section
variable{X:Cx}{a b c:Expr}{ta tb tc:TE}{pos:Pos}
theorem cW{pins:List (Addr×Obj)}{σ:St}{H:Hp}{s:Shared}{Q:VK}{k k':Bool}(I:Inv X pins σ H s)(q:Q (.bl k) H)(e:k=k'):EP X pins σ Q (.bool k') s:=by
 subst e
 exact⟨.bl k,H,I,rfl,q⟩
theorem qe:pF X (compareOp .Eq) rEq:=by
 intro pins s σ H x y v u Q I rx ry h
 obtain⟨hs,q⟩:=h
 cases x with
 | non=>
  cases rx
  cases y with
  | non=>cases ry;exact PySem.EqNone.eq_none_none (cW I q (by simp))
  | bl j=>cases ry;exact PySem.EqNone.eq_none_bool (cW I q (by simp))
  | int j=>obtain⟨t',rfl⟩:=ry;exact PySem.EqNone.eq_none_int (cW I q (by simp))
  | str j=>obtain⟨t',rfl⟩:=ry;exact PySem.EqNone.eq_none_str (cW I q (by simp))
  | _=>exact absurd (show false=true from hs) E2
 | bl i=>
  cases rx
  cases y with
  | non=>cases ry;exact PySem.EqNone.eq_bool_none (cW I q (by simp))
  | bl j=>cases ry;exact eq_bool (cW I q Yq)
  | str j=>obtain⟨t',rfl⟩:=ry;exact PySem.EqMixed.eq_bool_str (cW I q (by simp))
  | _=>exact absurd (show false=true from hs) E2
 | int i=>
  obtain⟨t,rfl⟩:=rx
  cases y with
  | non=>cases ry;exact PySem.EqNone.eq_int_none (cW I q (by simp))
  | int j=>obtain⟨t',rfl⟩:=ry;exact eq_int (cW I q Tf)
  | str j=>obtain⟨t',rfl⟩:=ry;exact PySem.EqMixed.eq_int_str (cW I q (by simp))
  | _=>exact absurd (show false=true from hs) E2
 | str i=>
  obtain⟨t,rfl⟩:=rx
  cases y with
  | non=>cases ry;exact PySem.EqNone.eq_str_none (cW I q (by simp))
  | bl j=>cases ry;exact PySem.EqMixed.eq_str_bool (cW I q (by simp))
  | int j=>obtain⟨t',rfl⟩:=ry;exact PySem.EqMixed.eq_str_int (cW I q (by simp))
  | str j=>obtain⟨t',rfl⟩:=ry;exact eq_str (cW I q Tg)
  | _=>exact absurd (show false=true from hs) E2
 | byt i=>
  obtain⟨t,rfl⟩:=rx
  cases y with
  | byt j=>obtain⟨t',rfl⟩:=ry;exact PySem.W.eq_bytes (cW I q Th)
  | _=>exact absurd (show false=true from hs) E2
 | _=>cases y<;>exact absurd (show false=true from hs) E2
theorem qg:pF X (compareOp .NotEq) rNe:=by
 intro pins s σ H x y v u Q I rx ry h
 obtain⟨hs,q⟩:=h
 cases x with
 | non=>
  cases rx
  cases y with
  | non=>cases ry;exact PySem.EqNone.ne_none_none (cW I q (by simp))
  | bl j=>cases ry;exact PySem.EqNone.ne_none_bool (cW I q (by simp))
  | int j=>obtain⟨t',rfl⟩:=ry;exact PySem.EqNone.ne_none_int (cW I q (by simp))
  | str j=>obtain⟨t',rfl⟩:=ry;exact PySem.EqNone.ne_none_str (cW I q (by simp))
  | _=>exact absurd (show false=true from hs) E2
 | bl i=>
  cases rx
  cases y with
  | non=>cases ry;exact PySem.EqNone.ne_bool_none (cW I q (by simp))
  | bl j=>cases ry;exact ne_bool (cW I q (congrArg not Yq))
  | str j=>obtain⟨t',rfl⟩:=ry;exact PySem.EqMixed.ne_bool_str (cW I q (by simp))
  | _=>exact absurd (show false=true from hs) E2
 | int i=>
  obtain⟨t,rfl⟩:=rx
  cases y with
  | non=>cases ry;exact PySem.EqNone.ne_int_none (cW I q (by simp))
  | int j=>obtain⟨t',rfl⟩:=ry;exact ne_int (cW I q (congrArg not Tf))
  | str j=>obtain⟨t',rfl⟩:=ry;exact PySem.EqMixed.ne_int_str (cW I q (by simp))
  | _=>exact absurd (show false=true from hs) E2
 | str i=>
  obtain⟨t,rfl⟩:=rx
  cases y with
  | non=>cases ry;exact PySem.EqNone.ne_str_none (cW I q (by simp))
  | bl j=>cases ry;exact PySem.EqMixed.ne_str_bool (cW I q (by simp))
  | int j=>obtain⟨t',rfl⟩:=ry;exact PySem.EqMixed.ne_str_int (cW I q (by simp))
  | str j=>obtain⟨t',rfl⟩:=ry;exact ne_str (cW I q (congrArg not Tg))
  | _=>exact absurd (show false=true from hs) E2
 | byt i=>
  obtain⟨t,rfl⟩:=rx
  cases y with
  | byt j=>obtain⟨t',rfl⟩:=ry;exact PySem.W.ne_bytes (cW I q (congrArg not Th))
  | _=>exact absurd (show false=true from hs) E2
 | _=>cases y<;>exact absurd (show false=true from hs) E2
theorem An:pF X (compareOp .Lt) (Vm λi j=>.bl (decide (i<j))):=JP λ_ _ _ _ _ _ _ q=>lt_int q
theorem Lq:pF X (compareOp .LtE) (Vm λi j=>.bl (decide (i≤j))):=JP λ_ _ _ _ _ _ _ q=>le_int q
theorem TF:pF X (compareOp .Gt) (Vm λi j=>.bl (decide (j<i))):=JP λ_ _ _ _ _ _ _ q=>gt_int q
theorem Ti:pF X (compareOp .GtE) (Vm λi j=>.bl (decide (j≤i))):=JP λ_ _ _ _ _ _ _ q=>ge_int q
theorem pF.or{f:Value→Value→Sem Value}{r r':R2}(h:pF X f r)(h':pF X f r'):pF X f (λx y H Q=>r x y H Q∨r' x y H Q):=by
 intro pins s σ H x y v u Q I rx ry q
 rcases q with q | q
 ·exact h pins s σ H x y v u Q I rx ry q
 ·exact h' pins s σ H x y v u Q I rx ry q
theorem bI(b:Expr){op:CmpOp}(h:op≠.In:=by decide)(h2:op≠.NotIn:=by decide):behindInMarks op b=false:=by
 have e1:(op==CmpOp.In)=false:=by cases op<;>first | rfl | exact absurd rfl h
 have e2:(op==CmpOp.NotIn)=false:=by cases op<;>first | rfl | exact absurd rfl h2
 cases b<;>simp[behindInMarks,e1,e2]
theorem JS{op:CmpOp}{r:R2}(ho:pF X (compareOp op) r)(ha:PE X a ta)(hb:PE X b tb)(hm:behindInMarks op b=false):PE X (.Compare a [op] [b] pos) (Am r ta tb):=by
 intro pins s σ H Q I h
 exact wpAny_Compare1 (YM ha hb I h λv u s2 x y H2 I2 rx ry q=>ho pins s2 σ H2 x y v u Q I2 rx ry q) hm
def Lr(t:TE):TT:=λσ H Q=>t σ H λx H'=>∃k,x=.bl k∧Q k H'
theorem JT{op:CmpOp}{r:R2}(ho:pF X (compareOp op) r)(ha:PE X a ta)(hb:PE X b tb)(hm:behindInMarks op b=false):PT X (.Compare a [op] [b] pos) (Lr (Am r ta tb)):=by
 intro pins s σ H Q I h
 refine wpAny_isTrue_Compare1 (gG (ha pins s σ H _ I h) λv s1 ⟨x,H1,I1,r1,q1⟩=>gG (hb pins s1 σ H1 _ I1 q1) λu s2 ⟨y,H2,I2,r2,q2⟩=>
  gG (ho pins s2 σ H2 x y v u _ I2 r1 r2 q2) λc s3 ⟨z,H3,I3,r3,k,e,q3⟩=>?_) hm
 subst e
 cases r3
 exact wpAny_truthy_bool ⟨H3,I3,q3⟩
def Im(r r':R2)(ta tb tc:TE):TE:=λσ H Q=>ta σ H λx H1=>tb σ H1 λy H2=>r x y H2 λz H3=>∃k,z=.bl k ∧
 (if k=true then tc σ H3 λw' H4=>r' y w' H4 Q else Q (.bl false) H3)
theorem Yr{op op':CmpOp}{r r':R2}(ho:pF X (compareOp op) r)(ho':pF X (compareOp op') r')(ha:PE X a ta)(hb:PE X b tb)(hc:PE X c tc)
  (hm:lastMarks [op,op'] [b,c]=false:=by with_unfolding_all rfl):PE X (.Compare a [op,op'] [b,c] pos) (Im r r' ta tb tc):=by
 intro pins s σ H Q I h
 refine Compare_chain (gG (ha pins s σ H _ I h) λv s1 ⟨x,H1,I1,r1,q1⟩=>chain_link (gG (hb pins s1 σ H1 _ I1 q1) λu s2 ⟨y,H2,I2,r2,q2⟩=>
  gG (ho pins s2 σ H2 x y v u _ I2 r1 r2 q2) λd s3 ⟨z,H3,I3,r3,k,e,q3⟩=>?_)) hm
 subst e
 cases r3
 refine wpAny_truthy_bool ?_
 cases k with
 | false=>exact ite_ff ⟨.bl false,H3,I3,rfl,q3⟩
 | true=>exact ite_tt (chain_last (gG (hc pins s3 σ H3 _ I3 q3) λw' s4 ⟨z',H4,I4,r4,q4⟩=>ho' pins s4 σ H4 y z' u w' Q I4 r2 r4 q4))
theorem Ys{op op':CmpOp}{r r':R2}(ho:pF X (compareOp op) r)(ho':pF X (compareOp op') r')(ha:PE X a ta)(hb:PE X b tb)(hc:PE X c tc)
  (hm:lastMarks [op,op'] [b,c]=false:=by with_unfolding_all rfl):PT X (.Compare a [op,op'] [b,c] pos) (Lr (Im r r' ta tb tc)):=by
 intro pins s σ H Q I h
 refine isTrue_chain (gG (ha pins s σ H _ I h) λv s1 ⟨x,H1,I1,r1,q1⟩=>test_link (gG (hb pins s1 σ H1 _ I1 q1) λu s2 ⟨y,H2,I2,r2,q2⟩=>
  gG (ho pins s2 σ H2 x y v u _ I2 r1 r2 q2) λd s3 ⟨z,H3,I3,r3,k,e,q3⟩=>?_)) hm
 subst e
 cases r3
 refine wpAny_truthy_bool ?_
 cases k with
 | false=>
  obtain⟨k',e',q'⟩:=q3
  cases e'
  exact ite_ff ⟨H3,I3,q'⟩
 | true=>
  refine ite_tt (test_last (gG (hc pins s3 σ H3 _ I3 q3) λw' s4 ⟨z',H4,I4,r4,q4⟩=>gG (ho' pins s4 σ H4 y z' u w' _ I4 r2 r4 q4) λd' s5 ⟨z2,H5,I5,r5,k2,e2,q5⟩=>?_))
  subst e2
  cases r5
  exact wpAny_truthy_bool ⟨H5,I5,q5⟩
theorem Ao:(sizeLine:Nat)<2 ^ 63:=by rw[sizeLine_eq];decide
theorem vals1{x:V}{us:List Value}(r:Vals [x] us):∃u,us=[u]∧RelV x u:=by
 cases r with
 | cons r1 r2=>cases r2;exact⟨_,rfl,r1⟩
theorem vals2{x y:V}{us:List Value}(r:Vals [x,y] us):∃u w',us=[u,w']∧RelV x u∧RelV y w':=by
 cases r with
 | cons r1 r2=>
  cases r2 with
  | cons r3 r4=>cases r4;exact⟨_,_,rfl,r1,r3⟩
end
end L2
namespace L2
open PySem PySem.Spec PyProof.Rows
structure ZF(h:Heap)(x dx C:Addr)(mA:Str→Option Value):Prop where
 obj:h.get? x=some (Q0 C dx)
 ns:h.Ns1 dx mA
 ne:dx≠x
theorem Vp{h:Heap}{dx:Addr}{mA:Str→Option Value}(n:h.Ns1 dx mA):∃od,h.get? dx=some od∧∀name,Q8 name od=some (mA name):=by
 obtain⟨o,es,ep,ho,hd,hk,_,hm⟩:=n
 refine⟨o,ho,λname=>?_⟩
 have e:=hm name
 unfold nsFind findBy at e
 rw[←Array.find?_toList]at e
 unfold Q8
 rw[hd]
 dsimp only
 split
 ·rename_i y q
  rw[q]at e
  exact congrArg some e
 ·rename_i q
  rw[q]at e
  have a:es.toList.any (·.refKey)=false:=by
   rw[List.any_eq_false]
   intro y hy
   obtain⟨z,t,hkey⟩:=hk y (Array.mem_toList_iff.mp hy)
   simp[DictEntry.refKey,hkey]
  have a':¬es.toList.any (·.refKey)=true:=by rw[a];exact E2
  rw[if_neg a']
  exact congrArg some e
theorem ZF.look{h:Heap}{x dx C:Addr}{mA:Str→Option Value}(I:ZF h x dx C mA):∃od,PySem.W.InstAt h x (Q0 C dx) C (some od)∧∀name,Q8 name od=some (mA name):=
 let ⟨od,ho,hl⟩:=Vp I.ns
 ⟨od,⟨I.obj,rfl,rfl,ho⟩,hl⟩
section
variable{prog:Program}{w:World}{A:Around}{E:Value→Shared→Prop}{s:Shared}{K:aC}{x dx C f:Addr}{mA:Str→Option Value}{name:Str}{v:Value}
end
section
variable{P:Program}{w:World}{H H':Hp}{h h':Heap}{a C dx:Addr}{fs fs':List (Str×V)}
theorem JV(hok:tV P w H h)(e:H a=some (.ins C dx fs)):∃mA,ZF h a dx C mA∧(∀f,Pq (fs.lookup f) (mA f))∧V7 mA (fs.map (·.1))∧fs.length≤1000∧H dx=some (.own a):=by
 obtain⟨d,z,ne,ob,mA,n,r,q⟩:=(show fX P w H h a (.ins C dx fs)from hok a _ e)
 exact⟨mA,⟨ob,n,ne⟩,r,q,z,d⟩
end
structure xu(K:aC)(C:Addr):Prop where
 pg:T7 K C Str.empty=true
 hd:PySem.W.hasDictIn K C=true
 po:PySem.W.plainOver K C=true
 sa:J2 K (.ref C) "__setattr__" = some (some (.builtin "object.__setattr__"))
theorem xu.get{K:aC}{C:Addr}(c:xu K C)(f:Str):T7 K C f=true:=c.pg
def ZG(K:aC)(C:Addr)(f:Str):Prop:=J2 K (.ref C) f=some none
structure Con(K:aC)(C:Addr)(f:Str)(v:V)(u:Value):Prop where
 at_:J2 K (.ref C) f=some (some u)
 rel:RelV v u
 get:O6 K u "__get__" = some none
 cp:PySem.W.copiedNames.contains f=false
structure Meth(K:aC)(C:Addr)(m:Str)(f:Addr):Prop where
 at_:J2 K (.ref C) m=some (some (.ref f))
 fn:V9 K (.ref f)=true
 kp:G7 K (.ref f)=true
section
variable{X:Cx}{pins:List (Addr×Obj)}{σ:St}{H:Hp}{s:Shared}{a C dx:Addr}{fs:List (Str×V)}{f:Str}{v:V}{A:Around}{E:Value→Shared→Prop}
end
section
variable{X:Cx}{o e value:Expr}{f:Str}{pos pos' tpos:Pos}{ta tv:TE}
end
section
variable{X:Cx}{pins:List (Addr×Obj)}{σ:St}{H:Hp}{s:Shared}{A:Around}{E:Value→Shared→Prop}{Q:Value→Shared→Prop}{c:Value}{b:Bool}
inductive zN(K:aC)(H:Hp):V→Value→Prop where
 | non:zN K H .non (.type "NoneType")
 | bl (x:Bool):zN K H (.bl x) (.type "bool")
 | int (i:Int):zN K H (.int i) (.type "int")
 | str (x:Str):zN K H (.str x) (.type "str")
 | flt (x:UInt64):zN K H (.flt x) (.type "float")
 | lst {a:Addr} {xs:List V} (e:H a=some (.lst xs)):zN K H (.ref a) (.type "list")
 | wI {a:Addr} {o:Obj} {xs:List V} (e:H a=some (.wI o (.lst xs))):zN K H (.ref a) (.type "list")
 | tup {a:Addr} {xs:List V} (e:H a=some (.tup xs)):zN K H (.ref a) (.type "tuple")
 | dK {a:Addr} {kvs:List (Key×V)} (e:H a=some (.dK kvs)):zN K H (.ref a) (.type "dict")
 | dT {a:Addr} {kvs:List (List Key×V)} (e:H a=some (.dT kvs)):zN K H (.ref a) (.type "dict")
 | ins {a C dx:Addr} {fs:List (Str×V)} (e:H a=some (.ins C dx fs)) (cl:xu K C) (ha:J2 K (.ref C) "__class__" = some (some (.builtin "object.__class__")))
   (hn:O6 K (.builtin "object.__class__") "__get__" = some (some (.builtin "getset_descriptor.__get__"))) (htk:U5 K (.builtin "object.__class__")=some true)
   (hm:V4 K C (.type "object")=some true):zN K H (.ref a) (.ref C)
theorem rW{x:V}{u t:Value}(I:Inv X pins σ H s)(rx:RelV x u)(ty:zN X.K H x t)(e:V2 X.K t c=some b)(h:∀tk,Q (.bool b) {s with toks:=tk}) :
  wpAny (model X.prog X.w) A (call (.builtin "isinstance") [u,c]) Q E s:=by
 cases ty with
 | non=>cases(show u=Value.none from rx);exact F0 PySem.W.kitx_none I.Ew True.intro e (λz=>nomatch z) h
 | bl y=>cases(show u=Value.bool y from rx);exact F0 PySem.W.kitx_bool I.Ew True.intro e (λz=>nomatch z) h
 | int i=>obtain⟨t,q⟩:=(show ∃t,u=Value.int i t from rx);cases q;exact F0 PySem.W.kitx_int I.Ew True.intro e (λz=>nomatch z) h
 | str y=>obtain⟨t,q⟩:=(show ∃t,u=Value.str y t from rx);cases q;exact F0 PySem.W.kitx_str I.Ew True.intro e (λz=>nomatch z) h
 | flt y=>obtain⟨t,q⟩:=(show ∃t,u=Value.float y t from rx);cases q;exact F0 PySem.W.kitx_float I.Ew True.intro e (λz=>nomatch z) h
 | @lst a xs ea=>
  cases(show u=Value.ref a from rx)
  obtain⟨_,_,n,_,h1⟩:=(show fX X.prog X.w H s.heap a (.lst xs)from I.hok a _ ea)
  exact F0 O7 I.Ew ⟨_,h1,rfl⟩ e (λz=>nomatch z) h
 | @wI a ob xs ea=>
  cases(show u=Value.ref a from rx)
  obtain⟨_,_,_,n,_,h1⟩:=(show fX X.prog X.w H s.heap a (.wI ob (.lst xs))from I.hok a _ ea)
  exact F0 O7 I.Ew ⟨_,h1,rfl⟩ e (λz=>nomatch z) h
 | @tup a xs ea=>
  cases(show u=Value.ref a from rx)
  obtain⟨_,_,_,p⟩:=(show fX X.prog X.w H s.heap a (.tup xs)from I.hok a _ ea)
  obtain⟨o,h1,h2,_⟩:=p
  exact F0 S4 I.Ew ⟨o,h1,h2⟩ e (λz=>nomatch z) h
 | @dK a kvs ea=>
  cases(show u=Value.ref a from rx)
  obtain⟨_,_,vs,_,p⟩:=(show fX X.prog X.w H s.heap a (.dK kvs)from I.hok a _ ea)
  obtain⟨o,es,ep,h1,h2,_⟩:=p
  exact F0 O8 I.Ew ⟨o,h1,h2.1⟩ e (λz=>nomatch z) h
 | @dT a kvs ea=>
  cases(show u=Value.ref a from rx)
  obtain⟨_,_,xs,_,o,es,ep,h1,h2,_⟩:=(show fX X.prog X.w H s.heap a (.dT kvs)from I.hok a _ ea)
  exact F0 O8 I.Ew ⟨o,h1,h2.1⟩ e (λz=>nomatch z) h
 | @ins a C dx fs ea cl ha hn htk hm=>
  cases(show u=Value.ref a from rx)
  obtain⟨mA,O,_⟩:=JV I.hok ea
  obtain⟨od,J,_⟩:=O.look
  exact F0 (PySem.W.kitx_own (cl.get _) cl.hd ha hn htk hm) I.Ew J e (λz=>nomatch z) h
end
end L2
namespace L2
open PySem PySem.Spec PyProof.Rows
structure mY(k:Nat)(A:Around):Prop where
 hd:A.handled=none
 dp:A.depth+3*k+5<recursionLimit
 un:A.units+16*k+200<cLine
theorem mY.mono{j k:Nat}{A:Around}(r:mY k A)(h:j≤k):mY j A:=⟨r.hd,by have:=r.dp;omega,by have:=r.un;omega⟩
theorem mY.deeper{k:Nat}{A:Around}(r:mY (k+1) A)(env:Env):mY k (A.deeper env):=
 ⟨r.hd,by have:=r.dp;show A.depth+1+3*k+5<_;omega,by have:=r.un;show A.units+3+16*k+200<_;omega⟩
theorem mY.depth{k:Nat}{A:Around}(r:mY k A):A.depth<recursionLimit:=by have:=r.dp;omega
theorem mY.units{k:Nat}{A:Around}(r:mY k A):A.units+64<cLine:=by have:=r.un;omega
def kO:TA:=λ_ H Q=>Q [] H
def dM(ta:TE)(tr:TA):TA:=λσ H Q=>ta σ H λx H1=>tr σ H1 λxs H2=>Q (x::xs) H2
section
variable{X:Cx}{e:Expr}{es:List Expr}{te:TE}{t:TA}{pos:Pos}
theorem gP:PA X [] kO:=λ_ _ _ _ H Q I h=>Calls.spliced_nil ⟨[],H,I,.nil,h⟩
theorem cP(ha:PE X e te)(hr:PA X es t)(hs:starEach (e::es) X.env=(false,eval e X.env)::starEach es X.env:=by rfl):PA X (e::es) (dM te t):=by
 intro pos pins s σ H Q I h
 rw[hs]
 show wpAny _ _ (spliced ((false,eval e X.env)::backTo pos (starEach es X.env))) _ _ s
 refine Calls.spliced_cons (gG (ha pins s σ H _ I h) λu s1 ⟨x,H1,I1,r1,q1⟩=>?_)
 exact gG (hr pos pins s1 σ H1 _ I1 q1) λus s2 ⟨xs,H2,I2,r2,q2⟩=>⟨x::xs,H2,I2,.cons r1 r2,q2⟩
def Vq(t:TA):TE:=λσ H Q=>t σ H λxs H1=>xs.length≤sizeLine∧∀p,H1 p=none→Q (.ref p) (upd H1 p (.tup xs))
def Io(t:TA):TE:=λσ H Q=>t σ H λxs H1=>xs.length≤sizeLine∧∀p,H1 p=none→Q (.ref p) (upd H1 p (.lst xs))
theorem Qa{x1}(h:PA X es t):PE X (.Tuple es x1 pos) (Vq t):=by
 intro pins s σ H Q I hq
 refine wpAny_Tuple_spliced (gG (h pos pins s σ H _ I hq) λus s1 ⟨xs,H1,I1,r,z,q⟩=>⟨by rw[←r.length];exact z,?_⟩)
 have hf:H1 s1.heap.objs.size=none:=I1.hok.fresh (B7 _)
 refine⟨.ref s1.heap.objs.size,upd H1 s1.heap.objs.size (.tup xs),I1.laid (t':=s1.toks) (λb u e=>Heap.get?_push_of_some _ e) (B7 _) ?_,rfl,q _ hf⟩
 exact⟨z,us,r,⟨_,Heap.get?_push_size _ rfl,rfl,_,rfl⟩⟩
theorem Aq(h:PA X es t):PE X (.List es pos) (Io t):=by
 intro pins s σ H Q I hq
 refine wpAny_List_spliced (gG (h pos pins s σ H _ I hq) λus s1 ⟨xs,H1,I1,r,z,q⟩=>⟨by rw[←r.length];exact z,?_⟩)
 have hf:H1 s1.heap.objs.size=none:=I1.hok.fresh (B7 _)
 refine⟨.ref s1.heap.objs.size,upd H1 s1.heap.objs.size (.lst xs),I1.laid (t':=s1.toks) (λb u e=>Heap.get?_push_of_some _ e) (B7 _) ?_,rfl,q _ hf⟩
 exact⟨z,us,0,r,Heap.get?_push_size _ rfl⟩
end
abbrev Sp:=List V→Hp→VK→XK→Prop
abbrev Vr:=List Env→Hp→Shared→XK→Value→Shared→Prop
structure JW(P:Program)(w:World)(K:aC)(mg:Str→Option Value)(base:Heap)(A:Around)(outer:List Env)(s:Shared)(H:Hp):Prop where
 frames:A.frames=some outer
 mod:Mod K mg base
 bs:∀b o,base.get? b=some o→s.heap.get? b=some o∧H b=none
 RZ:base.objs.size≤s.heap.objs.size
 Ak:s.heap.FunFrames base outer
 jr:∀b∈frs outer,H b=none
 hok:tV P w H s.heap
 bare:AllBare s.gens
def CE(outer:List Env)(P:Program)(w:World)(H:Hp)(s:Shared)(Q:VK)(u:Value)(s':Shared):Prop:=
 ∃v H',s'.os=s.os∧AllBare s'.gens∧Un (frs outer) [] H H' s.heap s'.heap∧tV P w H' s'.heap∧RelV v u∧Q v H'
def CR(CX:Vr)(outer:List Env)(P:Program)(w:World)(H:Hp)(s:Shared)(Q:VK)(E:XK)(r:Result)(s':Shared):Prop:=
 match r with
 | .ok (.ret u)=>CE outer P w H s Q u s'
 | .ok _=>False
 | .error e=>CX outer H s E e s'
structure wL(P:Program)(w:World)(K:aC)(mg:Str→Option Value)(base:Heap)(CX:Vr)(k:Nat)(f:Addr)(fd:FuncData)(ps:List Str)(sp:Sp):Prop where
 len:∀vs H Q E,sp vs H Q E→vs.length=ps.length
 run:∀(A:Around)(outer:List Env)(s:Shared)(H:Hp)(args:Args)(us:List Value)(vs:List V)(Q:VK)(E:XK),mY k A→JW P w K mg base A outer s H→BindsTo s fd args (ps.zip us)→Vals vs us→sp vs H Q E →
  codeAny (model P w) A (.call (.ref f) args) (CR CX outer P w H s Q E) s
section
variable{X:Cx}{pins:List (Addr×Obj)}{σ:St}{H:Hp}{s s':Shared}
theorem Inv.env0(I:Inv X pins σ H s):JW X.prog X.w X.K X.mg X.base X.A X.stack s H:=
 ⟨I.ok.frames,I.ok.mod,I.bs,F9 I.ok.RZ I.sz,I.stack,I.Sy,I.hok,I.bare⟩
theorem Inv.after{Q:VK}{u:Value}(I:Inv X pins σ H s)(h:CE X.stack X.prog X.w H s Q u s'):EP X pins σ Q u s':=by
 obtain⟨v,H',os,bare,un,hok,r,q⟩:=h
 obtain⟨hh,g,d,t,os'⟩:=s'
 obtain rfl:os'=s.os:=os
 exact⟨v,H',I.call (h':=hh) (g':=g) (d':=d) (t':=t) (ch:=[]) un hok bare (λb z=>absurd z (by simp)),r,q⟩
end
def Ls(sp:Sp)(TJ:List V)(E:XK)(t:TA):TE:=λσ H Q=>t σ H λvs H1=>sp (vs++TJ) H1 Q E
def Binds(K:aC)(fd:FuncData)(ps:List Str)(ds:List Value):Prop:=
 ∀(s:Shared)(us:List Value),K.In s.heap→(us++ds).length=ps.length→BindsTo s fd ⟨us,[]⟩ (ps.zip (us++ds))
theorem Binds.all{K:aC}{fd:FuncData}{ps:List Str}(h:∀us:List Value,us.length=ps.length→bindArgs fd ⟨us,[]⟩=pure (ps.zip us)):Binds K fd ps []:=λs us _ hl=>by
 rw[N4]at hl ⊢
 exact .of_eq (h us hl)
def Passes(CX:Vr)(X:Cx)(E:XK):Prop:=∀(pins:List (Addr×Obj))(σ:St)(H:Hp)(s:Shared)(e:Value)(s':Shared),Inv X pins σ H s→CX X.stack H s E e s'→X.xe e s'
section
variable{X:Cx}{CX:Vr}{k:Nat}{f C:Addr}{fd:FuncData}{ps:List Str}{sp:Sp}{TJ:List V}{ds:List Value}{E:XK}{x m:Str}{p pos apos:Pos}{e o:Expr}{es:List Expr}{ta:TE}{t:TA}
theorem ZJ{pins:List (Addr×Obj)}{σ:St}{H:Hp}{s:Shared}{Q:VK}{us:List Value}{vs:List V}(F:wL X.prog X.w X.K X.mg X.base CX k f fd ps sp)(hr:mY k X.A)(hb:Binds X.K fd ps ds)(hd:Vals TJ ds)(hx:Passes CX X E)
  (I:Inv X pins σ H s) (r:Vals vs us) (h:sp (vs++TJ) H Q E):wpAny (model X.prog X.w) X.A (call (.ref f) us) (EP X pins σ Q) X.xe s:=by
 have r2:Vals (vs++TJ) (us++ds):=r.append hd
 have hl:(us++ds).length=ps.length:=by rw[←r2.length];exact F.len _ _ _ _ h
 refine wpAny_call (codeAny_mono (F.run X.A X.stack s H ⟨us,[]⟩ (us++ds) (vs++TJ) Q E hr I.env0 (hb s us I.Ew hl) r2 h) λr s' hq=>?_)
 cases r with
 | error e=>exact hx pins σ H s e s' I hq
 | ok fl=>
  cases fl with
  | ret u=>exact I.after hq
  | next=>exact False.elim hq
  | brk=>exact False.elim hq
  | cont=>exact False.elim hq
theorem JX(F:wL X.prog X.w X.K X.mg X.base CX k f fd ps sp)(hr:mY k X.A)(hg:Gl X x)(hm:X.mg x=some (.ref f))(hk:G7 X.K (.ref f)=true)(hb:Binds X.K fd ps ds)(hd:Vals TJ ds)(hx:Passes CX X E)
  (ha:PA X (e::es) t) (hdb:(x==("__debug__" : Str))=false:=by decide) (he:starEach (e::es) X.env=(false,eval e X.env)::starEach es X.env:=by rfl) (hpl:(backTo pos (starEach es X.env)).any (·.1)=false:=by rfl) :
  PE X (.Call (.Name x p) (e::es) [] pos) (Ls sp TJ E t):=by
 intro pins s σ H Q I h
 refine wpAny_Call_Name_kw (Td I hg hm ?_ hdb)
 refine PySem.W.callWith_K (h₀:=X.base) I.ok.mod.zj hk (gG (ha pos pins s σ H _ I h) λus s1 ⟨vs,H1,I1,r,q⟩=>⟨I1.Ew,?_⟩) he hpl
 exact ZJ F hr hb hd hx I1 r q
structure Mk(K:aC)(C f:Addr):Prop where
 makes:PySem.W.makesIn K C=true
 init:J2 K (.ref C) "__init__" = some (some (.ref f))
 fn:V9 K (.ref f)=true
 kp:G7 K (.ref C)=true
end
section
variable{X:Cx}{CX:Vr}{k:Nat}{f C:Addr}{fd:FuncData}{ps ks:List Str}{sp:Sp}{E:XK}{x m:Str}{p pos apos kpos:Pos}{e o:Expr}{es:List Expr}{kws:List Keyword}{te ta:TE}{t tk:TA}{nm:Option Str}
structure aAf(K:aC)(fd:FuncData)(ps ks:List Str)(g:List Value→List Value→List Value)(gV:List V→List V→List V):Prop where
 to:∀(s:Shared)(us ws:List Value),K.In s.heap→(g us ws).length=ps.length→BindsTo s fd ⟨us,ks.zip ws⟩ (ps.zip (g us ws))
 rel:∀{vs:List V} {us:List Value} {zs:List V} {ws:List Value},Vals vs us→Vals zs ws→Vals (gV vs zs) (g us ws)
variable{g:List Value→List Value→List Value}{gV:List V→List V→List V}
end
structure bN(N P:List Str)(sc:Scope):Prop where
 kind:sc.kind=.function
 co:sc.isCoroutine=false
 gen:sc.isGenerator=false
 nd:N.Nodup
 pre:N.take P.length=P
 par:∀x∈P,sc.names.lookup x=some .local∨sc.names.lookup x=some .cell
 ZK:∀y∈sc.names,y.2≠.free
theorem Fd{kindOf:Str→Option NameKind}{x:Str}:∀{binds:List (Str×Value)} {m:Str→Option Value},(∀v,(x,v)∉binds)→bindL kindOf binds m x=m x
 | [],_,_=>rfl
 | (n,v)::r,m,h=>by
  unfold bindL
  rw[Fd λw hw=>h w (D5 _ hw)]
  split
  ·have:x≠n:=by rintro rfl;exact h v E5
   simp[this]
  ·rfl
theorem Fe{kindOf:Str→Option NameKind}{x:Str}:∀{binds:List (Str×Value)} {m:Str→Option Value},(∀v,(x,v)∉binds)→bindC kindOf binds m x=m x
 | [],_,_=>rfl
 | (n,v)::r,m,h=>by
  unfold bindC
  rw[Fe λw hw=>h w (D5 _ hw)]
  split
  ·rfl
  ·have:x≠n:=by rintro rfl;exact h v E5
   simp[this]
theorem Ff{kindOf:Str→Option NameKind}{x:Str}{v:Value}:∀{P:List Str} {vs:List Value} {i:Nat} {m:Str→Option Value},P.Nodup→P[i]?=some x→vs[i]?=some v→kindOf x=some .local →
  bindL kindOf (P.zip vs) m x=some v
 | [],_,_,_,_,h,_,_=>by simp at h
 | _::_,[],_,_,_,_,h,_=>by simp at h
 | p::P,w::vs,0,m,nd,h1,h2,hk=>by
  simp at h1 h2;subst h1;subst h2
  show bindL kindOf ((p,w)::P.zip vs) m p=_
  unfold bindL
  rw[Fd λv hv=>(L7.mp nd).1 (N5 hv).1,if_pos hk]
  simp
 | p::P,w::vs,i+1,m,nd,h1,h2,hk=>by
  show bindL kindOf ((p,w)::P.zip vs) m x=_
  unfold bindL
  exact Ff (i:=i) (L7.mp nd).2 (by simpa using h1) (by simpa using h2) hk
theorem Fg{kindOf:Str→Option NameKind}{x:Str}{v:Value}:∀{P:List Str} {vs:List Value} {i:Nat} {m:Str→Option Value},P.Nodup→P[i]?=some x→vs[i]?=some v→kindOf x≠some .local →
  bindC kindOf (P.zip vs) m x=some v
 | [],_,_,_,_,h,_,_=>by simp at h
 | _::_,[],_,_,_,_,h,_=>by simp at h
 | p::P,w::vs,0,m,nd,h1,h2,hk=>by
  simp at h1 h2;subst h1;subst h2
  show bindC kindOf ((p,w)::P.zip vs) m p=_
  unfold bindC
  rw[Fe λv hv=>(L7.mp nd).1 (N5 hv).1,if_neg hk]
  simp
 | p::P,w::vs,i+1,m,nd,h1,h2,hk=>by
  show bindC kindOf ((p,w)::P.zip vs) m x=_
  unfold bindC
  exact Fg (i:=i) (L7.mp nd).2 (by simpa using h1) (by simpa using h2) hk
def start(N:List Str)(vs:List V):St:=vs.map some++D9 (N.length-vs.length) none
def Ip(CX:Vr)(P:Program)(w:World)(K:aC)(mg:Str→Option Value)(base:Heap)(N:List Str)(qual:Str)(scope:Scope)(f:Addr)(cd:Value)(A:Around)(outer:List Env)(s:Shared)(H:Hp)(E:XK):Cx where
 prog:=P
 w:=w
 K:=K
 mg:=mg
 base:=base
 A:=A.deeper (envOfC qual scope s.heap.objs.size f cd)
 N:=N
 s₀:=s
 H₀:=H
 env:=envOfC qual scope s.heap.objs.size f cd
 outer:=outer
 stack:=envOfC qual scope s.heap.objs.size f cd::outer
 ex:=[]
 calm:=true
 fn:=λ_=>true
 pn:=[]
 xe:=λe s'=>wpAny (model P w) (A.deeper (envOfC qual scope s.heap.objs.size f cd)) (leaving (envOfC qual scope s.heap.objs.size f cd) e) (λ_ s''=>CX outer H s E e s'') (λe' s''=>CX outer H s E e' s'') s'
theorem Lw{sc:Scope}{n:Nat}{x:Str}(h:sc.names.lookup x=some .cell):∃c,(cellsFrom n sc.names []).lookup x=some c:=by
 have q:=Q2 sc.names n [] (.inl h)
 exact Option.isSome_iff_exists.mp q
theorem Vs{CX:Vr}{P:Program}{w:World}{K:aC}{mg:Str→Option Value}{base:Heap}{N ps:List Str}{qual:Str}{scope:Scope}{f:Addr}{cd:Value}{A:Around}{outer:List Env}{s s1:Shared}{H:Hp}{E:XK}{us:List Value}{vs:List V}
  (S:bN N ps scope) (hd:A.handled=none) (e0:JW P w K mg base A outer s H) (hl:vs.length=ps.length) (r:Vals vs us)
  (x:InCallC s s.heap.objs.size (bindL (envOfC qual scope s.heap.objs.size f cd).kindOf (ps.zip us) λ_=>none) (cellsFrom (s.heap.objs.size+1) scope.names []) (bindC (envOfC qual scope s.heap.objs.size f cd).kindOf (ps.zip us) λ_=>none) s1) :
  Inv (Ip CX P w K mg base N qual scope f cd A outer s H E) [] (start N vs) H s1:=by
 have hpl:ps.length≤N.length:=by have:=congrArg List.length S.pre;rw[K7]at this;omega
 obtain⟨h1,tk,rfl,hk⟩:=x.done
 have qi:∀b:Addr,b∉(Ip CX P w K mg base N qual scope f cd A outer s H E).ex:=λb z=>absurd (show b∈([]:List Addr)from z) (by simp)
 refine⟨⟨e0.mod,S.kind,rfl,rfl,B7 _,λy z c h1 h2=>?_,λy hy=>?_,λy c _ h=>?_,λ_=>hd,Around.frames_deeper e0.frames,.inr ⟨rfl,rfl⟩,λb z=>absurd z (qi b),e0.bs,e0.RZ,λb _ _=>qi b,λb z=>absurd z (qi b),e0.Ak,e0.jr⟩,
  rfl,e0.bare,Un.kept hk,⟨_,x.toInCall.ns,λi y v h1 h2 h3=>?_⟩,λy c h=>⟨_,x.cell y c h⟩,e0.hok.fresh (B7 _),λy c h=>?_,λp hp=>absurd (show p∈([]:List (Addr×Obj))from hp) (by simp),e0.hok.kept hk,?_⟩
 ·exact name_of_addr x.apart (G9 h1) (G9 h2)
 ·have hy:scope.names.lookup y=some .cell∨scope.names.lookup y=some .free:=hy
  rcases hy with hy | hy
  ·exact Lw hy
  ·exact absurd rfl (S.ZK _ (G9 hy))
 ·exact P4 (x.above y c (G9 h))
 ·have hi:i<vs.length:=by
   unfold start at h2
   by_cases hi:i<vs.length
   ·exact hi
   ·rw[E6 (by simpa using hi)]at h2
    rw[P8]at h2
    split at h2<;>cases h2
  have ha:vs[i]?=some v:=by
   unfold start at h2
   rw[E8 (by simpa using hi),B8]at h2
   cases e:vs[i]? with
   | none=>rw[e]at h2;cases h2
   | some a=>rw[e]at h2;cases h2;rfl
  obtain⟨u,hu,rv⟩:=r.get ha
  have hp:ps[i]?=some y:=by
   rw[←S.pre,List.getElem?_take_of_lt (by omega)];exact h1
  have ndP:ps.Nodup:=by rw[←S.pre];exact S.nd.sublist (List.take_sublist _ _)
  refine⟨u,rv,?_⟩
  rcases S.par y (D2 hp)with k | k
  ·exact .inl ⟨k,Ff ndP hp hu k⟩
  ·obtain⟨c,e⟩:=Lw (n:=s.heap.objs.size+1) k
   refine .inr ⟨.inl k,c,e,?_⟩
   have q:=x.cell y c e
   rw[Fg ndP hp hu (by show scope.names.lookup y≠_;rw[k];decide)]at q
   exact q
 ·exact e0.hok.fresh (P4 (x.above y c (G9 h)))
 ·unfold start
  show _=N.length
  rw[B5,A5,Q9]
  omega
theorem ql{CX:Vr}{P:Program}{w:World}{K:aC}{mg:Str→Option Value}{base:Heap}{k:Nat}{f:Addr}{name qual:Str}{params:Arguments}{body:List Stmt}{scope:Scope}{dV kV doc pm cdv ct oc:Value}{an od:Option Addr}
  {osl:Array (Option Value)} {N ps:List Str} {sp:Sp} (lk:K.lookup f=some ⟨oc,od,.func (F6 name qual params body scope dV kV doc pm an cdv ct),osl⟩) (hcd:L0 K cdv qual=true) (S:bN N ps scope)
  (len:∀vs H Q E,sp vs H Q E→vs.length=ps.length)
  (hbody:∀(A:Around)(outer:List Env)(s:Shared)(H:Hp)(vs:List V)(Q:VK)(E:XK),mY k (A.deeper (envOfC qual scope s.heap.objs.size f cdv))→sp vs H Q E →
   ∃t,Lk (Ip CX P w K mg base N qual scope f cdv A outer s H E) body t∧t {nx:=λ_ H'=>Q .non H',rt:=Q} (start N vs) H) :
  wL P w K mg base CX (k+1) f (F6 name qual params body scope dV kV doc pm an cdv ct) ps sp:=by
 refine⟨len,λA outer s H args us vs Q E hr e0 hb r hsp=>?_⟩
 have hl:=len _ _ _ _ hsp
 have KX:K.In s.heap:=e0.mod.zj.keeps λb o e=>(e0.bs b o e).1
 have lim:s.heap.NoLimit:=e0.mod.nolimit.keeps λb o e=>(e0.bs b o e).1
 have hkind:∀y∈ps.zip us,scope.names.lookup y.1=some .local∨(scope.names.lookup y.1=some .cell∧((cellsFrom (s.heap.objs.size+1) scope.names []).lookup y.1).isSome=true):=λ⟨n,v⟩ hy=>by
  rcases S.par n (N5 hy).1 with q | q
  ·exact .inl q
  ·exact .inr ⟨q,Q2 _ _ _ (.inl q)⟩
 refine codeAny_call_function hr.depth (KX _ _ lk) rfl S.co S.gen rfl (PySem.W.codeRec_of KX hcd) (hb _ _ _ _ ?_)
 refine wpAny_newFunctionEnv_cells S.kind hkind λenv he s1 x=>?_
 subst he
 refine⟨lim.keeps x.toInCall.keep,codeAny_func ?_⟩
 obtain⟨t,ht,hq⟩:=hbody A outer s H vs Q E (hr.deeper _) hsp
 have I:Inv (Ip CX P w K mg base N qual scope f cdv A outer s H E) [] (start N vs) H s1:=Vs S hr.hd e0 hl r x
 refine wpAny_mono (ht [] s1 (start N vs) H _ I hq) (λfl s' hs=>?_) λe s' hs=>hs
 have fin:∀{σ':St} {H':Hp} {v:V} {u:Value},Inv (Ip CX P w K mg base N qual scope f cdv A outer s H E) [] σ' H' s'→RelV v u→Q v H'→CE outer P w H s Q u s':=
  λ{σ' H' v u} J rv q=>⟨v,H',J.os,J.bare,J.base,J.hok,rv,q⟩
 cases fl with
 | ret u=>
  obtain⟨v,σ',H',J,rv,q⟩:=hs
  exact fin J rv q
 | next=>
  obtain⟨σ',H',J,q⟩:=hs
  exact fin (v:=V.non) (u:=Value.none) J rfl q
 | brk=>
  obtain⟨_,_,_,q⟩:=hs
  exact False.elim q
 | cont=>
  obtain⟨_,_,_,q⟩:=hs
  exact False.elim q
end L2
namespace L2
open PySem PySem.Spec PyProof.Rows
section
variable{X:Cx}{x:Str}{p pos:Pos}{e:Expr}{es:List Expr}{t:TA}{id T:String}{r:List V→Hp→VK→Prop}
def TQ(r:List V→Hp→VK→Prop)(t:TA):TE:=λσ H Q=>t σ H λvs H1=>r vs H1 Q
theorem Lx(hc:lH X (.builtin id) r)(hg:Gl X x)(hm:X.mg x=none)(hv:bootBuiltins x=some (.builtin id))(ha:PA X (e::es) t)(hn:x ≠ "__name__" := by decide) (hdb:(x==("__debug__" : Str))=false:=by decide)
  (he:starEach (e::es) X.env=(false,eval e X.env)::starEach es X.env:=by rfl) (hpl:(backTo pos (starEach es X.env)).any (·.1)=false:=by rfl):PE X (.Call (.Name x p) (e::es) [] pos) (TQ r t):=by
 intro pins s σ H Q I h
 refine wpAny_Call_Name_kw (wJ I hg hm hv ?_ hn hdb)
 exact PyProof.Rows.callWith_builtin1 (gG (ha pos pins s σ H _ I h) λus s1 ⟨vs,H1,I1,r1,q1⟩=>hc pins s1 σ H1 vs us Q I1 r1 q1) he hpl
theorem wM(hc:lH X (.type T) r)(hg:Gl X x)(hm:X.mg x=none)(hv:bootBuiltins x=some (.type T))(ha:PA X (e::es) t)(hn:x ≠ "__name__" := by decide) (hdb:(x==("__debug__" : Str))=false:=by decide)
  (he:starEach (e::es) X.env=(false,eval e X.env)::starEach es X.env:=by rfl) (hpl:(backTo pos (starEach es X.env)).any (·.1)=false:=by rfl):PE X (.Call (.Name x p) (e::es) [] pos) (TQ r t):=by
 intro pins s σ H Q I h
 refine wpAny_Call_Name_kw (wJ I hg hm hv ?_ hn hdb)
 exact K3 (gG (ha pos pins s σ H _ I h) λus s1 ⟨vs,H1,I1,r1,q1⟩=>hc pins s1 σ H1 vs us Q I1 r1 q1) he hpl
end
end L2
namespace HT
open PySem PyProof.Rows
section
open PySem.SeqAt
open PySem.AutoSeq1 (wpAny_loadPart')
open PySem.MeetsSeq PySem.MeetsSeq2 PySem.MeetsSeq3
end
section
variable{prog:Program}{w:World}{A:Around}{E:Value→Shared→Prop}{s:Shared}
def wG(n d:Nat):Option Int→Nat
 | none=>d
 | some v=>if v<0 then(v+(n:Int)).toNat else min v.toNat n
theorem JZ(n d k:Nat):wG n d (some (k:Int))=min k n:=by
 show (if(k:Int)<0 then((k:Int)+(n:Int)).toNat else min (k:Int).toNat n)=min k n
 rw[if_neg (by omega),C7]
end
end HT
namespace L2
open PySem PySem.Spec PyProof.Rows
abbrev TO:=St→Hp→(Option Int→Hp→Prop)→Prop
def PO(X:Cx)(e:Option Expr)(t:TO):Prop:=
 ∀(pins:List (Addr×Obj))(s:Shared)(σ:St)(H:Hp)(Q:Option Int→Hp→Prop),Inv X pins σ H s→t σ H Q →
  wpAny (model X.prog X.w) X.A (evalPart e X.env) (λu s'=>∃o H',Inv X pins σ H' s'∧IsPart u o∧Q o H') X.xe s
def Tj:TO:=λ_ H Q=>Q none H
def TV(t:TE):TO:=λσ H Q=>t σ H λx H1=>∃i,x=.int i∧Q (some i) H1
section
variable{X:Cx}{e:Expr}{te:TE}{lo hi:Option Expr}{tl th:TO}{pos p2:Pos}
theorem KC:PO X none Tj:=by
 intro pins s σ H Q I h
 rw[evalPart_none]
 exact wpAny_pure ⟨none,H,I,.none,h⟩
theorem KD(h:PE X e te):PO X (some e) (TV te):=by
 intro pins s σ H Q I hw
 rw[evalPart_some]
 refine gG (h pins s σ H _ I hw) λu s1 ⟨x,H1,I1,r1,q1⟩=>?_
 obtain⟨i,rfl,q⟩:=q1
 obtain⟨t,rfl⟩:=r1
 exact⟨some i,H1,I1,.int i t,q⟩
def SlR(X:Cx)(r:V→Option Int→Option Int→Hp→VK→Prop):Prop:=
 ∀(pins:List (Addr×Obj))(s:Shared)(σ:St)(H:Hp)(x:V)(v vl vu:Value)(lo hi:Option Int)(sl:Addr)(Q:VK),Inv X pins σ H s→RelV x v→s.heap.IsSliceOf sl vl vu .none→IsPart vl lo→IsPart vu hi→r x lo hi H Q →
  ∃T id,typeLookup (.type T) "__getitem__" = pure (some (.builtin id))∧s.TypeIs v T∧wpAny (model X.prog X.w) X.A (getItem v (.ref sl)) (EP X pins σ Q) X.xe s
def tSl(r:V→Option Int→Option Int→Hp→VK→Prop)(te:TE)(tl th:TO):TE:=λσ H Q=>te σ H λx H1=>tl σ H1 λl H2=>th σ H2 λu H3=>r x l u H3 Q
theorem Yt{r:V→Option Int→Option Int→Hp→VK→Prop}(hr:SlR X r)(he:PE X e te)(hl:PO X lo tl)(hu:PO X hi th):PE X (.Subscript e (.Slice lo hi none p2) pos) (tSl r te tl th):=by
 intro pins s σ H Q I h
 refine Subscript_ (gG (he pins s σ H _ I h) λv s1 ⟨x,H1,I1,r1,q1⟩=>?_)
 refine wpAny_Slice (gG (hl pins s1 σ H1 _ I1 q1) λvl s2 ⟨l,H2,I2,pl,q2⟩=>gG (hu pins s2 σ H2 _ I2 q2) λvu s3 ⟨u,H3,I3,pu,q3⟩=>?_)
 rw[evalPart_none]
 refine wpAny_pure ?_
 have I4:Inv X pins σ H3 {s3 with heap:=s3.heap.push {cls:=.type "slice", data:=.fields #[vl,vu,.none]}}:=I3.kept (t':=s3.toks) λb ob q=>Heap.get?_push_of_some _ q
 obtain⟨T,id,hT,ht,hg⟩:=hr pins {s3 with heap:=s3.heap.push {cls:=.type "slice", data:=.fields #[vl,vu,.none]}} σ H3 x v vl vu l u s3.heap.objs.size Q I4 r1 (Heap.IsSliceOf.new ..) pl pu q3
 show wpAny (model X.prog X.w) X.A (subscriptTail e (.Slice lo hi none p2) v (.ref s3.heap.objs.size)) (EP X pins σ Q) X.xe {s3 with heap:=s3.heap.push {cls:=.type "slice", data:=.fields #[vl,vu,.none]}}
 exact tail_any (ops:=[.ref s3.heap.objs.size,v]) ht hT hg (by with_unfolding_all rfl)
def Qc(xs:List V)(lo hi:Option Int):List V:=(xs.drop (HT.wG xs.length 0 lo)).take (HT.wG xs.length xs.length hi-HT.wG xs.length 0 lo)
theorem Ly(xs:List V)(lo hi:Option Int):(Qc xs lo hi).length≤xs.length:=by
 unfold Qc
 rw[K7,J0]
 omega
end
end L2
namespace L2
open PySem PySem.Spec PyProof.Rows
def Ek(n:Nat)(i:Int):Option Nat:=if 0≤i then(if i<n then some i.toNat else none)else if -(n:Int)≤i then some (i+n).toNat else none
def Av{α:Type}(xs:List α)(i:Int):Option α:=(Ek xs.length i).bind λj=>xs[j]?
theorem Tn{n:Nat}{i:Int}{j:Nat}(h:Ek n i=some j):seqIndex? i n=some j∧j<n∧-(n:Int)≤i∧i<n:=by
 unfold Ek at h
 by_cases h0:0≤i
 ·rw[if_pos h0]at h
  by_cases h1:i<n
  ·rw[if_pos h1]at h
   have e:i.toNat=j:=E1 h
   exact⟨by rw[seqIndex_of h0 h1,e],by omega,by omega,h1⟩
  ·rw[if_neg h1]at h;cases h
 ·rw[if_neg h0]at h
  by_cases h1:-(n:Int)≤i
  ·rw[if_pos h1]at h
   have e:(i+n).toNat=j:=E1 h
   exact⟨by rw[seqIndex_neg (by omega) h1,e],by omega,h1,by omega⟩
  ·rw[if_neg h1]at h;cases h
theorem Ir{α:Type}{xs:List α}{i:Int}{v:α}(h:Av xs i=some v):∃j,seqIndex? i xs.length=some j∧xs[j]?=some v∧j<xs.length∧-(xs.length:Int)≤i∧i<xs.length:=by
 unfold Av at h
 cases e:Ek xs.length i with
 | none=>rw[e]at h;cases h
 | some j=>
  rw[e]at h
  obtain⟨h1,h2,h3,h4⟩:=Tn e
  exact⟨j,h1,h,h2,h3,h4⟩
theorem KH{α:Type}{xs:List α}{j:Nat}{v:α}(h:xs[j]?=some v):Av xs (j:Int)=some v:=by
 have hj:j<xs.length:=(C9.mp h).1
 have e:Ek xs.length (j:Int)=some j:=by
  unfold Ek
  rw[if_pos (by omega),if_pos (by omega)];simp
 unfold Av;rw[e];exact h
def zP(b:Expr):Prop:=∀o i,subscripted b false o i=operate [o,i] (getItem o i)
def HY(X:Cx)(r:R2):Prop:=
 ∀(value slice:Expr)(pins:List (Addr×Obj))(s:Shared)(σ:St)(H:Hp)(x y:V)(v u:Value)(Q:VK),Inv X pins σ H s→RelV x v→RelV y u→r x y H Q →
  subscripted slice false v u=operate [v,u] (getItem v u)→wpAny (model X.prog X.w) X.A (subscriptTail value slice v u) (EP X pins σ Q) X.xe s
def MtR(X:Cx)(id:String)(r:V→List V→Hp→VK→Prop):Prop:=
 ∀(pins:List (Addr×Obj))(s:Shared)(σ:St)(H:Hp)(x:V)(xs:List V)(v:Value)(us:List Value)(Q:VK),Inv X pins σ H s→RelV x v→Vals xs us→r x xs H Q →
  wpAny (model X.prog X.w) X.A (call (.builtin id) (v::us)) (EP X pins σ Q) X.xe s
section
variable{X:Cx}{a b:Expr}{ta tb:TE}{pos:Pos}
theorem HY.or{r r':R2}(h:HY X r)(h':HY X r'):HY X (λx y H Q=>r x y H Q∨r' x y H Q):=by
 intro value slice pins s σ H x y v u Q I rx ry q hs
 rcases q with q | q
 ·exact h value slice pins s σ H x y v u Q I rx ry q hs
 ·exact h' value slice pins s σ H x y v u Q I rx ry q hs
theorem Tp{r:R2}(hr:HY X r)(ha:PE X a ta)(hb:PE X b tb)(hs:zP b):PE X (.Subscript a b pos) (Am r ta tb):=by
 intro pins s σ H Q I h
 exact Subscript_ (YM ha hb I h λv u s2 x y H2 I2 rx ry q=>hr a b pins s2 σ H2 x y v u Q I2 rx ry q (hs _ _))
def qm(K:aC):R2:=λx y H Q=>∃p xs i v,x=.ref p∧y=.int i∧jC K H p xs∧Av xs i=some v∧Q v H
def qp(K:aC):R2:=λx y H Q=>∃p xs i v,x=.ref p∧y=.int i∧pZ K H p xs∧Av xs i=some v∧Q v H
def qt:R2:=λx y H Q=>∃z i c,x=.str z∧y=.int i∧z.length≤sizeLine∧Av z.cps.toList i=some c∧Q (.str ⟨#[c]⟩) H
theorem KJ:HY X (qm X.K):=by
 intro value slice pins s σ H x y v u Q I rx ry h hs
 obtain⟨p,xs,i,z,rfl,rfl,hq,he,q⟩:=h
 cases rx
 obtain⟨t,rfl⟩:=ry
 obtain⟨its,r,pl,hz⟩:=I.list hq
 obtain⟨j,h1,h2,h3,h4,h5⟩:=Ir he
 obtain⟨w,ew,Xw⟩:=r.get h2
 have hl:=r.length
 have hn:=Ao
 have fin:EP X pins σ Q w s:=⟨z,H,I,Xw,q⟩
 by_cases h0:0≤i
 ·have hj:i.toNat=j:=by
   rw[seqIndex_of h0 h5]at h1
   exact E1 h1
  exact item_listR pl.isList h0 (by omega) (by rw[hj];simpa using ew) fin hs
 ·have hj:(i+(its.toArray.size:Int)).toNat=j:=by
   rw[seqIndex_neg (by omega) h4]at h1
   rw[A9,←hl]
   exact E1 h1
  exact subscriptTail_builtinR (x:=w) pl.isList.typeIs slot_list_getitem.lookup
   (wpAny_getItem_list_neg (Q:=λr s'=>r=w∧EP X pins σ Q r s') pl.isList (by omega) (by rw[A9]<;>omega) (by omega) (by rw[hj];simpa using ew) ⟨rfl,fin⟩) hs
theorem ZL:HY X (qp X.K):=by
 intro value slice pins s σ H x y v u Q I rx ry h hs
 obtain⟨p,xs,i,z,rfl,rfl,hq,he,q⟩:=h
 cases rx
 obtain⟨t,rfl⟩:=ry
 obtain⟨its,r,pl,hz⟩:=I.tuple hq
 obtain⟨j,h1,h2,h3,h4,h5⟩:=Ir he
 obtain⟨w,ew,Xw⟩:=r.get h2
 have hl:=r.length
 have hn:=Ao
 have fin:EP X pins σ Q w s:=⟨z,H,I,Xw,q⟩
 exact subscriptTail_builtinR (x:=w) pl.typeIs slot_tuple_getitem.lookup
  (getItem_tuple (j:=j) (Q:=λr s'=>r=w∧EP X pins σ Q r s') pl (by omega) (by omega) (by rw[A9,←hl];exact h1) (by simpa using ew) ⟨rfl,fin⟩) hs
theorem ZM:HY X qt:=by
 intro value slice pins s σ H x y v u Q I rx ry h hs
 obtain⟨z,i,c,rfl,rfl,hz,he,q⟩:=h
 obtain⟨t,rfl⟩:=rx
 obtain⟨t',rfl⟩:=ry
 obtain⟨j,h1,h2,h3,h4,h5⟩:=Ir he
 have hl:z.cps.toList.length=z.length:=by simp[Str.length]
 rw[hl]at h1 h4 h5
 have hn:=Ao
 exact tail_any (typeIs_str s z t) slot_str_getitem.lookup (getItem_str (c:=c) (by
  have e1:decide (i < -(2 ^ 63:Int))=false:=decide_eq_false (by omega)
  have e2:decide (i≥2 ^ 63)=false:=decide_eq_false (by omega)
  rw[e1,e2,Bool.or_false]) (by rw[h1];simpa using h2) ⟨.str ⟨#[c]⟩,H,I.tok _,⟨_,rfl⟩,q⟩) hs
def ZP(K:aC):R2:=λx y H Q=>qm K x y H Q∨qp K x y H Q∨qt x y H Q
theorem ZQ:HY X (ZP X.K):=KJ.or (ZL.or ZM)
theorem Qd(its:List Value)(n j:Nat)(u:Value):Obj.mapSeq (·.setIfInBounds j u) {cls:=.type "list", data:=.seq its.toArray n}={cls:=.type "list", data:=.seq (its.set j u).toArray n}:=by
 simp[Obj.mapSeq]
theorem Inv.lst{pins:List (Addr×Obj)}{σ:St}{H:Hp}{s:Shared}{p:Addr}{xs:List V}(I:Inv X pins σ H s)(h:H p=some (.lst xs)) :
  ∃(its:List Value)(n:Nat),Vals xs its∧s.heap.get? p=some {cls:=.type "list", data:=.seq its.toArray n}∧xs.length≤sizeLine:=by
 obtain⟨z,its,n,r,e⟩:=I.hok p _ h
 exact⟨its,n,r,e,z⟩
theorem Inv.ZR{pins:List (Addr×Obj)}{σ:St}{H:Hp}{s:Shared}{p:Addr}{xs ys:List V}{its its':List Value}{n n':Nat}{f:Obj→Obj}(I:Inv X pins σ H s)(h:H p=some (.lst xs))
  (ho:s.heap.get? p=some {cls:=.type "list", data:=.seq its.toArray n}) (hf:f {cls:=.type "list", data:=.seq its.toArray n}={cls:=.type "list", data:=.seq its'.toArray n'}) (r:Vals ys its') (hz:ys.length≤sizeLine) (t:Nat) :
  Inv X pins σ (upd H p (.lst ys)) {s with heap:=s.heap.update p f,toks:=t}:=by
 have e:(s.heap.update p f).get? p=some {cls:=.type "list", data:=.seq its'.toArray n'}:=by
  rw[Heap.get?_update_self f ho (by rw[hf]<;>rfl),hf]
 refine I.write (x:=p) (e:=p) (by rw[h];trivial) (.inl rfl) (λb u hb q=>(Heap.get?_update_other _ _ (Ne.symm hb)).trans q) ⟨_,e⟩ ?_
 exact⟨hz,its',n',r,e⟩
def vG:V→V→V→Hp→(Hp→Prop)→Prop:=λo i v H Q=>∃p xs k j,o=.ref p∧i=.int k∧H p=some (.lst xs)∧Ek xs.length k=some j∧Q (upd H p (.lst (xs.set j v)))
theorem set_list:nu X vG:=by
 intro pins s σ H o i v ov iv u Q I ro ri rv h
 obtain⟨p,xs,k,j,rfl,rfl,hp,hj,q⟩:=h
 cases ro
 obtain⟨t,rfl⟩:=ri
 obtain⟨its,n,r,ho,hz⟩:=I.lst hp
 obtain⟨h1,h2,h3,h4⟩:=Tn hj
 have hl:=r.length
 have hn:=Ao
 have I':Inv X pins σ (upd H p (.lst (xs.set j v))) {s with heap:=s.heap.update p (Obj.mapSeq (·.setIfInBounds j u))}:=
  I.ZR hp ho (Qd its n j u) (r.set rv j) (by rw[D7];exact hz) s.toks
 by_cases h0:0≤k
 ·have hk:k.toNat=j:=by
   rw[seqIndex_of h0 h4]at h1
   exact E1 h1
  exact PySem.W.ki_setAt ho h0 (by omega) (by rw[A9,←hl];exact h4) (by rw[hk];exact⟨_,I',q⟩)
 ·have hk:(k+(its.toArray.size:Int)).toNat=j:=by
   rw[seqIndex_neg (by omega) h3]at h1
   rw[A9,←hl]
   exact E1 h1
  exact PySem.W.ki_setBack ho (by omega) (by rw[A9,←hl];exact h3) (by omega) (by rw[hk];exact⟨_,I',q⟩)
theorem Iu(lo hi:Option Int)(n:Nat):(sliceBounds lo hi none n).1=((HT.wG n 0 lo:Nat):Int)∧(sliceBounds lo hi none n).2.1=((HT.wG n n hi:Nat):Int)∧(sliceBounds lo hi none n).2.2=1:=by
 refine⟨?_,?_,rfl⟩
 ·cases lo with
  | none=>simp[sliceBounds,HT.wG]
  | some i=>
   simp only[sliceBounds,HT.wG,T8,show (1:Int) > 0 by decide,if_true]
   by_cases h:i<0
   ·simp only[h,if_true]<;>omega
   ·simp only[h,if_false]<;>omega
 ·cases hi with
  | none=>simp[sliceBounds,HT.wG]
  | some i=>
   simp only[sliceBounds,HT.wG,T8,show (1:Int) > 0 by decide,if_true]
   by_cases h:i<0
   ·simp only[h,if_true]<;>omega
   ·simp only[h,if_false]<;>omega
theorem El(its:List Value)(lo hi:Option Int):slicePick its.toArray lo hi none=((its.drop (HT.wG its.length 0 lo)).take (HT.wG its.length its.length hi-HT.wG its.length 0 lo)).toArray:=by
 obtain⟨h1,h2,h3⟩:=Iu lo hi its.toArray.size
 unfold slicePick
 rw[h1,h2,h3]
 simp only[sliceRange_one,pick_run,A9]<;>rfl
def ZV(K:aC):V→Option Int→Option Int→Hp→VK→Prop:=λx lo hi H Q=>∃a xs,x=.ref a∧jC K H a xs∧∀p,H p=none→Q (.ref p) (upd H p (.lst (Qc xs lo hi)))
theorem KN:SlR X (ZV X.K):=by
 intro pins s σ H x v vl vu lo hi sl Q I rx hs pl pu h
 obtain⟨a,xs,rfl,hx,q⟩:=h
 cases rx
 obtain⟨its,r,ht,hz⟩:=I.list hx
 have hlen:=r.length
 refine⟨"list", _,slot_list_getitem.lookup,ht.isList.typeIs,?_⟩
 refine wpAny_getItem_list_slice ht.isList hs pl pu .none (by simp) ?_ (by rw[A9]<;>omega)
 rw[El,←hlen]
 refine⟨.ref s.heap.objs.size,_,I.laid (t':=s.toks) (o:=.lst (Qc xs lo hi)) (λb ob q=>Heap.get?_push_of_some _ q) (B7 _) ?_,rfl,q _ (I.hok.fresh (B7 _))⟩
 exact⟨F9 (Ly xs lo hi) hz,_,0,(r.drop (HT.wG xs.length 0 lo)).take (HT.wG xs.length xs.length hi-HT.wG xs.length 0 lo),Heap.get?_push_size _ rfl⟩
theorem Iv:lH X (.builtin "len") (λxs H Q=>∃p ys,xs=[.ref p]∧(jC X.K H p ys∨pZ X.K H p ys)∧Q (.int ys.length) H):=by
 intro pins s σ H xs us Q I r h
 obtain⟨p,ys,rfl,hq,q⟩:=h
 obtain⟨u,rfl,rx⟩:=vals1 r
 cases rx
 have hn:=Ao
 rcases hq with hq | hq
 ·obtain⟨its,r',pl,hz⟩:=I.list hq
  have hlen:=r'.length
  exact Calls.call_len_list pl.isList (by simp only[A9]<;>omega) ⟨.int ys.length,H,I.tok _,⟨s.toks+1,by rw[A9,hlen]⟩,q⟩
 ·obtain⟨its,r',pl,hz⟩:=I.tuple hq
  have hlen:=r'.length
  exact len_tuple pl (by simp only[A9]<;>omega) ⟨.int ys.length,H,I.tok _,⟨s.toks+1,by rw[A9,hlen]⟩,q⟩
theorem Iw:lH X (.type "list") (λxs H Q=>∃p ys,xs=[.ref p]∧(jC X.K H p ys∨pZ X.K H p ys)∧∀l,H l=none→Q (.ref l) (upd H l (.lst ys))):=by
 intro pins s σ H xs us Q I r h
 obtain⟨p,ys,rfl,hq,q⟩:=h
 obtain⟨u,rfl,rx⟩:=vals1 r
 cases rx
 have fin:∀(its:List Value),Vals ys its→ys.length≤sizeLine→∀(h':Heap)(c':Nat),(∀b o',s.heap.get? b=some o'→h'.get? b=some o') →
   h'.get? s.heap.objs.size=some {cls:=.type "list", dict:=none,data:=.seq its.toArray c',slots:=#[]}→EP X pins σ Q (.ref s.heap.objs.size) {s with heap:=h'}:=λits r' hz h' c' kp e=>
  ⟨.ref s.heap.objs.size,_,I.laid (t':=s.toks) kp (B7 _) (show fX X.prog X.w _ h' _ (.lst ys)from⟨hz,its,c',r',e⟩),rfl,q _ (I.hok.fresh (B7 _))⟩
 rcases hq with hq | hq
 ·obtain⟨its,r',pl,hz⟩:=I.list hq
  have hlen:=r'.length
  obtain⟨o,ho,hc,n,hd⟩:=pl.isList
  exact call_list_seq p (.inl rfl) ho hc hd (λh' c' kp e=>fin its r' hz h' c' kp e) (by simp only[A9]<;>omega)
 ·obtain⟨its,r',pl,hz⟩:=I.tuple hq
  have hlen:=r'.length
  obtain⟨o,ho,hc,n,hd⟩:=pl
  exact call_list_seq p (.inr rfl) ho hc hd (λh' c' kp e=>fin its r' hz h' c' kp e) (by simp only[A9]<;>omega)
theorem Em:lH X (.type "tuple") (λxs H Q=>∃p ys,xs=[.ref p]∧((jC X.K H p ys∧∀l,H l=none→Q (.ref l) (upd H l (.tup ys)))∨(pZ X.K H p ys∧Q (.ref p) H))):=by
 intro pins s σ H xs us Q I r h
 obtain⟨p,ys,rfl,h⟩:=h
 obtain⟨u,rfl,rx⟩:=vals1 r
 cases rx
 rcases h with ⟨hq,q⟩ | ⟨hq,q⟩
 ·obtain⟨its,r',pl,hz⟩:=I.list hq
  have hlen:=r'.length
  refine call_tuple_list pl.isList (λh' kp=>?_) (by simp only[A9]<;>omega)
  have I1:Inv X pins σ H {s with heap:=h'}:=I.kept (t':=s.toks) kp
  have I2:Inv X pins σ (upd H h'.objs.size (.tup ys)) {s with heap:=h'.push {cls:=.type "tuple", data:=.seq its.toArray}}:=
   I1.laid (t':=s.toks) (λb o e=>Heap.get?_push_of_some _ e) (B7 _) (show fX X.prog X.w _ _ _ (.tup ys)from⟨hz,its,r',IsTup.new _ _⟩)
  exact⟨.ref h'.objs.size,_,I2,rfl,q _ (I1.hok.fresh (B7 _))⟩
 ·obtain⟨its,r',pl,hz⟩:=I.tuple hq
  exact call_tuple_same pl ⟨.ref p,H,I,rfl,q⟩
def tyV(K:aC)(T:String)(x:V)(H:Hp):Prop:=match x with
 | .str _=>T = "str"
 | .int _=>T = "int"
 | .ref p=>(T = "list" ∧ ∃xs,jC K H p xs)∨(T = "tuple" ∧ ∃o,K.lookup p=some o∧o.cls=.type "tuple" ∧ o.dict=none) ∨
   (T = "dict" ∧ ((∃kvs,H p=some (.dK kvs))∨∃kvs,H p=some (.dT kvs)))∨(T = "set" ∧ ∃S n,H p=some (.set S n))
 | _=>False
theorem ZW{pins:List (Addr×Obj)}{σ:St}{H:Hp}{s:Shared}{T:String}{x:V}{v:Value}(I:Inv X pins σ H s)(r:RelV x v)(ty:tyV X.K T x H) :
  s.TypeIs v T∧∀a,v=.ref a→∃ob,s.heap.get? a=some ob∧ob.dict=none:=by
 cases x with
 | str z=>
  obtain⟨t,rfl⟩:=r
  cases(show T = "str" from ty)
  exact⟨typeIs_str s z t,λ_ e=>nomatch e⟩
 | int i=>
  obtain⟨t,rfl⟩:=r
  cases(show T = "int" from ty)
  exact⟨typeIs_int s i t,λ_ e=>nomatch e⟩
 | ref p=>
  cases r
  rcases ty with ⟨rfl,xs,hq⟩ | ⟨rfl,o,hk,hc,hd⟩ | ⟨rfl,hk⟩ | ⟨rfl,S,n,hk⟩
  ·obtain⟨its,_,pl,_⟩:=I.list hq
   refine⟨pl.isList.typeIs,λa e=>?_⟩
   cases e
   obtain⟨o,n,e,c,hd,_⟩:=pl
   exact⟨o,e,hd⟩
  ·refine⟨⟨o,I.Ew p o hk,hc⟩,λa e=>?_⟩
   cases e
   exact⟨o,I.Ew _ o hk,hd⟩
  ·have z:∃o,s.heap.get? p=some o∧o.ExactDict:=by
    rcases hk with ⟨kvs,hk⟩ | ⟨kvs,hk⟩
    ·obtain⟨_,_,_,_,o,_,_,e,ex,_⟩:=I.hok p _ hk
     exact⟨o,e,ex⟩
    ·obtain⟨_,_,_,_,o,_,_,e,ex,_⟩:=I.hok p _ hk
     exact⟨o,e,ex⟩
   obtain⟨o,e,ex⟩:=z
   refine⟨⟨o,e,ex.1⟩,λa e2=>?_⟩
   cases e2
   exact⟨o,e,ex.2.1⟩
  ·obtain⟨o,_,_,_,e,ex,_⟩:=I.hok p _ hk
   refine⟨⟨o,e,ex.1⟩,λa e2=>?_⟩
   cases e2
   exact⟨o,e,ex.2.1⟩
 | _=>exact False.elim ty
def Pj(K:aC)(T:String)(r:V→List V→Hp→VK→Prop)(to:TE)(t:TA):TE:=λσ H Q=>to σ H λx H1=>tyV K T x H1∧t σ H1 λxs H2=>r x xs H2 Q
variable{o e:Expr}{es:List Expr}{to:TE}{t:TA}{name:Str}{apos cpos:Pos}{T id:String}{r:V→List V→Hp→VK→Prop}
theorem vH(pa:PlainAttrs T)(slot:Slot T name id)(hty:typeOf (.builtin id)=pure (.type "method_descriptor")) (hm:MtR X id r) (ho:PE X o to) (ha:PA X (e::es) t)
  (hbase:attributeBase o name X.env (eval o X.env)=eval o X.env:=by rfl)
  (hfew:((backTo cpos (starEach (e::es) X.env)).all (λx=>!x.1)&&(backToKw cpos (keywordEach [] X.env)).all (λx=>x.1.isSome)
   && decide ((e::es).length+([]:List Keyword).length+(if([]:List Keyword).isEmpty then 0 else 1)<30))=true:=by rfl)
  (hline:(apos.endLine==cpos.line)=true:=by rfl) (hs:starEach (e::es) X.env=(false,eval e X.env)::starEach es X.env:=by rfl) (hplain:(backTo cpos (starEach es X.env)).any (·.1)=false:=by rfl) :
  PE X (.Call (.Attribute o name apos) (e::es) [] cpos) (Pj X.K T r to t):=by
 intro pins s σ H Q I h
 refine wpAny_Call_method_late hbase hfew hline rfl (gG (ho pins s σ H _ I h) λv s1 ⟨x,H1,I1,r1,ty,q1⟩=>?_)
 obtain⟨h1,h2⟩:=ZW I1 r1 ty
 refine⟨T,id,pa,slot,hty,h1,h2,?_⟩
 have hA:=ha cpos pins s1 σ H1 _ I1 q1
 rw[hs]at hA ⊢
 refine Calls.callWith_builtin (by show (false||(backTo cpos (starEach es X.env)).any (·.1))=false;rw[hplain]<;>rfl) (Calls.evalArgs_plain ?_)
 exact gG hA λus s2 ⟨vs,H2,I2,r2,q2⟩=>hm pins s2 σ H2 x vs v us Q I2 r1 r2 q2
end
end L2
namespace L2
open PySem PySem.Spec PyProof.Rows
def MtM(X:Cx)(id:String)(r:V→List V→Hp→VK→Prop):Prop:=
 ∀(pins:List (Addr×Obj))(s:Shared)(σ:St)(H:Hp)(x:V)(xs:List V)(v:Value)(us:List Value)(Q:VK),Inv X pins σ H s→RelV x v→Vals xs us→r x xs H Q →
  wpAny (model X.prog X.w) X.A (call (.builtin id) (v::us)) (EP X pins σ Q) X.xe s
theorem Vals.one:∀{x:V} {us:List Value},Vals [x] us→∃u,us=[u]∧RelV x u
 | _,_,.cons r .nil=>⟨_,rfl,r⟩
theorem Vals.two:∀{x y:V} {us:List Value},Vals [x,y] us→∃u v,us=[u,v]∧RelV x u∧RelV y v
 | _,_,_,.cons r (.cons q .nil)=>⟨_,_,rfl,r,q⟩
theorem Vals.eraseIdx:∀{xs:List V} {us:List Value} (i:Nat),Vals xs us→Vals (xs.eraseIdx i) (us.eraseIdx i)
 | _,_,_,.nil=>.nil
 | _,_,0,.cons _ t=>t
 | _,_,i+1,.cons r t=>.cons r (Vals.eraseIdx i t)
theorem Fi{α:Type}:∀(l:List α)(i:Nat),(l.eraseIdx i).length≤l.length
 | [],_=>B7 _
 | _::_,0=>Q3 _
 | _::r,i+1=>T9 (Fi r i)
section
variable{X:Cx}{pins:List (Addr×Obj)}{σ:St}{H:Hp}{s:Shared}{l b:Addr}{xs ys zs:List V}
theorem Inv.ZX{its its':List Value}{n:Nat}{f:Array Value→Array Value}{t':Nat}(I:Inv X pins σ H s)(hH:H l=some (.lst xs))
  (e:s.heap.get? l=some {cls:=.type "list", data:=.seq its.toArray n}) (hf:f its.toArray=its'.toArray) (hv:Vals ys its') (hz:ys.length≤sizeLine) :
  Inv X pins σ (upd H l (.lst ys)) {s with heap:=s.heap.update l (Obj.mapSeq f),toks:=t'}:=by
 have q:=PySem.IsL.update e f
 rw[hf]at q
 refine I.write (x:=l) (e:=l) (by rw[hH];exact trivial) (.inl rfl) (λb' u hb hu=>(Heap.get?_update_other s.heap (Obj.mapSeq f) (Ne.symm hb)).trans hu) ⟨_,q⟩ ?_
 exact⟨hz,its',_,hv,q⟩
theorem Inv.qu{its:List Value}{t':Nat}(I:Inv X pins σ H s)(hv:Vals ys its)(hz:ys.length≤sizeLine) :
  Inv X pins σ (upd H s.heap.objs.size (.lst ys)) {s with heap:=s.heap.push {cls:=.type "list", data:=.seq its.toArray},toks:=t'}:=
 I.laid (λ_ _ q=>Heap.get?_push_of_some _ q) (B7 _) ⟨hz,its,0,hv,Heap.get?_push_size _ rfl⟩
theorem Inv.fresh(I:Inv X pins σ H s):H s.heap.objs.size=none:=I.hok.fresh (B7 _)
theorem Inv.ZZ(I:Inv X pins σ H s)(hH:H l=some (.lst xs)):xs.length≤sizeLine∧∃(its:List Value)(n:Nat),Vals xs its∧xs.length=its.length∧s.heap.get? l=some {cls:=.type "list", data:=.seq its.toArray n}:=by
 obtain⟨z,its,n,r,e⟩:=I.hok l _ hH
 exact⟨z,its,n,r,r.length,e⟩
end
section
variable{X:Cx}
def qD:V→List V→Hp→VK→Prop:=λx vs H Q=>∃l xs y,x=.ref l∧vs=[y]∧H l=some (.lst xs)∧xs.length<sizeLine∧Q .non (upd H l (.lst (xs++[y])))
theorem mL:MtM X "list.append" qD:=by
 intro pins s σ H x vs v us Q I rx rv h
 obtain⟨l,xs,y,rfl,rfl,hH,hz,q⟩:=h
 cases rx
 obtain⟨u,rfl,ru⟩:=rv.one
 obtain⟨z,its,n,r,hl,e⟩:=I.ZZ hH
 refine call_meets F.slot_list_append ⟨_,e,rfl⟩ F.entry_list_append (F.args_list_append_2 _ _) (PySem.list_append l its.toArray n u (by rw[A9];omega)) ⟨e,?_⟩
 refine⟨.non,_,I.ZX (its':=its++[u]) hH e (by simp) (r.append (.cons ru .nil)) ?_,rfl,q⟩
 rw[B5,List.length_singleton]
 omega
def uC:V→List V→Hp→VK→Prop:=λx vs H Q=>∃l xs i k y,x=.ref l∧vs=[.int i]∧H l=some (.lst xs)∧-(2 ^ 63)≤i∧i<2 ^ 63∧seqIndex? i xs.length=some k∧xs[k]?=some y∧Q y (upd H l (.lst (xs.eraseIdx k)))
theorem Aw:MtM X "list.pop" uC:=by
 intro pins s σ H x vs v us Q I rx rv h
 obtain⟨l,xs,i,k,y,rfl,rfl,hH,h1,h2,hk,hy,q⟩:=h
 cases rx
 obtain⟨u,rfl,ru⟩:=rv.one
 obtain⟨t,rfl⟩:=ru
 obtain⟨z,its,n,r,hl,e⟩:=I.ZZ hH
 obtain⟨w,hw,Xw⟩:=r.get hy
 refine call_meets F.slot_list_pop ⟨_,e,rfl⟩ F.entry_list_pop (F.args_list_pop_2 _ _)
  (MeetsSeq.list_pop_at l its.toArray n i t k w (fitsIndex_both h1 h2) (by rw[A9,←hl];exact hk) (by rw[←R0];exact hw) (by rw[A9];omega)) ⟨e,?_⟩
 refine⟨y,_,I.ZX (its':=its.eraseIdx k) hH e ?_ (r.eraseIdx k) ?_,Xw,q⟩
 ·show its.toArray.eraseIdxIfInBounds k=(its.eraseIdx k).toArray
  rw[List.eraseIdxIfInBounds_toArray]
 ·have:=Fi xs k
  omega
end
section
variable{prog:Program}{w:World}{A:Around}{E:Value→Shared→Prop}{s:Shared}
end
section
variable{X:Cx}
end
end L2
namespace L2
open PySem PySem.Spec PyProof.Rows
section
variable{κ:Type} [DecidableEq κ]
def tK(kvs:List (κ×V))(k:κ):Option V:=(kvs.find? λkv=>decide (kv.1=k)).map (·.2)
def putK(kvs:List (κ×V))(k:κ)(v:V):List (κ×V):=
 if(kvs.any λkv=>decide (kv.1=k))=true then kvs.map (λkv=>if kv.1=k then(kv.1,v)else kv)else kvs++[(k,v)]
def aAZ(kvs:List (κ×V))(k:κ):List (κ×V):=kvs.filter λkv=>decide (kv.1≠k)
theorem Ax{p:κ×V}{r:List (κ×V)}{k:κ}(e:p.1=k):tK (p::r) k=some p.2:=by simp[tK,K4,e]
theorem Ay{p:κ×V}{r:List (κ×V)}{k:κ}(e:¬p.1=k):tK (p::r) k=tK r k:=by simp[tK,K4,e]
theorem Az(k:κ):∀kvs:List (κ×V),(kvs.any λkv=>decide (kv.1=k))=(tK kvs k).isSome
 | []=>rfl
 | p::r=>by
  rw[R8]
  by_cases e:p.1=k
  ·simp only[Ax e,decide_eq_true e,Bool.true_or,Option.isSome_some]
  ·rw[Ay e,decide_eq_false e,Bool.false_or];exact Az k r
theorem oF(kvs:List (κ×V))(k:κ)(v:V):(putK kvs k v).length≤kvs.length+1:=by
 unfold putK
 split
 ·rw[A5];omega
 ·rw[B5,G2,U6];omega
theorem Pq.wN{o:Option V}{u:Option Value}(r:Pq o u):o.isSome=u.isSome:=by
 cases o with
 | none=>cases u with
  | none=>rfl
  | some _=>exact(show False from r).elim
 | some _=>cases u with
  | none=>exact(show False from r).elim
  | some _=>rfl
theorem KV.val{kvs:List (κ×V)}{vs:List (κ×Value)}(r:KV kvs vs)(k:κ):Pq (tK kvs k) (valueAt vs k):=by
 unfold KV at r
 induction r with
 | nil=>exact True.intro
 | @cons p q ps qs h t ih=>
  obtain⟨h1,h2⟩:=h
  by_cases e:p.1=k
  ·have e':q.1=k:=h1.symm.trans e
   have b:valueAt (q::qs) k=some q.2:=by simp[valueAt,K4,e']
   rw[Ax e,b];exact h2
  ·have e':¬q.1=k:=λz=>e (h1.trans z)
   have b:valueAt (q::qs) k=valueAt qs k:=by simp[valueAt,K4,e']
   rw[Ay e,b];exact ih
theorem KV.any{kvs:List (κ×V)}{vs:List (κ×Value)}(r:KV kvs vs)(k:κ):(kvs.any λkv=>decide (kv.1=k))=vs.any λkv=>decide (kv.1=k):=by
 unfold KV at r
 induction r with
 | nil=>rfl
 | cons h t ih=>rw[R8,R8,ih,h.1]
theorem KV.repl{kvs:List (κ×V)}{vs:List (κ×Value)}(r:KV kvs vs)(k:κ){y:V}{u:Value}(ry:RelV y u) :
  KV (kvs.map λkv=>if kv.1=k then(kv.1,y)else kv) (vs.map λkv=>if kv.1=k then(kv.1,u)else kv):=by
 unfold KV at r ⊢
 induction r with
 | nil=>exact .nil
 | @cons p q ps qs h t ih=>
  rw[D4,D4]
  refine .cons ?_ ih
  obtain⟨h1,h2⟩:=h
  by_cases e:p.1=k
  ·rw[if_pos e,if_pos (h1.symm.trans e)];exact⟨h1,ry⟩
  ·rw[if_neg e,if_neg (λz=>e (h1.trans z))];exact⟨h1,h2⟩
theorem KV.put{kvs:List (κ×V)}{vs:List (κ×Value)}(r:KV kvs vs)(k:κ){y:V}{u:Value}(ry:RelV y u):KV (putK kvs k y) (stored vs k u):=by
 unfold putK stored
 rw[r.any k]
 by_cases e:(vs.any λkv=>decide (kv.1=k))=true
 ·rw[if_pos e,if_pos e];exact r.repl k ry
 ·rw[if_neg e,if_neg e];exact Paired.snoc r ⟨rfl,ry⟩
theorem KV.keys{kvs:List (κ×V)}{vs:List (κ×Value)}(r:KV kvs vs):kvs.map (·.1)=vs.map (·.1):=by
 unfold KV at r
 induction r with
 | nil=>rfl
 | cons h t ih=>rw[D4,D4,ih,h.1]
theorem KV.length{kvs:List (κ×V)}{vs:List (κ×Value)}(r:KV kvs vs):kvs.length=vs.length:=Paired.length r
end
theorem Tq{P:Program}{w:World}{k:Key}{u:Value}(r:RelV (kV k) u):(eU P w).is k u=true:=by
 cases k with
 | inl i=>obtain⟨t,e⟩:=(show ∃t,u=Value.int i t from r);subst e;exact Lf P w i t
 | inr x=>obtain⟨t,e⟩:=(show ∃t,u=Value.str x t from r);subst e;exact Lg P w x t
theorem Fj{P:Program}{w:World}:∀{ks:List Key} {us:List Value},Vals (ks.map kV) us→ItemsAre (eU P w) ks us
 | [],_,r=>by rw[G0]at r;cases r;exact .nil
 | k::ks,_,r=>by
  rw[D4]at r
  cases r with
  | cons h t=>exact .cons (Tq h) (Fj t)
abbrev KT(H:Hp):List (List Key×V)→List (List Key×Addr×Value)→Prop:=Paired λp q=>p.1=q.1∧H q.2.1=some (.tup (p.1.map kV))∧RelV p.2 q.2.2
theorem KT.val{H:Hp}{kvs:List (List Key×V)}{xs:List (List Key×Addr×Value)}(r:KT H kvs xs)(k:List Key):Pq (tK kvs k) ((atKey xs k).map (·.2)):=by
 induction r with
 | nil=>exact True.intro
 | @cons p q ps qs h t ih=>
  obtain⟨h1,_,h2⟩:=h
  by_cases e:p.1=k
  ·have e':q.1=k:=h1.symm.trans e
   have b:atKey (q::qs) k=some q.2:=by simp[atKey,K4,e']
   rw[Ax e,b];exact h2
  ·have e':¬q.1=k:=λz=>e (h1.trans z)
   have b:atKey (q::qs) k=atKey qs k:=by simp[atKey,K4,e']
   rw[Ay e,b];exact ih
theorem KT.repl{H:Hp}{kvs:List (List Key×V)}{xs:List (List Key×Addr×Value)}(r:KT H kvs xs)(k:List Key){y:V}{u:Value}(ry:RelV y u) :
  KT H (kvs.map λkv=>if kv.1=k then(kv.1,y)else kv) (xs.map (putAt k u)):=by
 induction r with
 | nil=>exact .nil
 | @cons p q ps qs h t ih=>
  rw[D4,D4]
  refine .cons ?_ ih
  obtain⟨h1,h2,h3⟩:=h
  unfold putAt
  by_cases e:p.1=k
  ·rw[if_pos e,if_pos (h1.symm.trans e)];exact⟨h1,h2,ry⟩
  ·rw[if_neg e,if_neg (λz=>e (h1.trans z))];exact⟨h1,h2,h3⟩
theorem KT.put{H:Hp}{kvs:List (List Key×V)}{xs:List (List Key×Addr×Value)}(r:KT H kvs xs)(k:List Key){b:Addr}{y:V}{u:Value}(hb:H b=some (.tup (k.map kV)))(ry:RelV y u) :
  KT H (putK kvs k y) (storedH xs k b u):=by
 have e:(kvs.any λkv=>decide (kv.1=k))=(atKey xs k).isSome:=by
  rw[Az,(r.val k).wN,T1]
 unfold putK storedH
 rw[e]
 by_cases q:(atKey xs k).isSome=true
 ·rw[if_pos q,if_pos q];exact r.repl k ry
 ·rw[if_neg q,if_neg q];exact Paired.snoc r ⟨rfl,hb,ry⟩
theorem KT.keeps{H H':Hp}{kvs:List (List Key×V)}{xs:List (List Key×Addr×Value)}(r:KT H kvs xs)(ht:∀b ys,H b=some (.tup ys)→H' b=some (.tup ys)):KT H' kvs xs:=
 Paired.WW r λ_ _ z=>⟨z.1,ht _ _ z.2.1,z.2.2⟩
section
variable{P:Program}{w:World}{H:Hp}{h:Heap}{a:Addr}
theorem TX{u:HO}(ok:tV P w H h)(e:Rd H a u):fX P w H h a u:=e.ok ok
theorem Tr{kvs:List (Key×V)}(ok:tV P w H h)(e:Rd H a (.dK kvs)):kvs.length≤sizeLine∧(a==sysModules)=false∧∃vs,KV kvs vs∧h.DictOf (eU P w) a vs:=
 show fX P w H h a (.dK kvs)from TX ok e
theorem TY{kvs:List (Key×V)}(ok:tV P w H h)(e:H a=some (.dK kvs)):kvs.length≤sizeLine∧(a==sysModules)=false∧∃vs,KV kvs vs∧h.DictOf (eU P w) a vs:=Tr ok (.inl e)
theorem Qe{ks:List Key}(ok:tV P w H h)(e:H a=some (.tup (ks.map kV))):(tupleKind (eU P w)).is h ks a:=by
 obtain⟨_,its,r,o,h1,h2,n,h3⟩:=(show fX P w H h a (.tup (ks.map kV))from ok a _ e)
 exact⟨o,its.toArray,n,h1,h2,h3,by simpa using Fj r⟩
theorem UG{kvs:List (List Key×V)}(ok:tV P w H h)(e:Rd H a (.dT kvs)):kvs.length≤sizeLine∧(a==sysModules)=false ∧
  ∃xs,KT H kvs xs∧h.DictOfH (tupleKind (eU P w)) a xs:=by
 obtain⟨z,y,xs,r,o,es,ep,h1,h2,h3,h4,h5⟩:=(show fX P w H h a (.dT kvs)from TX ok e)
 refine⟨z,y,xs,r,o,es,ep,h1,h2,h3,h4,λx hx=>?_,h5⟩
 have all:∀{l:List (List Key×V)} {m:List (List Key×Addr×Value)},KT H l m→∀x∈m,(tupleKind (eU P w)).is h x.1 x.2.1:=by
  intro l m q
  induction q with
  | nil=>intro x hx;exact nomatch hx
  | @cons p q ps qs hq t ih=>
   intro x hx
   rcases E9.mp hx with e | hx
   ·subst e
    exact Qe ok (by rw[←hq.1];exact hq.2.1)
   ·exact ih x hx
 exact all r x hx
theorem qw{kvs:List (List Key×V)}(ok:tV P w H h)(e:H a=some (.dT kvs)):kvs.length≤sizeLine∧(a==sysModules)=false ∧
  ∃xs,KT H kvs xs∧h.DictOfH (tupleKind (eU P w)) a xs:=UG ok (.inl e)
end
def aa(H:Hp)(a:Addr)(y:V)(r:Option V):Prop:=
 (∃kvs k,Rd H a (.dK kvs)∧y=kV k∧r=tK kvs k)∨∃kvs k b,Rd H a (.dT kvs)∧y=.ref b∧H b=some (.tup (k.map kV))∧r=tK kvs k
def qy(H:Hp)(a:Addr)(y v:V)(H':Hp):Prop:=
 (∃kvs k,H a=some (.dK kvs)∧y=kV k∧kvs.length<sizeLine∧H'=upd H a (.dK (putK kvs k v))) ∨
 ∃kvs k b,H a=some (.dT kvs)∧y=.ref b∧H b=some (.tup (k.map kV))∧kvs.length<sizeLine∧H'=upd H a (.dT (putK kvs k v))
section
variable{X:Cx}{pins:List (Addr×Obj)}{σ:St}{H:Hp}{s:Shared}{a:Addr}{y v:V}{u r:Value}{o:Option V}{A:Around}{E:Value→Shared→Prop}
theorem Inv.big(I:Inv X pins σ H s):sysModules<s.heap.objs.size:=by
 have h:mainGlobals<s.heap.objs.size:=(I.mod.glob.keeps I.bk).lt
 exact Nat.lt_trans (by decide) h
theorem KQ{Q:Value→Shared→Prop}(hu:A.units+1<cLine)(I:Inv X pins σ H s)(g:aa H a y o)(ry:RelV y u)(h:∀s',Inv X pins σ H s'→Q (.bool (!o.isSome)) s') :
  wpAny (model X.prog X.w) A (compareOp .NotIn u (.ref a)) Q E s:=by
 rcases g with ⟨kvs,k,e,ey,l⟩ | ⟨kvs,k,b,e,ey,eb,l⟩
 ·subst ey
  obtain⟨z,hd,vs,rel,dd⟩:=Tr I.hok e
  refine wpAny_notIn_of (Tq ry) hd dd.mapOf ?_
  rw[←(rel.val k).wN,←l]
  exact h _ (I.tok _)
 ·subst ey
  cases(show u=Value.ref b from ry)
  obtain⟨z,hd,xs,rel,dd⟩:=UG I.hok e
  refine wpAny_notIn_heap (tupleKind_room_in1 hu) (Qe I.hok eb) hd dd ?_
  have q:=(rel.val k).wN
  rw[T1]at q
  rw[←q,←l]
  exact h _ (I.tok _)
theorem Iz{h':Heap}{t':Nat}{ob:HO}(I:Inv X pins σ H s)(mu:lu (H a))(hs:Heap.SameBut a s.heap h')(he:∃q,h'.get? a=some q)(new:fX X.prog X.w (upd H a ob) h' a ob) :
  Inv X pins σ (upd H a ob) {s with heap:=h',toks:=t'}:=
 I.write (x:=a) (e:=a) mu (.inl rfl) (λb q hb z=>(hs.2 b hb).trans z) he new
theorem Yu{P:Program}{w:World}{H':Hp}{h':Heap}{kvs:List (Key×V)}{vs:List (Key×Value)}(z:kvs.length≤sizeLine)(hd:(a==sysModules)=false)(rel:KV kvs vs)(dd:h'.DictOf (eU P w) a vs) :
  fX P w H' h' a (.dK kvs):=⟨z,hd,vs,rel,dd⟩
theorem Vt{H':Hp}{Q:Unit→Shared→Prop}(hu:A.units+1<cLine)(I:Inv X pins σ H s)(g:qy H a y v H')(ry:RelV y u)(rv:RelV v r)(h:∀s',Inv X pins σ H' s'→Q () s') :
  wpAny (model X.prog X.w) A (setItem (.ref a) u r) Q E s:=by
 rcases g with ⟨kvs,k,e,ey,l,eH⟩ | ⟨kvs,k,b,e,ey,eb,l,eH⟩
 ·subst ey eH
  obtain⟨z,hd,vs,rel,dd⟩:=TY I.hok e
  have hz:vs.length≤sizeLine:=by rw[←rel.length];exact z
  have hl:(putK kvs k v).length≤sizeLine:=by have:=oF kvs k v;omega
  refine wpAny_setItem_pairs (hsz:=hz) (Tq ry) dd λh' aj hs=>h _ ?_
  have he:∃q,h'.get? a=some q:=let ⟨q,_,_,hq,_⟩:=aj;⟨q,hq⟩
  exact Iz I (by rw[e];exact True.intro) hs he (Yu hl hd (rel.put k rv) aj)
 ·subst ey eH
  cases(show u=Value.ref b from ry)
  obtain⟨z,hd,xs,rel,dd⟩:=qw I.hok e
  have hz:xs.length≤sizeLine:=by rw[←Paired.length rel];exact z
  have hl:(putK kvs k v).length≤sizeLine:=by have:=oF kvs k v;omega
  refine wpAny_setItem_heap (hsz:=hz) (tupleKind_room_in1 hu) (Qe I.hok eb) dd λh' aj hs=>h _ ?_
  obtain⟨q,es,ep,hq,h2,h3,h4,_,h5⟩:=aj
  refine Iz I (by rw[e];exact True.intro) hs ⟨q,hq⟩ ⟨hl,hd,_,(rel.put k eb rv).keeps λc ys ec=>?_,q,es,ep,hq,h2,h3,h4,h5⟩
  rw[bY (lr ec e (λz=>nomatch z))]
  exact ec
end
section
variable{X:Cx}{pins:List (Addr×Obj)}{σ:St}{H:Hp}{s:Shared}{a:Addr}{kvs:List (Key×V)}{k:Key}{u:Value}{A:Around}{E:Value→Shared→Prop}
end
def Ja(ty td:TE):TE:=λσ H Q=>ty σ H λy H1=>td σ H1 λx H2=>∃a o,x=.ref a∧aa H2 a y o∧Q (.bl (!o.isSome)) H2
def Tt(td ty tv:TE):TS:=λD σ H=>tv σ H λv H1=>td σ H1 λx H2=>ty σ H2 λy H3=>∃a H4,x=.ref a∧qy H3 a y v H4∧D.nx σ H4
section
variable{X:Cx}{o i e value:Expr}{pos pos' tpos:Pos}{td ty tv:TE}
theorem Fo(hu:X.A.units+1<cLine)(hi:PE X i ty)(ho:PE X o td):PC X .NotIn i o (Ja ty td):=by
 intro pins s σ H Q I h
 refine gG (hi pins s σ H _ I h) λiv s1 ⟨y,H1,I1,ry,q1⟩=>gG (ho pins s1 σ H1 _ I1 q1) λu s2 ⟨x,H2,I2,rx,a,ov,ex,g,q2⟩=>?_
 subst ex
 obtain rfl:u=Value.ref a:=rx
 exact KQ hu I2 g ry λs3 I3=>⟨.bl (!ov.isSome),H2,I3,rfl,q2⟩
theorem KR(hu:X.A.units+1<cLine)(ho:PE X o td)(hi:PE X i ty)(hv:PE X value tv)(hs:swapsWith value (some (.Subscript o i pos')) pos.line X.env=pure false) :
  PS X (.Assign [.Subscript o i pos'] value pos) (Tt td ty tv):=by
 intro pins s σ H D I h
 refine wpAny_Assign_Subscript (gG (hv pins s σ H _ I h) λr s1 ⟨v,H1,I1,rv,q1⟩=>gG (ho pins s1 σ H1 _ I1 q1) λu s2 ⟨x,H2,I2,rx,q2⟩=>gG (hi pins s2 σ H2 _ I2 q2) λiv s3 ⟨y,H3,I3,ry,a,H4,ex,g,q3⟩=>?_) hs
 subst ex
 obtain rfl:u=Value.ref a:=rx
 exact Vt hu I3 g ry rv λs4 I4=>⟨σ,H4,I4,q3⟩
end
theorem Lz{P:Program}{w:World}{H:Hp}(h:Heap)(hb:sysModules<h.objs.size):fX P w H (h.push {cls:=.type "dict", data:=.dict #[]}) h.objs.size (.dK []):=
 ⟨K9 _,beq_eq_false_iff_ne.mpr (Ne.symm (E7 hb)),[],.nil,Heap.DictOf.new h⟩
def Qf:TE:=λ_ H Q=>∀p,H p=none→Q (.ref p) (upd H p (.dK []))
section
variable{X:Cx}{pos:Pos}
theorem Yv:PE X (.Dict [] [] pos) Qf:=λpins s σ H Q I h=>
 wpAny_Dict_empty ⟨.ref s.heap.objs.size,_,I.laid (a:=s.heap.objs.size) (o:=.dK []) (t':=s.toks) (λ_ _ q=>Heap.get?_push_of_some _ q) (B7 _) (Lz s.heap I.big),rfl,h _ (I.hok.fresh (B7 _))⟩
end
def Jb:List (TE×TE)→St→Hp→(List (V×V)→Hp→Prop)→Prop
 | [],_,H,Q=>Q [] H
 | (tk,tv)::r,σ,H,Q=>tk σ H λx H1=>tv σ H1 λy H2=>Jb r σ H2 λps H3=>Q ((x,y)::ps) H3
abbrev VV:List (V×V)→List (Value×Value)→Prop:=Paired λp q=>RelV p.1 q.1∧RelV p.2 q.2
def qz(X:Cx)(pos:Pos)(keys:List (Option Expr))(values:List Expr)(KY:List (TE×TE)):Prop:=
 ∀(pins:List (Addr×Obj))(s:Shared)(σ:St)(H:Hp)(Q:List (V×V)→Hp→Prop),Inv X pins σ H s→Jb KY σ H Q →
  wpAny (model X.prog X.w) X.A (evalPairs (pairTrees keys values X.env pos)) (λvs s'=>∃ps H',Inv X pins σ H' s'∧VV ps vs∧Q ps H') X.xe s
theorem KZ{X:Cx}{pos:Pos}:qz X pos [] [] []:=λpins s σ H Q I h=>pairTrees_nil_walk ⟨[],H,I,.nil,h⟩
theorem Yw{X:Cx}{pos:Pos}{k v:Expr}{ks:List (Option Expr)}{vs:List Expr}{tk tv:TE}{KY:List (TE×TE)}(hk:PE X k tk)(hv:PE X v tv)(hr:qz X pos ks vs KY) :
  qz X pos (some k::ks) (v::vs) ((tk,tv)::KY):=λpins s σ H Q I h=>
 pairTrees_cons_walk (gG (hk pins s σ H _ I h) λu s1 ⟨x,H1,I1,rx,q1⟩=>gG (hv pins s1 σ H1 _ I1 q1) λw2 s2 ⟨y,H2,I2,ry,q2⟩=>
  gG (hr pins s2 σ H2 _ I2 q2) λws s3 ⟨ps,H3,I3,rel,q3⟩=>⟨(x,y)::ps,H3,I3,.cons ⟨rx,ry⟩ rel,q3⟩)
def wO(kvs more:List (Key×V)):List (Key×V):=more.foldl (λacc kv=>putK acc kv.1 kv.2) kvs
theorem KV.merge:∀{more:List (Key×V)} {rs:List (Key×Value)} {kvs:List (Key×V)} {vs:List (Key×Value)},KV more rs→KV kvs vs→KV (wO kvs more) (merged vs rs):=by
 intro more rs kvs vs r
 unfold KV at r
 induction r generalizing kvs vs with
 | nil=>intro q;exact q
 | @cons p q ps qs h t ih=>
  intro r0
  have e:KV (putK kvs p.1 p.2) (stored vs q.1 q.2):=by
   have:=r0.put p.1 h.2
   rw[←h.1];exact this
  exact ih e
theorem tW:∀(more kvs:List (Key×V)),(wO kvs more).length≤kvs.length+more.length
 | [],kvs=>by show kvs.length≤kvs.length+0;omega
 | p::r,kvs=>by
  have h1:=tW r (putK kvs p.1 p.2)
  have h2:=oF kvs p.1 p.2
  show (wO (putK kvs p.1 p.2) r).length≤_
  rw[G2];omega
theorem Ba{P:Program}{w:World}:∀{kvs:List (Key×V)} {ws:List (Value×Value)},VV (kvs.map λkv=>(kV kv.1,kv.2)) ws→∃rs,Carries (eU P w) ws rs∧KV kvs rs
 | [],_,r=>by rw[G0]at r;cases r;exact⟨[],True.intro,.nil⟩
 | p::kvs,_,r=>by
  rw[D4]at r
  cases r with
  | @cons a b as bs h t=>
   obtain⟨rs,c,q⟩:=Ba (P:=P) (w:=w) t
   obtain⟨b1,b2⟩:=b
   exact⟨(p.1,b2)::rs,⟨Tq h.1,rfl,c⟩,.cons ⟨rfl,h.2⟩ q⟩
def UJ(KY:List (TE×TE)):TE:=λσ H Q=>∀p,H p=none→Jb KY σ (upd H p (.dK [])) λps H2=>H2 p=some (.dK [])∧∃kvs:List (Key×V),ps=kvs.map (λkv=>(kV kv.1,kv.2))∧kvs.length≤15∧Q (.ref p) (upd H2 p (.dK (wO [] kvs)))
theorem LC{X:Cx}{pos:Pos}{keys:List (Option Expr)}{values:List Expr}{KY:List (TE×TE)}(h:qz X pos keys values KY)(hall:keys.all (·.isSome)=true)(hl:keys.length=values.length)(h0:keys≠[])
  (h15:keys.length≤15):PE X (.Dict keys values pos) (UJ KY):=by
 intro pins s σ H Q I q
 have hn:=I.hok.fresh (B7 s.heap.objs.size)
 have I1:=I.laid (a:=s.heap.objs.size) (o:=.dK []) (h':=s.heap.push {cls:=.type "dict", data:=.dict #[]}) (t':=s.toks) (λ_ _ q=>Heap.get?_push_of_some _ q) (B7 _) (Lz s.heap I.big)
 refine wpAny_Dict_walk (knd:=eU X.prog X.w) hall hl h0 h15 (gG (h pins _ σ _ _ I1 (q _ hn)) λws s2 ⟨ps,H2,I2,rel,e,kvs,ep,lk,q2⟩=>?_)
 subst ep
 obtain⟨rs,c,rk⟩:=Ba (P:=X.prog) (w:=X.w) rel
 obtain⟨z,hd,vs0,r0,dd⟩:=TY I2.hok e
 cases r0
 refine⟨rs,c,dd,λh' aj hs=>⟨.ref s.heap.objs.size,_,?_,rfl,q2⟩⟩
 have hz:(wO [] kvs).length≤sizeLine:=by
  have h1:=tW kvs []
  rw[U6]at h1
  rw[sizeLine_eq];omega
 have he:∃q,h'.get? s.heap.objs.size=some q:=let ⟨q,_,_,hq,_⟩:=aj;⟨q,hq⟩
 exact Iz I2 (by rw[e];exact True.intro) hs he (Yu hz hd (rk.merge .nil) aj)
structure M1(X:Cx)(o:Expr)(m:Str)(apos:Pos)(e:Expr)(cpos:Pos):Prop where
 base:attributeBase o m X.env (eval o X.env)=eval o X.env
 few:((backTo cpos (starEach [e] X.env)).all (λx=>!x.1)&&(backToKw cpos (keywordEach [] X.env)).all (λx=>x.1.isSome)
  && decide (([e]:List Expr).length+([]:List Keyword).length+(if([]:List Keyword).isEmpty then 0 else 1)<30))=true
 line:(apos.endLine==cpos.line)=true
 trees:backTo cpos (starEach [e] X.env)=[(false,eval e X.env)]
structure M2(X:Cx)(o:Expr)(m:Str)(apos:Pos)(e f:Expr)(cpos:Pos):Prop where
 base:attributeBase o m X.env (eval o X.env)=eval o X.env
 few:((backTo cpos (starEach [e,f] X.env)).all (λx=>!x.1)&&(backToKw cpos (keywordEach [] X.env)).all (λx=>x.1.isSome)
  && decide (([e,f]:List Expr).length+([]:List Keyword).length+(if([]:List Keyword).isEmpty then 0 else 1)<30))=true
 line:(apos.endLine==cpos.line)=true
 trees:backTo cpos (starEach [e,f] X.env)=[(false,eval e X.env),(false,eval f X.env)]
section
variable{X:Cx}{pins:List (Addr×Obj)}{σ:St}{H:Hp}{s:Shared}{a:Addr}{y d:V}{u r:Value}{o:Option V}{A:Around}{E:Value→Shared→Prop}
end
section
variable{X:Cx}{o e f:Expr}{apos cpos:Pos}{td ty tx:TE}
end
section
variable{X:Cx}{pins:List (Addr×Obj)}{σ:St}{H:Hp}{s:Shared}{a:Addr}{kvs:List (Key×V)}{A:Around}{E:Value→Shared→Prop}
end
section
variable{X:Cx}{pins:List (Addr×Obj)}{σ:St}{H:Hp}{s:Shared}{a:Addr}{y:V}{u:Value}{A:Around}{E:Value→Shared→Prop}
end
end L2
namespace Att
open PySem PySem.W PySem.Calls PyProof.Rows
theorem zO{P:Params}{h:Heap}:∀(ns:List Int)(vs:List Value),WellAll P h vs (ns.map WData.int)→IntsAre vs ns:=by
 intro ns
 induction ns with
 | nil=>
  intro vs w
  rw[G0]at w
  cases w
  exact .nil
 | cons n ns ih=>
  intro vs w
  rw[D4]at w
  cases w with
  | cons a b=>
   cases a
   exact .cons _ _ (ih _ b)
theorem Vu{l:OpenLaw}{n:Nat}(hn:l.most=some n){P:Params}{h:Heap}{args:List WData}{vals:List Value}
  (hpre:l.row.toRowW.claim.pre args=true) (hwl:WellAll P h vals args) :
  ∃a vs ns,vals=[Value.ref a]∧args=[WData.list (ns.map WData.int)]∧h.get? a=some {cls:=.type "list", data:=.seq vs.toArray}∧IntsAre vs ns∧ns.length≤n:=by
 have hsh:WShape.hasAll [] args [.list .int]=true:=(pre_splitW hpre).1
 have hc:l.pre.holds [] {args:=args}=true:=(pre_splitW hpre).2
 obtain⟨d,r,rfl,h1,h2⟩:=hasAllW_cons hsh
 obtain rfl:=hasAllW_nil h2
 obtain⟨xs,rfl,h3⟩:=hasW_list h1
 obtain⟨ns,rfl⟩:=items_int h3
 have hlen:ns.length≤n:=by
  unfold OpenLaw.pre at hc
  have h4:(WTm.not (.lt (.lit (.int (n:Int))) (.len (.arg 0)))).holds [] {args:=[.list (ns.map .int)]}=true:=by
   have h4:=(holds_andW hc).1
   rw[hn]at h4
   exact h4
  have h5:=condW_of h4 (w_not (w_lt w_lit (w_len_list (w_arg rfl))))
  rw[A5]at h5
  refine Nat.le_of_not_lt λq=>?_
  have q':(n:Int)<((ns.length:Nat):Int):=by omega
  first
   | (rw[decide_eq_true q']at h5;exact absurd h5 (by decide))
   | (simp at h5;omega)
 cases hwl with
 | cons w1 w2=>
  cases w2
  cases w1 with
  | list ho hall=>exact⟨_,_,ns,rfl,rfl,ho,zO ns _ hall,hlen⟩
theorem Vv(l:OpenLaw)(args:List WData):l.row.toRowW.claim.post args (.bool true) args=true:=
 postW_of (r:=l.row.toRowW) (X:=(true==true))
  (show WShape.has [] (.bool true) .bool=true by first | rfl | decide | simp[WShape.has,WShape.arms,WShape.armsAll])
  (show (WTm.eq .res (.lit (.bool true))).value [] {args:=args,res:=some (.bool true),after:=args}=some (.bool (true==true))from w_eq_bool (w_res rfl) w_lit) rfl
theorem Ma{l:OpenLaw}{n:Nat}{q:Program}{loose:List Str}{XP:(Str→Option Value)→Heap→Prop}{YP:World→Heap→Prop}{d:DefRec}
  (hn:l.most=some n) (hdf:d.params.defaults=[])
  (call:∀(w:World)(s₀ s₁:Shared)(mg mb:Str→Option Value)(fa:Addr)(o:Obj)(pm cd doc:Value)(a:Addr)(vs:List Value)(ns:List Int),
   Ground q loose [] XP w s₀ mg mb s₁.heap→YP w s₁.heap →
   s₁.heap.get? fa=some o→o.data=.func (docDef d.name d.params d.body d.scope pm cd doc)→s₁.heap.CodeRec cd d.name→mg d.name=some (.ref fa) →
   s₁.heap.get? a=some {cls:=.type "list", data:=.seq vs.toArray}→IntsAre vs ns→ns.length≤n→s₁.gens=#[] →
   codeAny (model l.prog w) callerA (.call (.ref fa) ⟨[.ref a],[]⟩) (λr s'=>r=.ok (.ret (.bool true))∧OldK s₁.heap s'.heap∧s'.os=s₁.os∧AllBare s'.gens) s₁) :
  WalkO q loose XP YP l.row.toRowW d [] (λf vs=>U7 f vs):=by
 intro w s₀ s₁ mg mb G Y fa o pm cd doc dV kV ho hd hcd hD hmg hg args vals as hpre hlay hrd hwl hlo
 obtain rfl:dV=.none:=Dflts.none hD hdf
 obtain rfl:kV=.none:=Dflts.noKw hD
 obtain⟨a,vs,ns,rfl,rfl,hobj,hints,hlen⟩:=Vu hn hpre hwl
 refine enter_call (codeAny_mono (call w s₀ s₁ mg mb fa o pm cd doc a vs ns G Y ho (fd_plain hd) hcd hmg hobj hints hlen hg) λr s' hq=>?_)
 obtain⟨rfl,h2,h3,h4⟩:=hq
 exact⟨.inl ⟨.bool true,.bool true,[],rfl,λ_=>rfl,.bool true,Vv l _,λ_=>⟨List.Pairwise.nil,λ_ hm=>(nomatch hm)⟩⟩,h2,h3,h4⟩
section
variable{prog:Program}{w:World}{A:Around}{E:Value→Shared→Prop}{s:Shared}{K:Frag}
end
end Att
namespace L2
open PySem PySem.Spec PyProof.Rows
theorem Fq:∀{vs:List Value} {ns:List Int},IntsAre vs ns→Vals (ns.map V.int) vs
 | _,_,.nil=>.nil
 | _,_,.cons n t h=>.cons ⟨t,rfl⟩ (Fq h)
def Only(H:Hp):Prop:=∀b,H b=none∨∃o xs,H b=some (.wI o (.lst xs))
theorem Yx{P:Program}{w:World}{K:aC}{mg mb:Str→Option Value}{CX:Vr}{k:Nat}{fa a:Addr}{fd:FuncData}{x:Str}{sp:Sp}{s₁:Shared}{vs:List Value}{ns:List Int}
  (KX:K.In s₁.heap) (hns:s₁.heap.Ns mainGlobals mg) (hb:s₁.heap.Ns builtinsNs mb) (hbb:∀x:Str,x ≠ "__name__" → mb x=bootBuiltins x) (hlim:s₁.heap.NoLimit) (hg:s₁.gens=#[])
  (ha:s₁.heap.get? a=some {cls:=.type "list", data:=.seq vs.toArray}) (hi:IntsAre vs ns) (hl:ns.length≤sizeLine) (hr:mY k callerA)
  (F:∀base:Heap,K.In base→base.Ns mainGlobals mg→wL P w K mg base CX k fa fd [x] sp) (hbind:∀(s:Shared)(u:Value),BindsTo s fd ⟨[u],[]⟩ [(x,u)])
  (hsp:∀H:Hp,Only H→jC K H a (ns.map V.int)→sp [.ref a] H (λv _=>v=.bl true) λ_ _ _=>False)
  (hCX:∀H e s',CX [] H s₁ (λ_ _ _=>False) e s'→False) :
  codeAny (model P w) callerA (.call (.ref fa) ⟨[.ref a],[]⟩) (λr s'=>r=.ok (.ret (.bool true))∧OldK s₁.heap s'.heap∧s'.os=s₁.os∧AllBare s'.gens) s₁:=by
 have rv:=Fq hi
 have lenV:=hi.length
 have core:∀H:Hp,Only H→jC K H a (ns.map V.int)→tV P w H s₁.heap→(∀b,H b≠none→b=a)→(H a≠none→K.lookup a=none) →
   codeAny (model P w) callerA (.call (.ref fa) ⟨[.ref a],[]⟩) (λr s'=>r=.ok (.ret (.bool true))∧OldK s₁.heap s'.heap∧s'.os=s₁.os∧AllBare s'.gens) s₁:=by
  intro H hO hS hok hA hK
  have Tu:∀{b:Addr} {o:Obj},s₁.heap.get? b=some o→H b=none→(Ih s₁.heap H).get? b=some o:=λe n=>Yc e n
  have qi:∀{b:Addr} {o:Obj} {es:Array DictEntry} {ep:Nat},s₁.heap.get? b=some o→o.data=.dict es ep→H b=none:=λ{b o es ep} e d=>by
   cases q:H b with
   | none=>rfl
   | some u=>
    have e':b=a:=hA b (by rw[q];simp)
    subst e'
    rw[ha]at e;cases e
    have d':Data.seq vs.toArray _=Data.dict es ep:=d
    cases d'
  have xx:∀{b:Addr} {m:Str→Option Value},s₁.heap.Ns b m→(Ih s₁.heap H).Ns b m:=λ{b m} ⟨o,es,ep,e,d,r⟩=>⟨o,es,ep,Tu e (qi e d),d,r⟩
  have hKb:K.In (Ih s₁.heap H):=λb o e=>Tu (KX b o e) (by
   cases q:H b with
   | none=>rfl
   | some u=>
    have e':b=a:=hA b (by rw[q];simp)
    subst e'
    rw[hK (by rw[q];simp)]at e;cases e)
  have hM:Mod K mg (Ih s₁.heap H):=⟨hKb,xx hns,⟨mb,xx hb,hbb⟩,let ⟨mc,h1,h2⟩:=hlim;⟨mc,xx h1,h2⟩⟩
  have e0:JW P w K mg (Ih s₁.heap H) callerA [] s₁ H:=⟨rfl,hM,λb o e=>JD e,Nat.le_of_eq (Vi _ _),trivial,λb hb=>absurd (show b∈([]:List Addr)from hb) (by simp),hok,.of_eq hg⟩
  refine codeAny_mono ((F _ hKb (xx hns)).run callerA [] s₁ H ⟨[.ref a],[]⟩ [.ref a] [.ref a] _ _ hr e0 (hbind s₁ (.ref a)) (.cons rfl .nil) (hsp H hO hS)) λr s' h=>?_
  cases r with
  | error e=>exact(hCX H e s' h).elim
  | ok fl=>
   cases fl with
   | next=>exact False.elim h
   | brk=>exact False.elim h
   | cont=>exact False.elim h
   | ret u=>
    obtain⟨v,H',os,bare,un,hok',r',q⟩:=h
    have q':v=.bl true:=q
    subst q'
    obtain rfl:u=Value.bool true:=r'
    refine⟨rfl,OldK.of_keep λb o e=>?_,os,bare⟩
    cases q:H b with
    | none=>exact un.keep b o e q (by intro z;exact absurd (show b∈([]:List Addr)from z) (by simp)) (by simp)
    | some u=>
     rcases hO b with z | ⟨ob,xs,z⟩
     ·rw[q]at z;cases z
     ·have z2:=un.Ig b ob _ z
      obtain⟨e1,_⟩:=hok b _ z
      obtain⟨e2,_⟩:=hok' b _ z2
      rw[e]at e1;cases e1
      exact e2
 cases hk:K.lookup a with
 | some o=>
  have e:=KX a o hk
  rw[ha]at e
  cases e
  refine core (λ_=>none) (λ_=>.inl rfl) (.inr ⟨_,vs.toArray,_,hk,rfl,rfl,rfl,by rw[A9,lenV];exact hl,by simpa using rv⟩) (λb u z=>by have z':(none:Option HO)=some u:=z;cases z') (λb z=>absurd rfl z) λz=>absurd rfl z
 | none=>
  refine core (λb=>if b=a then some (.wI {cls:=.type "list", data:=.seq vs.toArray} (.lst (ns.map V.int)))else none) (λb=>?_) (.inl (.inr ⟨{cls:=.type "list", data:=.seq vs.toArray},if_pos rfl⟩)) (λb u z=>?_) (λb z=>?_) λ_=>hk
  ·by_cases hb:b=a
   ·exact .inr ⟨_,_,if_pos hb⟩
   ·exact .inl (if_neg hb)
  ·by_cases hb:b=a
   ·have z':=(if_pos hb).symm.trans z
    cases z'
    subst hb
    exact⟨ha,by rw[A5];exact hl,vs,_,rv,ha⟩
   ·have z':=(if_neg hb).symm.trans z
    cases z'
  ·by_cases hb:b=a
   ·exact hb
   ·exact absurd (if_neg hb) z
end L2
namespace L2
open PySem PySem.Spec PyProof.Rows
theorem LK{l:U8}{n k:Nat}{q:Program}{loose:List Str}{XP:(Str→Option Value)→Heap→Prop}{YP:World→Heap→Prop}{d:DefRec}{K:Params→aC}{CX:World→Vr}{sp:World→Sp}{x:Str}
  (hn:l.most=some n) (hn2:n≤sizeLine) (hdf:d.params.defaults=[]) (hr:mY k callerA)
  (hY:∀(w:World)(h:Heap),YP w h→(K w.params).In h)
  (F:∀(w:World)(mg:Str→Option Value)(fa:Addr)(h:Heap),(K w.params).In h→h.Ns mainGlobals mg→mg d.name=some (.ref fa) →
   ∃fd:FuncData,(∀(s:Shared)(u:Value),BindsTo s fd ⟨[u],[]⟩ [(x,u)]) ∧
    ∀base:Heap,(K w.params).In base→base.Ns mainGlobals mg→wL l.prog w (K w.params) mg base (CX w) k fa fd [x] (sp w))
  (hsp:∀(w:World)(H:Hp)(a:Addr)(ns:List Int),ns.length≤n→Only H→jC (K w.params) H a (ns.map V.int)→sp w [.ref a] H (λv _=>v=.bl true) λ_ _ _=>False)
  (hCX:∀(w:World)(H:Hp)(s:Shared)(e:Value)(s':Shared),CX w [] H s (λ_ _ _=>False) e s'→False) :
  V5 q loose XP YP l.row.toRowW d [] (λf vs=>U7 f vs):=by
 refine Att.Ma hn hdf λw s₀ s₁ mg mb fa o pm cd doc a vs ns G Y ho hd hcd hmg hobj hints hlen hg=>?_
 have KX:=hY w _ Y
 obtain⟨fd,hb,hF⟩:=F w mg fa _ KX G.T.g hmg
 exact Yx KX G.T.g G.T.b G.T.builtins G.T.nolimit hg hobj hints (F9 hlen hn2) hr hF hb (λH hO hS=>hsp w H a ns hlen hO hS) λH e s'=>hCX w H s₁ e s'
end L2
namespace L2
open PySem PySem.Spec PyProof.Rows
def iU(s:Stmt):Arguments:=match s with
 | .FunctionDef _ a _ _ _ _ _ _ _ _=>a
 | _=>{posonlyargs:=[],args:=[],vararg:=none,kwonlyargs:=[],kw_defaults:=[],kwarg:=none,defaults:=[]}
def fM(s:Stmt):List Stmt:=match s with
 | .FunctionDef _ _ b _ _ _ _ _ _ _=>b
 | _=>[]
def aP(s:Stmt):Scope:=match s with
 | .FunctionDef _ _ _ _ _ _ sc _ _ _=>sc
 | _=>{kind:=.function,names:=[],isGenerator:=false,isCoroutine:=false}
abbrev Xx:Vr:=λ_ _ _ _ _ _=>False
abbrev E0:XK:=λ_ _ _=>False
theorem rm{X:Cx}:Passes Xx X E0:=λ_ _ _ _ _ _ _ h=>h.elim
structure IK(K:aC)(x qual:Str)(st:Stmt)(f:Addr)(fd:FuncData):Prop where
 ex:∃(oc:Value)(od:Option Addr)(kV doc pm:Value)(an:Option Addr)(cdv ct:Value)(osl:Array (Option Value)),
  fd=F6 x qual (iU st) (fM st) (aP st) .none kV doc pm an cdv ct∧K.lookup f=some ⟨oc,od,.func fd,osl⟩∧L0 K cdv qual=true
 kp:G7 K (.ref f)=true
section
variable{P:Program}{w:World}{K:aC}{mg:Str→Option Value}{base:Heap}
theorem IK.ok{x qual:Str}{st:Stmt}{f:Addr}{fd:FuncData}{N ps:List Str}{k:Nat}{sp:Sp}(F:IK K x qual st f fd)(S:bN N ps (aP st))(len:∀vs H Q E,sp vs H Q E→vs.length=ps.length)
  (hbody:∀(cdv:Value)(A:Around)(outer:List Env)(s:Shared)(H:Hp)(vs:List V)(Q:VK)(E:XK),mY k (A.deeper (envOfC qual (aP st) s.heap.objs.size f cdv))→sp vs H Q E →
   ∃t,Lk (Ip Xx P w K mg base N qual (aP st) f cdv A outer s H E).YH (fM st) t∧t {nx:=λ_ H'=>Q .non H',rt:=Q} (start N vs) H):wL P w K mg base Xx (k+1) f fd ps sp:=by
 obtain⟨oc,od,kV,doc,pm,an,cdv,ct,osl,rfl,lk,hcd⟩:=F.ex
 refine ql lk hcd S len λA outer s H vs Q E hr hsp=>?_
 obtain⟨t,h,q⟩:=hbody cdv A outer s H vs Q E hr hsp
 exact⟨t,h.YH,q⟩
theorem IK.binds{x qual:Str}{st:Stmt}{f:Addr}{fd:FuncData}{ps:List Str}(F:IK K x qual st f fd)
  (h:∀(kV doc pm:Value)(an:Option Addr)(cdv ct:Value)(us:List Value),us.length=ps.length→bindArgs (F6 x qual (iU st) (fM st) (aP st) .none kV doc pm an cdv ct) ⟨us,[]⟩=pure (ps.zip us)):Binds K fd ps []:=by
 obtain⟨oc,od,kV,doc,pm,an,cdv,ct,osl,rfl,lk,hcd⟩:=F.ex
 exact .all (h kV doc pm an cdv ct)
theorem ak{x qual:Str}{st:Stmt}{f:Addr}{oc:Value}{od an:Option Addr}{osl:Array (Option Value)}{kV doc pm cdv ct:Value}(l:K.lookup f=some ⟨oc,od,.func (F6 x qual (iU st) (fM st) (aP st) .none kV doc pm an cdv ct),osl⟩)
  (c:L0 K cdv qual=true) (k:G7 K (.ref f)=true):IK K x qual st f (F6 x qual (iU st) (fM st) (aP st) .none kV doc pm an cdv ct):=⟨⟨oc,od,kV,doc,pm,an,cdv,ct,osl,rfl,l,c⟩,k⟩
end
theorem eN{A:Around}{k:Nat}(hr:mY k A):A.units+1<cLine:=S5 (Nat.add_le_add_left (by decide:1≤64) _) hr.units
theorem Vw{n:Nat}(h:n≤1000):n<sizeLine:=S5 h (by decide)
section
variable{X:Cx}
theorem pv(i:Nat){x:Str}{pos:Pos}(hN:X.N[i]?=some x:=by rfl)(hv:xj X.env.scope x:=by first | exact B4 rfl | exact B3 (B4 rfl) | exact B3 (B3 rfl))(hd:(x==("__debug__" : Str))=false:=by decide)
  (hcd:(x==("__classdict__" : Str))=false:=by decide):PE X (.Name x pos) (iK i):=WX hN hv hd hcd
end
def aV(H H':Hp):Prop:=∀b o,H b=some o→H' b=some o
theorem aV.refl(H:Hp):aV H H:=λ_ _ h=>h
theorem aV.trans{H H1 H2:Hp}(a:aV H H1)(b:aV H1 H2):aV H H2:=λc o h=>b c o (a c o h)
theorem aV.free{H H':Hp}(e:aV H H'){l:Addr}(h:H' l=W0):H l=W0:=by
 cases q:H l with
 | none=>rfl
 | some o=>
  rw[e l o q]at h
  cases h
theorem aV.seq{K:aC}{H H':Hp}{a:Addr}{xs:List V}(e:aV H H')(h:jC K H a xs):jC K H' a xs:=by
 rcases h with (h | ⟨o,h⟩) | h
 ·exact .inl (.inl (e _ _ h))
 ·exact .inl (.inr ⟨o,e _ _ h⟩)
 ·exact .inr h
section
variable{κ:Type} [DecidableEq κ]
end
end L2


namespace L2
open PySem PySem.Spec PyProof.Rows
theorem uD(env:Env):∀(names:List (Str×NameKind))(acc:List (Str×Addr)),(∀x∈names,x.2=.free→∃c,env.cells.lookup x.1=some c) →
    ∃cl:List (Str×Addr),(forIn names acc (λ(x:Str×NameKind) (r:List (Str×Addr))=>(match x with
      | (name,kind)=>if(kind==.free)=true then do let c ←cellOf env name;pure (ForInStep.yield ((name,c)::r))else pure (ForInStep.yield r):Sem (ForInStep (List (Str×Addr))))))=pure cl ∧
      (∀x c,cl.lookup x=some c→(∃k,(x,k)∈names∧k=.free∧env.cells.lookup x=some c)∨acc.lookup x=some c) ∧
      (∀x,(x,NameKind.free)∈names→∃c,cl.lookup x=some c)∧(∀x c,acc.lookup x=some c→∃c',cl.lookup x=some c')
  | [],acc,_=>⟨acc,rfl,λx c h=>.inr h,λx h=>by simp at h,λx c h=>⟨c,h⟩⟩
  | (n,k)::r,acc,h=>by
    rw[List.forIn_cons]
    by_cases hk:k=.free
    · subst hk
      obtain⟨c,hc⟩:=h (n,.free) E5 rfl
      obtain⟨cl,e,h1,h2,h3⟩:=uD env r ((n,c)::acc) λx hx=>h x (D5 _ hx)
      refine⟨cl,?_,λx d hd=>?_,λx hx=>?_,λx d hd=>?_⟩
      · have e0:cellOf env n=pure c:=by unfold cellOf;rw[hc]
        simp only[beq_self_eq_true,if_true,e0,pure_bind]
        exact e
      · rcases h1 x d hd with ⟨k',m,q⟩ | q
        · exact .inl ⟨k',D5 _ m,q⟩
        · rw[M6]at q
          by_cases e:x==n
          · rw[e]at q
            have e':=eq_of_beq e
            subst e'
            cases q
            exact .inl ⟨.free,E5,rfl,hc⟩
          · have e':(x==n)=false:=by simpa using e
            rw[e']at q
            exact .inr q
      · rcases E9.mp hx with q | q
        · cases q
          exact h3 n c (by simp)
        · exact h2 x q
      · by_cases e:x==n
        · exact h3 x c (by rw[M6,e])
        · have e':(x==n)=false:=by simpa using e
          exact h3 x d (by rw[M6,e'];exact hd)
    · obtain⟨cl,e,h1,h2,h3⟩:=uD env r acc λx hx=>h x (D5 _ hx)
      have hb:(k==NameKind.free)=false:=by simpa using hk
      refine⟨cl,?_,λx d hd=>?_,λx hx=>?_,h3⟩
      · simp only[hb,Bool.false_eq_true,if_false,pure_bind]
        exact e
      · rcases h1 x d hd with ⟨k',m,q⟩ | q
        · exact .inl ⟨k',D5 _ m,q⟩
        · exact .inr q
      · rcases E9.mp hx with q | q
        · cases q
          exact absurd rfl hk
        · exact h2 x q
theorem tX(scope:Scope)(env:Env)(h:∀x∈scope.names,x.2=.free→∃c,env.cells.lookup x.1=some c) :
    ∃cl,closureFor scope env=pure cl∧(∀x c,cl.lookup x=some c→(x,NameKind.free)∈scope.names∧env.cells.lookup x=some c)∧∀x,(x,NameKind.free)∈scope.names→∃c,cl.lookup x=some c:=by
  obtain⟨cl,e,h1,h2,_⟩:=uD env scope.names [] h
  refine⟨cl,?_,λx c hx=>?_,h2⟩
  · unfold closureFor
    exact(congrArg (λt=>t >>= pure) e).trans (pure_bind _ _)
  · rcases h1 x c hx with ⟨k,m,rfl,q⟩ | q
    · exact⟨m,q⟩
    · simp at q
theorem Jc{scope:Scope}{env:Env}(hcell:∀y∈scope.names,y.2≠.cell){x:Str}(h:(relabel scope env).names.lookup x=some .cell∨(relabel scope env).names.lookup x=some .free):(x,NameKind.free)∈scope.names:=by
 have m:(x,NameKind.cell)∈(relabel scope env).names∨(x,NameKind.free)∈(relabel scope env).names:=by
  rcases h with h | h
  ·exact .inl (G9 h)
  ·exact .inr (G9 h)
 unfold relabel at m
 rcases m with m | m
 all_goals
  obtain⟨⟨n,k⟩,hm,e⟩:=D6.mp m
  dsimp only at e
  split at e
  ·rename_i hc
   simp only[K1,beq_iff_eq]at hc
   cases e
   first
    | (rw[hc.1.1]at hm;exact hm)
    | skip
  ·cases e
   first
    | exact hm
    | exact absurd rfl (hcell _ hm)
def eY(X:Cx)(scope:Scope)(N:List Str)(cl:List (Str×Addr))(fp:List Addr)(s:Shared)(H:Hp)(C:Addr):Cx where
 prog:=X.prog
 w:=X.w
 K:=X.K
 mg:=X.mg
 base:=X.base
 A:=X.A
 N:=N
 s₀:=s
 H₀:=H
 env:=compEnvC scope cl C X.env
 outer:=X.stack
 stack:=X.stack
 ex:=fp
 calm:=X.calm
 fn:=λ_=>false
 pn:=[]
 xe:=λ_ _=>False
def En(σ:St)(fr:List Nat):St:=fr.map λi=>σ.getD i none
def blk(k:Nat)(σ:St)(fr:List Nat):St:=D9 k none++En σ fr
def Kp(k:Nat)(σ:St)(fr:List Nat)(σ2:St):Prop:=σ2.length=(blk k σ fr).length∧∀(j:Nat) v,(blk k σ fr)[j]?=some (some v)→σ2[j]?=some (some v)
def ju(X:Cx)(ifs:List Expr)(t:TT):Prop:=
 ∀(pins:List (Addr×Obj))(s:Shared)(σ:St)(H:Hp)(Q:Bool→Hp→Prop),Inv X pins σ H s→t σ H Q →
  wpAny (model X.prog X.w) X.A (forIn ifs true λc r=>if r=true then do let ok ←isTrue c X.env (eval c X.env);pure (ForInStep.yield ok)else pure (ForInStep.yield r)) (TP X pins σ Q) X.xe s
def rn:TT:=λ_ H Q=>Q true H
theorem LQ{X:Cx}:ju X [] rn:=λ_ _ _ H _ I h=>wpAny_tests_nil ⟨H,I,h⟩
theorem tO{prog:Program}{w:World}{A:Around}{R:Result→Shared→Prop}{s:Shared}{elt target iter:Expr}{ifs:List Expr}{scope:Scope}{pos:Pos}{it acc:Value}{env:Env}(I:Nat→Shared→Prop)
  (turn:∀n s,I n s→wpAny (model prog w) A (pyNext it) (λr s₁=>match r with
   | none=>R (.ok .next) s₁
   | some v=>wpAny (model prog w) A (letOwnedTupleGo target it v) (λ_ s₀=>wpAny (model prog w) A (assign target env v) (λ_ s₂=>
     wpAny (model prog w) A (forIn ifs true λc r=>if r=true then do let ok ←isTrue c env (eval c env);pure (ForInStep.yield ok)else pure (ForInStep.yield r)) (λok s₃=>
      if ok=true then wpAny (model prog w) A (eval elt env) (λx s₄=>
       wpAny (model prog w) A (call (.builtin "list.append") [acc,x]) (λ_ s₅=>∃m,m<n∧I m s₅) (λ_ _=>False) s₄) (λ_ _=>False) s₃
      else ∃m,m<n∧I m s₃) (λ_ _=>False) s₂) (λ_ _=>False) s₀) (λ_ _=>False) s₁) (λ_ _=>False) s)
  (n:Nat) (h:I n s) :
  codeAny (model prog w) A (.compLoop (.ListComp elt [⟨target,iter,ifs,0⟩] scope pos) 0 it acc env) R s:=by
 refine codeAny_loop rfl I (λn s hI=>?_) n h
 show wpAny _ A ((compTurn (.ListComp elt [⟨target,iter,ifs,0⟩] scope pos) 0 it acc env).onRaise (λx=>do noteFrame x env;theTreesLotGoes x)) _ _ s
 refine wpAny_noted ?_
 rw[compTurn_list]
 refine wpAny_mono (E:=λ_ _=>False) ?_ (λ_ _ q=>q) λ_ _ x=>x.elim
 refine wpAny_bind (wpAny_standAt (wpAny_bind (wpAny_mono (turn n s hI) (λr s₁ h₁=>?_) λ_ _ h'=>h')))
 cases r with
 | none=>exact wpAny_pure h₁
 | some v=>
  refine wpAny_bind (wpAny_mono h₁ (λ_ s₀ h₀=>?_) λ_ _ h'=>h')
  refine wpAny_bind (wpAny_mono h₀ (λ_ s₂ h₂=>wpAny_bind (wpAny_mono h₂ (λok s₃ h₃=>?_) λ_ _ h'=>h')) λ_ _ h'=>h')
  cases ok with
  | false=>exact wpAny_pure ⟨rfl,h₃⟩
  | true=>
   exact wpAny_bind (wpAny_bind (wpAny_mono h₃ (λx s₄ h₄=>wpAny_bind (wpAny_mono h₄ (λ_ s₅ h₅=>wpAny_pure (wpAny_pure ⟨rfl,h₅⟩)) λ_ _ h'=>h')) λ_ _ h'=>h'))
def UL(J:It)(k:Nat)(fr:List Nat)(g:TG)(tc:TT)(te:TE)(σ:St)(H1:Hp)(Q:VK)(D:Addr):Prop:=∃W:Nat→Nat→List V→Hp→Prop,(∃m,W 0 m [] (upd H1 D (.lst []))) ∧
 ∀i m ys H,W i m ys H→H D=some (.lst ys)∧((J.stop i H∧Q (.ref D) H)∨(J.go i H∧∀x H',J.oh i H x H'→g x (blk k σ fr) H' λσ2 H2=>Kp k σ fr σ2∧tc σ2 H2 λok H3=>if ok=true then
  te σ2 H3 λy H4=>H4 D=some (.lst ys)∧ys.length<sizeLine∧∃m',m'<m∧W (i+1) m' (ys++[y]) (upd H4 D (.lst (ys++[y])))else ∃m',m'<m∧W (i+1) m' ys H3))
def Bb(wi:TI)(k:Nat)(fr:List Nat)(g:TG)(tc:TT)(te:TE):TE:=λσ H Q=>wi σ H λJ H1=>∀D,H1 D=none→UL J k fr g tc te σ H1 Q D
def iQ(scope wH:Scope):Scope:=
 {scope with names:=scope.names.map λ(n,k)=>if(k==.free&&wH.kind==.function&&wH.names.lookup n==some .cell)then(n,.cell)else(n,k)}
structure gZ(wH scope:Scope)(oN N:List Str)(k:Nat)(fr:List Nat):Prop where
 kind:scope.kind=.function
 cell:∀y∈scope.names,y.2≠.cell
 loc:∀y∈scope.names,y.2=.local→scope.names.lookup y.1=some .local
 free:∀y∈scope.names,y.2=.free→wH.names.lookup y.1=some .cell∨wH.names.lookup y.1=some .free
 len:N.length=k+fr.length
 slots:∀j∈C5 fr.length,oN[fr.getD j 0]?=N[k+j]?
 from_:∀x∈N.drop k,(x,NameKind.free)∈scope.names∧((iQ scope wH).names.lookup x=some .cell∨(iQ scope wH).names.lookup x=some .free)
def Yy(wH scope:Scope)(oN N:List Str)(k:Nat)(fr:List Nat):Bool:=
 decide (scope.kind=.function)&&decide (∀y∈scope.names,y.2≠.cell)&&decide (∀y∈scope.names,y.2=.local→scope.names.lookup y.1=some .local) &&
 decide (∀y∈scope.names,y.2=.free→wH.names.lookup y.1=some .cell∨wH.names.lookup y.1=some .free)&&decide (N.length=k+fr.length) &&
 decide (∀j∈C5 fr.length,oN[fr.getD j 0]?=N[k+j]?) &&
 decide (∀x∈N.drop k,(x,NameKind.free)∈scope.names∧((iQ scope wH).names.lookup x=some .cell∨(iQ scope wH).names.lookup x=some .free))
theorem gZ.of{wH scope:Scope}{oN N:List Str}{k:Nat}{fr:List Nat}(h:Yy wH scope oN N k fr=true):gZ wH scope oN N k fr:=by
 unfold Yy at h
 simp only[K1,decide_eq_true_eq]at h
 obtain⟨⟨⟨⟨⟨⟨h1,h2⟩,h3⟩,h4⟩,h5⟩,h6⟩,h7⟩:=h
 exact⟨h1,h2,h3,h4,h5,h6,h7⟩
section
variable{X:Cx}
theorem LR{k:Nat}{σ:St}{fr:List Nat}{i:Nat}{v:V}(h:(blk k σ fr)[i]?=some (some v)):∃j o,i=k+j∧fr[j]?=some o∧σ[o]?=some (some v):=by
 unfold blk at h
 by_cases hi:i<k
 ·rw[E8 (by simpa using hi),P8]at h
  rw[if_pos hi]at h
  cases h
 ·rw[E6 (by simpa using hi),Q9]at h
  unfold En at h
  rw[B8]at h
  cases e:fr[i-k]? with
  | none=>rw[e]at h;cases h
  | some o=>
   rw[e]at h
   refine⟨i-k,o,by omega,e,?_⟩
   have h:some (σ.getD o none)=some (some v):=h
   have h:=E1 h
   rw[A7]at h
   cases e2:σ[o]? with
   | none=>rw[e2]at h;cases h
   | some z=>rw[e2]at h;exact congrArg some h
theorem Qg{pins:List (Addr×Obj)}{σ:St}{H:Hp}{s:Shared}{scope:Scope}{N:List Str}{k:Nat}{fr:List Nat}{cl:List (Str×Addr)}{fp:List Addr}{h₁:Heap}{tk:Nat}{m:Str→Option Value}
    (I:Inv X pins σ H s) (B:gZ X.env.scope scope X.N N k fr) (hf:∀b∈fp,vC X pins H b) (hfo:∀b∈fp,b<s.heap.objs.size)
    (hcl:∀x c,cl.lookup x=some c→(x,NameKind.free)∈scope.names∧X.env.cells.lookup x=some c) (MF:∀x,(x,NameKind.free)∈scope.names→∃c,cl.lookup x=some c)
    (hn:h₁.Ns (s.heap.objs.size+1) m) (hs:Heap.SameBut (s.heap.objs.size+1) ((s.heap.push {cls:=.type "list", data:=.seq ([]:List Value).toArray}).push {cls:=.type "dict", data:=.dict #[]}) h₁) :
    Inv (eY X scope N cl fp s H (s.heap.objs.size+1)) [] (blk k σ fr) (upd H s.heap.objs.size (.lst [])) {s with heap:=h₁,toks:=tk}:=by
  have I3:=I.qu (ys:=[]) (its:=[]) (t':=tk) .nil (K9 _)
  have hD:H s.heap.objs.size=none:=I.fresh
  have hC:H (s.heap.objs.size+1)=none:=I.hok.fresh (Q3 _)
  have jt:∀b o,(s.heap.push {cls:=.type "list", data:=.seq ([]:List Value).toArray}).get? b=some o→b≠s.heap.objs.size+1:=λb o e=>by
    have:=Heap.lt_size e
    rw[Heap.size_push]at this
    exact E7 this
  have UT:∀b o,(s.heap.push {cls:=.type "list", data:=.seq ([]:List Value).toArray}).get? b=some o→h₁.get? b=some o:=λb o e=>
    hs.extBut b o (jt b o e) (Heap.get?_push_of_some _ e)
  have kept:∀b o,s.heap.get? b=some o→h₁.get? b=some o:=λb o e=>UT b o (Heap.get?_push_of_some _ e)
  refine⟨⟨I.ok.mod,B.kind,I.ok.glob,I.ok.blt,Q3 _,λx y c h1 h2=>I.ok.inj x y c (hcl x c h1).2 (hcl y c h2).2,λx hx=>MF x (Jc B.cell hx),λx c h _=>(nomatch h),
      I.ok.hd,I.ok.frames,.inl rfl,λb hb=>⟨?_,λx c e=>(hf b hb).2.2.2.2.1 x c (hcl x c e).2⟩,λb o e=>I.bs b o e,F9 I.ok.RZ I.sz,λb o e hb=>?_,λb hb hb2=>?_,I.stack,I.Sy⟩,
    rfl,I.bare,Un.laid kept (B7 _) hD,⟨m,hn,λi x v h1 h2 h3=>?_⟩,λx c e=>?_,?_,λx c e=>?_,λp hp=>absurd (show p∈([]:List (Addr×Obj))from hp) (by simp),?_,?_⟩
  · exact E7 (O9 (hfo b hb))
  · rcases(hf b hb).2.2.2.1 with z | z
    · exact I.ok.Yd b o e z
    · exact absurd (C6 (Heap.lt_size e) (F9 I.ok.RZ z)) (G6 _)
  · rcases E9.mp (I.Ii b hb2)with z | z
    · exact(hf b hb).2.1 z
    · exact(hf b hb).2.2.1 z
  · obtain⟨j,o,rfl,h4,h5⟩:=LR h2
    have h1:N[k+j]?=some x:=h1
    have hj:j<fr.length:=(C9.mp h4).1
    have hx:X.N[o]?=some x:=by
      have q:=B.slots j (F8.mpr hj)
      rw[A7,h4]at q
      exact q.trans h1
    obtain⟨hfr,hre⟩:=B.from_ x (D2 (i:=j) (by rw[List.getElem?_drop];exact h1))
    have hk:=B.free _ hfr rfl
    obtain⟨m0,hn0,hl0⟩:=I.loc
    have hv:xj X.env.scope x:=by
      rcases hk with q | q
      · exact .inr (.inl q)
      · exact .inr (.inr q)
    obtain⟨u,r,l⟩:=hl0 o x v hx h5 hv
    refine⟨u,r,.inr ?_⟩
    rcases l with ⟨q,_⟩ | ⟨_,c,e,z⟩
    · rcases hk with q' | q'
      · exact absurd (q.symm.trans q') (by intro z;cases z)
      · exact absurd (q.symm.trans q') (by intro z;cases z)
    · obtain⟨c',e'⟩:=MF x hfr
      have e2:=(hcl x c' e').2
      rw[e]at e2
      cases e2
      refine⟨hre,c,e',?_⟩
      obtain⟨oc,hoc,hd⟩:=z
      exact⟨oc,kept c oc hoc,hd⟩
  · obtain⟨v,oc,hoc,hd⟩:=I.cell x c (hcl x c e).2
    exact⟨v,oc,kept c oc hoc,hd⟩
  · show upd H s.heap.objs.size (.lst []) (s.heap.objs.size+1)=none
    rw[bY (M3 (P5 _))]
    exact hC
  · have hc:=(hcl x c e).2
    obtain⟨v,oc,hoc,hd⟩:=I.cell x c hc
    show upd H s.heap.objs.size (.lst []) c=none
    rw[bY (E7 (Heap.lt_size hoc))]
    exact I.qZ x c hc
  · exact tV.kept I3.hok UT
  · show (blk k σ fr).length=N.length
    rw[B.len]
    unfold blk En
    simp
theorem Mf{tg elt iter:Expr}{ifs:List Expr}{scope:Scope}{pos:Pos}{N:List Str}{k:Nat}{fr:List Nat}{g:TG}{tc:TT}{te:TE}{cl:List (Str×Addr)}{pins:List (Addr×Obj)}{σ:St}{H:Hp}{s:Shared}{it:Addr}{fp:List Addr}{tn:Nat→Heap→Prop}{J:It}{Q:VK}
    {RR:Value→Addr→Result→Shared→Prop} {E:Value→Shared→Prop} (hcalm:X.calm=true) (I:Inv X pins σ H s) (T:Turn X.prog X.w X.K tg J fp it tn) (st:tn 0 s.heap) (hf:∀b∈fp,vC X pins H b) (B:gZ X.env.scope scope X.N N k fr)
    (hcl:∀x c,cl.lookup x=some c→(x,NameKind.free)∈scope.names∧X.env.cells.lookup x=some c) (MF:∀x,(x,NameKind.free)∈scope.names→∃c,cl.lookup x=some c)
    (hg:∀cl fp s H C,PG (eY X scope N cl fp s H C) tg g) (hc:∀cl fp s H C,ju (eY X scope N cl fp s H C) ifs tc) (he:∀cl fp s H C,PE (eY X scope N cl fp s H C) elt te)
    (hw:∀D,H D=none→UL J k fr g tc te σ H Q D)
    (hRR:∀D C m s' H',s'.heap.Ns C m→s.heap.objs.size≤C→H' C=none→C≠D→Inv X pins σ H' s'→Q (.ref D) H'→RR (.ref D) C (.ok .next) s') :
    wpAny (model X.prog X.w) X.A (newList []) (λacc s₃=>wpAny (model X.prog X.w) X.A (newFunctionEnv scope X.env.globals cl [] X.env.qual none .none (some X.env)) (λcenv s₄=>
      codeAny (model X.prog X.w) X.A (.compStart (.ListComp elt [⟨tg,iter,ifs,0⟩] scope pos) 0 (.ref it) acc {cenv with scope:=relabel scope X.env}) (RR acc cenv.locals) s₄) E s₃) E s:=by
  refine wpAny_newObj_type (wpAny_newFunctionEnv B.cell (by intro y hy;simp at hy) (λh₁ hns₁ hsb₁=>?_) B.kind)
  dsimp only at hns₁ hsb₁ ⊢
  rw[Heap.size_push]at hns₁ hsb₁ ⊢
  have hfo:∀b∈fp,b<s.heap.objs.size:=λb hb=>by
    obtain⟨o,e,_⟩:=T.obj 0 _ st b hb
    exact Heap.lt_size e
  have I4:=Qg (tk:=s.toks+([]:List (Str×Value)).length) I B hf hfo hcl MF hns₁ hsb₁
  generalize hD:s.heap.objs.size=D at *
  have hDn:H D=none:=by rw[←hD];exact I.fresh
  obtain⟨W,⟨m0,w0⟩,turn⟩:=hw D hDn
  have st1:tn 0 h₁:=T.keep 0 _ _ st λb hb o e=>hsb₁.extBut b o (E7 (O9 (by have:=hfo b hb;exact this))) (Heap.get?_push_of_some _ (Heap.get?_push_of_some _ e))
  have fr0:∀b∈fp,(upd H D (.lst [])) b=none:=λb hb=>by
    rw[bY (E7 (hfo b hb))]
    exact(hf b hb).1
  generalize hX':eY X scope N cl fp s H (D+1)=X' at I4
  have stat:∀{H':Hp},(∀b∈fp,H' b=none)→∀b∈fp,vC X' [] H' b:=λ{H'} hn b hb=>by
    subst hX'
    refine⟨hn b hb,?_,λz=>?_,.inl hb,λx c e=>(hf b hb).2.2.2.2.1 x c (hcl x c e).2,λp hp=>absurd (show p∈([]:List (Addr×Obj))from hp) (by simp)⟩
    · exact E7 (O9 (hfo b hb))
    · rcases E9.mp (I.Ii b z)with z | z
      · exact(hf b hb).2.1 z
      · exact(hf b hb).2.2.1 z
  have loop:∀s₃:Shared,s₃={s with heap:=h₁,toks:=s.toks+([]:List (Str×Value)).length} →
      codeAny (model X.prog X.w) X.A (.compLoop (.ListComp elt [⟨tg,iter,ifs,0⟩] scope pos) 0 (.ref it) (.ref D) (compEnvC scope cl (D+1) X.env)) (RR (.ref D) (D+1)) s₃:=by
    rintro s₃ rfl
    refine tO (λn s'=>∃i ys H',Inv X' [] (blk k σ fr) H' s'∧tn i s'.heap∧(∀b∈fp,H' b=none)∧W i n ys H') ?_ m0 ⟨0,[],_,I4,st1,fr0,w0⟩
    rintro n s5 ⟨i,ys,H5,I5,st5,fr5,w5⟩
    obtain⟨hys,way⟩:=turn i n ys H5 w5
    have e1:X'.prog=X.prog:=by rw[←hX'];rfl
    have e2:X'.w=X.w:=by rw[←hX'];rfl
    have e3:X'.K=X.K:=by rw[←hX'];rfl
    have e4:X'.A=X.A:=by rw[←hX'];rfl
    have e5:X'.calm=true:=by rw[←hX'];exact hcalm
    have e6:X'.env=compEnvC scope cl (D+1) X.env:=by rw[←hX'];rfl
    have e7:X'.xe=λ_ _=>False:=by rw[←hX'];rfl
    rcases way with ⟨stop,q⟩ | ⟨go,step⟩
    · have d:=T.done X' e1 e2 e3 e5 i [] s5 _ H5 (λ_ _=>False) I5 (stat fr5) st5 stop
      rw[e4]at d
      refine gG d λr s6 ⟨hr,I6⟩=>?_
      subst hr
      subst hX'
      obtain⟨m6,hn6,_⟩:=I6.loc
      refine hRR D (D+1) m6 s6 H5 hn6 (Q3 _) I6.free (M3 (P5 _)) ?_ q
      exact I.call' I6.os I6.base I6.hok I6.bare λb hb=>⟨(hf b hb).2.2.2.1,(hf b hb).2.1,(hf b hb).2.2.2.2.1,(hf b hb).2.2.2.2.2⟩
    · have d:=T.item X' e1 e2 e3 e5 i [] s5 _ H5 (λ_ _=>False) I5 (stat fr5) st5 go
      rw[e4]at d
      refine gG d λr s6 ⟨u,hr,h6⟩=>?_
      subst hr
      refine gG h6 λ_ s7 ⟨x,H7,I7,r7,y7,st7,fr7⟩=>?_
      have I7':=I7.pinned (stat fr7) (T.obj _ _ st7)
      have hg':PG X' tg g:=by rw[←hX'];exact hg _ _ _ _ _
      have hc':ju X' ifs tc:=by rw[←hX'];exact hc _ _ _ _ _
      have he':PE X' elt te:=by rw[←hX'];exact he _ _ _ _ _
      have a1:=hg' _ s7 _ H7 x u _ I7' r7 (step x H7 y7)
      rw[e1,e2,e4,e6,e7]at a1
      refine gG a1 λ_ s8 ⟨σ8,H8,I8,⟨kl,kk⟩,q8⟩=>?_
      have a2:=hc' _ s8 σ8 H8 _ I8 q8
      rw[e1,e2,e4,e6,e7]at a2
      refine gG a2 λok s9 ⟨H9,I9,q9⟩=>?_
      have again:∀{Ha:Hp} {ya:List V} {sa:Shared},Inv X' ([]++Al fp s7.heap) σ8 Ha sa→(∃m',m'<n∧W (i+1) m' ya Ha) →
          ∃m,m<n∧∃i ys H',Inv X' [] (blk k σ fr) H' sa∧tn i sa.heap∧(∀b∈fp,H' b=none)∧W i m ys H':=λ{Ha ya sa} Ia ⟨m',hm,w'⟩=>by
        refine⟨m',hm,i+1,ya,Ha,(Ia.weak kl.symm kk).vD,T.keep _ _ _ st7 λb hb o e=>(Ia.pin (b,o) (E3 _ (E3 _ (qC hb e)))).1,λb hb=>?_,w'⟩
        obtain⟨o,e,d⟩:=T.obj _ _ st7 b hb
        exact(Ia.pin (b,o) (E3 _ (E3 _ (qC hb e)))).2.1
      cases ok with
      | false=>exact again I9 q9
      | true=>
        have a3:=he' _ s9 σ8 H9 _ I9 q9
        rw[e1,e2,e4,e6,e7]at a3
        show wpAny _ _ _ _ _ s9
        refine gG a3 λv s10 ⟨y,H10,I10,r10,hD10,hz,q10⟩=>?_
        have a4:=mL (X:=X') _ s10 σ8 H10 (.ref D) [y] (.ref D) [v] (λ_ H11=>H11=upd H10 D (.lst (ys++[y]))) I10 rfl (.cons r10 .nil) ⟨D,ys,y,rfl,rfl,hD10,hz,rfl⟩
        rw[e1,e2,e4,e7]at a4
        refine gG a4 λ_ s11 ⟨_,H11,I11,_,e11⟩=>?_
        subst e11
        exact again I11 q10
  exact codeAny_compStart_list (loop _ rfl) (T.self _ 0 _ _ _ st1 (loop _ rfl))
theorem Tv{tg elt iter:Expr}{ifs:List Expr}{scope:Scope}{pos:Pos}{wi:TI}{g:TG}{tc:TT}{te:TE}(N:List Str)(k:Nat)(fr:List Nat)(hcalm:X.calm=true)(B:gZ X.env.scope scope X.N N k fr)(hi:PI X tg iter wi)
  (hg:∀cl fp s H C,PG (eY X scope N cl fp s H C) tg g) (hc:∀cl fp s H C,ju (eY X scope N cl fp s H C) ifs tc) (he:∀cl fp s H C,PE (eY X scope N cl fp s H C) elt te)
  (hs:∀x,foldedSetIterable iter X.env x=pure x:=by intro _;rfl):PE X (.ListComp elt [⟨tg,iter,ifs,0⟩] scope pos) (Bb wi k fr g tc te):=by
 intro pins s σ H Q I h
 obtain⟨cl,e,h1,h2⟩:=tX scope X.env λy hy hk=>I.ok.has y.1 (B.free y hy hk)
 rw[eval_ListComp]
 refine wpAny_comprehension_free (use:=none) rfl hs e B.kind B.loc (wpAny_mono (hi pins s σ H _ I h) (λxv s₁ q₁=>wpAny_mono q₁ (λitv s₂ q₂=>?_) λ_ _ x=>x) λ_ _ x=>x)
 obtain⟨it,fp,tn,J,H2,rfl,I2,T,st2,f2,hw⟩:=q₂
 refine Mf (Q:=Q) (RR:=λacc C=>compPost (model X.prog X.w) X.A X.xe none (EP X pins σ Q) acc C) hcalm I2 T st2 f2 B h1 h2 hg hc he hw ?_
 intro D C m s' H' hn hC hf hne I' q
 refine⟨m,hn,λh' hs'=>⟨.ref D,H',?_,rfl,q⟩⟩
 exact I'.turned (t':=s'.toks) (λb o hb eb=>(hs'.2 b hb).trans eb) hf (M3 (C6 I2.lt hC)) (.inr (F9 I2.sz hC)) (λx c ec z=>by
  obtain⟨v,q⟩:=I2.cell x c ec
  exact absurd (C6 q.lt (by rw[z];exact hC)) (G6 _)) λp hp z=>absurd (C6 (Heap.lt_size (I2.pin p hp).1) (by rw[z];exact hC)) (G6 _)
theorem MJ{tg elt iter:Expr}{ifs:List Expr}{scope:Scope}{pos spos py:Pos}{y:Str}{i:Nat}{wi:TI}{g:TG}{tc:TT}{te:TE}(N:List Str)(k:Nat)(fr:List Nat)(hcalm:X.calm=true)(B:gZ X.env.scope scope X.N N k fr)(hN:X.N.Nodup)(hy:X.N[i]?=some y)(hx:Loc X.env.scope y)(hi:PI X tg iter wi)
  (hg:∀cl fp s H C,PG (eY X scope N cl fp s H C) tg g) (hc:∀cl fp s H C,ju (eY X scope N cl fp s H C) ifs tc) (he:∀cl fp s H C,PE (eY X scope N cl fp s H C) elt te)
  (hsw:swapsWith (.ListComp elt [⟨tg,iter,ifs,0⟩] scope pos) (some (.Name y py)) spos.line X.env=pure true:=by rfl)
  (hs:∀x,foldedSetIterable iter X.env x=pure x:=by intro _;rfl) (hf:X.fn y=true∨X.env.scope.names.lookup y=some .local:=by first | exact .inl rfl | exact .inr rfl | assumption) :
  PS X (.Assign [.Name y py] (.ListComp elt [⟨tg,iter,ifs,0⟩] scope pos) spos) (lG (Bb wi k fr g tc te) (eG i)):=by
 intro pins s σ H D I h
 obtain⟨cl,e,h1,h2⟩:=tX scope X.env λy hy hk=>I.ok.has y.1 (B.free y hy hk)
 rw[exec_Assign_Name_used _ _ _ _ hsw]
 refine wpAny_bind (wpAny_standAt (wpAny_bind ?_))
 show wpAny _ X.A (do let _ ←comprehension (.ListComp elt [⟨tg,iter,ifs,0⟩] scope pos) scope X.env _ (newList []) false (eval iter X.env) (some (assign (.Name y py) X.env))) _ _ s
 refine wpAny_bind (wpAny_mono (wpAny_comprehension_free (use:=some (assign (.Name y py) X.env)) (Q:=λ_ s'=>SP X pins D .next s') rfl hs e B.kind B.loc
  (wpAny_mono (hi pins s σ H _ I h) (λxv s₁ q₁=>wpAny_mono q₁ (λitv s₂ q₂=>?_) λ_ _ x=>x) λ_ _ x=>x)) (λ_ s' hq=>wpAny_pure (wpAny_pure hq)) λ_ _ x=>x)
 obtain⟨it,fp,tn,J,H2,rfl,I2,T,st2,f2,hw⟩:=q₂
 refine Mf (Q:=λx H1=>eG i x σ H1 D.nx) (RR:=λacc C=>compPost (model X.prog X.w) X.A X.xe (some (assign (.Name y py) X.env)) (λ_ s'=>SP X pins D .next s') acc C) hcalm I2 T st2 f2 B h1 h2 hg hc he hw ?_
 intro E C m s' H' hn hC hfr hne I' q
 show wpAny _ X.A (assign (.Name y py) X.env (.ref E)) _ _ _
 have HX:∀x c,X.env.cells.lookup x=some c→c≠C:=λx c ec z=>by
  obtain⟨v,q⟩:=I2.cell x c ec
  exact absurd (C6 q.lt (by rw[z];exact hC)) (G6 _)
 refine wpAny_assign_Name (Ey I' hN hy hx (show RelV (.ref E) (.ref E)from rfl) (λs6 I6 ⟨a,hsb,ha⟩=>?_) hf)
 have neA:C≠a:=by
  rcases ha with z | z
  ·rw[z];exact M3 (C6 I2.lt hC)
  ·exact λq=>HX _ _ z q.symm
 refine⟨m,hn.sameBut hsb neA,λh'' hs''=>⟨_,H',?_,q⟩⟩
 exact I6.turned (t':=s6.toks) (λb o hb eb=>(hs''.2 b hb).trans eb) hfr (M3 (C6 I2.lt hC)) (.inr (F9 I2.sz hC)) HX
  λp hp z=>absurd (C6 (Heap.lt_size (I2.pin p hp).1) (by rw[z];exact hC)) (G6 _)
end
end L2


set_option maxHeartbeats 4000000
namespace L2
open PySem PySem.Spec PyProof.Rows
def jw(J:It)(P:Hp→Prop)(xs:List V):Prop:=
 ∀i H,P H→(i<xs.length→J.go i H)∧(∀x H',J.oh i H x H'→H'=H∧(i<xs.length→xs[i]?=some x))∧(xs.length≤i→J.stop i H)
theorem Yz{K:aC}{a:Addr}{xs:List V}:jw (Itl K a) (λH=>jC K H a xs) xs:=λi H hq=>
 ⟨λh=>⟨xs,xs[i],hq,by simp[h]⟩,λx H' ⟨e,y⟩=>⟨e,λ_=>y xs hq⟩,λh=>⟨xs,hq,h⟩⟩
theorem MK{K:aC}{a:Addr}{xs:List V}:jw (Itt K a) (λH=>pZ K H a xs) xs:=λi H hq=>
 ⟨λh=>⟨xs,xs[i],hq,by simp[h]⟩,λx H' ⟨e,y⟩=>⟨e,λ_=>y xs hq⟩,λh=>⟨xs,hq,h⟩⟩
theorem wQ{lo:Int}{n:Nat}:jw (ou lo n) (λ_=>True) ((C5 n).map λi:Nat=>V.int (lo+(i:Int))):=λi H _=>
 ⟨λh=>show i<n by simpa using h,λx H' ⟨e,y⟩=>⟨e,λh=>by
  have h:i<n:=by simpa using h
  subst y
  simp[h]⟩,λh=>show n≤i by simpa using h⟩
section
variable{X:Cx}
theorem fZ{scope:Scope}{N:List Str}{x:Str}{pos:Pos}(hN:N.Nodup)(hi:N[0]?=some x)(hx:(iQ scope X.env.scope).names.lookup x=some .local) :
  ∀cl fp s H C,PG (eY X scope N cl fp s H C) (.Name x pos) (eG 0):=λ_ _ _ _ _=>fK hN hi (B4 hx) (B3 hx)
theorem MN{P:Program}{w:World}{k:Key}{v:Value}(h:(eU P w).is k v=true):RelV (kV k) v:=by
 rcases dU (k:=k) (v:=v) h with ⟨i,t,rfl,rfl⟩ | ⟨x,t,rfl,rfl⟩
 ·exact⟨t,rfl⟩
 ·exact⟨t,rfl⟩
theorem Tw{J:It}{P:Hp→Prop}{xs:List V}(hJ:jw J P xs){g:TG}{tb:TS}{D:Ends}{σ:St}{H:Hp}(Pv:Nat→St→Hp→Prop)(h0:Pv 0 σ H)(hl:∀i σ H,i≤xs.length→Pv i σ H→P H)
  (hs:∀i x σ H,xs[i]?=some x→Pv i σ H→g x σ H λσ2 H2=>tb {D with nx:=Pv (i+1),ct:=Pv (i+1),bk:=D.nx} σ2 H2) (hd:∀σ H,Pv xs.length σ H→D.nx σ H) :
  ∃W:Nat→Nat→St→Hp→Prop,(∃m,W 0 m σ H)∧∀i m σ H,W i m σ H →
   (J.stop i H∧D.nx σ H)∨(J.go i H∧∃N:St→Hp→Prop,(∀σ' H',N σ' H'→∃m',m'<m∧W (i+1) m' σ' H')∧∀x H',J.oh i H x H'→g x σ H' λσ2 H2=>tb {D with nx:=N,ct:=N,bk:=D.nx} σ2 H2):=by
 refine⟨λi m σ H=>m=xs.length-i∧i≤xs.length∧Pv i σ H,⟨xs.length,by simp,K9 _,h0⟩,?_⟩
 rintro i m σ H ⟨rfl,hi,p⟩
 obtain⟨j1,j2,j3⟩:=hJ i H (hl i σ H hi p)
 by_cases hlt:i<xs.length
 ·refine .inr ⟨j1 hlt,Pv (i+1),λσ' H' p'=>⟨xs.length-(i+1),by omega,rfl,hlt,p'⟩,λx H' y=>?_⟩
  obtain⟨e,ex⟩:=j2 x H' y
  subst e
  exact hs i x σ _ (ex hlt) p
 ·have e:i=xs.length:=by omega
  subst e
  exact .inl ⟨j3 (B7 _),hd σ H p⟩
end
end L2


namespace L2
open PySem PySem.Spec PyProof.Rows
section
variable{X:Cx}
theorem rB:∀{bs:List Bool} {us:List Value},Vals (bs.map V.bl) us→us=bs.map Value.bool
 | [],us,r=>by rw[G0]at r;cases r;rfl
 | b::bs,us,r=>by
  rw[D4]at r
  cases r with
  | cons r1 r2=>
   cases(show _=Value.bool b from r1)
   rw[rB r2]
   rfl
theorem Qh(bs:List Bool):((C5 bs.length).all λi=>(bs[i]?).getD true)=bs.all id:=by
 rw[J5,F3,F3]
 constructor
 ·intro h b hb
  obtain⟨i,hi,rfl⟩:=I0 hb
  have:=h i (F8.mpr hi)
  simpa[hi]using this
 ·intro h i hi
  have hi':=F8.mp hi
  simp only[A6 hi',L5]
  exact h _ (F4 hi')
theorem Qi(bs:List Bool):((C5 bs.length).any λi=>(bs[i]?).getD false)=bs.any id:=by
 rw[J5,M7,M7]
 constructor
 ·rintro⟨i,hi,e⟩
  have hi':=F8.mp hi
  simp only[A6 hi',L5]at e
  exact⟨_,F4 hi',e⟩
 ·rintro⟨b,hb,e⟩
  obtain⟨i,hi,rfl⟩:=I0 hb
  exact⟨i,F8.mpr hi,by simp only[A6 hi,L5];exact e⟩
theorem Tz{s:Shared}{h':Heap}{o:Obj}(hk:∀b x,b∉[s.heap.objs.size]→(s.heap.push o).get? b=some x→h'.get? b=some x):∀b x,s.heap.get? b=some x→h'.get? b=some x:=
 λb x e=>hk b x (λhm=>by rw[F2.mp hm]at e;exact G6 _ (Heap.lt_size e)) (Heap.get?_push_of_some _ e)
theorem Za(hc:X.calm=true):lH X (.builtin "all") (λxs H Q=>∃(p:Addr)(bs:List Bool),xs=[.ref p]∧jC X.K H p (bs.map V.bl)∧Q (.bl (bs.all id)) H):=by
 intro pins s σ H xs us Q I r h
 obtain⟨p,bs,rfl,hq,q⟩:=h
 obtain⟨u,rfl,rx⟩:=vals1 r
 cases rx
 obtain⟨its,rv,pl,hz⟩:=I.list hq
 have hb:=rB rv
 subst hb
 have hl:=pl.isList
 have hlt:p<s.heap.objs.size:=by obtain⟨_,e,_⟩:=hl;exact Heap.lt_size e
 refine call_all_walk (wpAny_pyIter_list hl ?_)
 refine⟨s.heap.objs.size,[s.heap.objs.size,p],[s.heap.objs.size],_,_,_,λi=>(bs[i]?).getD true,rfl,Walks.list (A:=X.A.in1) (I.ok.hd hc) _ p (E7 hlt) _,
  ⟨⟨_,Heap.get?_push_size _ rfl,rfl,rfl⟩,hl.push _⟩,λi v s' Q' E' hP hQ=>?_,λh' tk hk=>?_⟩
 ·have e:(bs.map Value.bool)[i]?=some v:=by simpa using hP
  rw[B8]at e
  cases e2:bs[i]? with
  | none=>rw[e2]at e;cases e
  | some b=>
   rw[e2]at e
   cases e
   simp only[e2,L5]at hQ
   exact wpAny_truthy_bool hQ
 ·have e:((C5 (bs.map Value.bool).toArray.size).all λi=>(bs[i]?).getD true)=bs.all id:=by
   rw[A9,A5];exact Qh bs
  rw[e]
  exact⟨.bl _,H,I.kept (Tz hk),rfl,q⟩
theorem Zb(hc:X.calm=true):lH X (.builtin "any") (λxs H Q=>∃(p:Addr)(bs:List Bool),xs=[.ref p]∧jC X.K H p (bs.map V.bl)∧Q (.bl (bs.any id)) H):=by
 intro pins s σ H xs us Q I r h
 obtain⟨p,bs,rfl,hq,q⟩:=h
 obtain⟨u,rfl,rx⟩:=vals1 r
 cases rx
 obtain⟨its,rv,pl,hz⟩:=I.list hq
 have hb:=rB rv
 subst hb
 have hl:=pl.isList
 have hlt:p<s.heap.objs.size:=by obtain⟨_,e,_⟩:=hl;exact Heap.lt_size e
 refine call_any_walk (wpAny_pyIter_list hl ?_)
 refine⟨s.heap.objs.size,[s.heap.objs.size,p],[s.heap.objs.size],_,_,_,λi=>(bs[i]?).getD false,rfl,Walks.list (A:=X.A.in1) (I.ok.hd hc) _ p (E7 hlt) _,
  ⟨⟨_,Heap.get?_push_size _ rfl,rfl,rfl⟩,hl.push _⟩,λi v s' Q' E' hP hQ=>?_,λh' tk hk=>?_⟩
 ·have e:(bs.map Value.bool)[i]?=some v:=by simpa using hP
  rw[B8]at e
  cases e2:bs[i]? with
  | none=>rw[e2]at e;cases e
  | some b=>
   rw[e2]at e
   cases e
   simp only[e2,L5]at hQ
   exact wpAny_truthy_bool hQ
 ·have e:((C5 (bs.map Value.bool).toArray.size).any λi=>(bs[i]?).getD false)=bs.any id:=by
   rw[A9,A5];exact Qi bs
  rw[e]
  exact⟨.bl _,H,I.kept (Tz hk),rfl,q⟩
theorem ao:pF X (compareOp .Is) (λx y H Q=>∃c k,x=.bl c∧y=.bl k∧Q (.bl (c==k)) H):=by
 intro pins s σ H x y v u Q I rx ry h
 obtain⟨c,k,rfl,rfl,q⟩:=h
 cases rx
 cases ry
 exact is_bool ⟨.bl _,H,I,rfl,q⟩
theorem Vx{P:Program}{w:World}{kvs:List (Key×V)}{vs:List (Key×Value)}(rel:KV kvs vs){us:List Value}(hl:us.length=vs.length)(hv:∀(j:Nat)(v:Value),us[j]?=some v→∃k x,vs[j]?=some (k,x)∧(eU P w).is k v=true) :
  Vals (kvs.map λkv=>kV kv.1) us:=by
 have ek:=KV.keys rel
 have e0:(kvs.map λkv=>kV kv.1)=(vs.map (·.1)).map kV:=by rw[←ek,G3];rfl
 rw[e0]
 clear e0 ek rel
 induction vs generalizing us with
 | nil=>
  cases us with
  | nil=>exact .nil
  | cons _ _=>simp at hl
 | cons p r ih=>
  cases us with
  | nil=>simp at hl
  | cons u us=>
   refine .cons ?_ (ih (by simpa using hl) λj v e=>by simpa using hv (j+1) v (by simpa using e))
   obtain⟨k,x,e,h⟩:=hv 0 u rfl
   simp at e
   subst e
   exact MN h
theorem Bc(hc:X.calm=true):lH X (.type "list") (λxs H Q=>∃p kvs,xs=[.ref p]∧Rd H p (.dK kvs)∧∀l,H l=none→Q (.ref l) (upd H l (.lst (kvs.map λkv=>kV kv.1)))):=by
 intro pins s σ H xs us Q I r h
 obtain⟨p,kvs,rfl,hq,q⟩:=h
 obtain⟨u,rfl,rx⟩:=vals1 r
 cases rx
 obtain⟨hz,hsm,vs,rel,dd⟩:=Tr I.hok hq
 obtain⟨ep,hat⟩:=dd.dictAt
 have hl:=KV.length rel
 refine PySem.W.kdl_call (PySem.W.kdl_dict (knd:=eU X.prog X.w) (kvs:=vs) (ep:=ep) hsm) (I.ok.hd hc) hat (by omega) ?_
 intro h' tk acc c kp e hacc
 have hk:=Vx (P:=X.prog) (w:=X.w) rel (us:=acc.toList) (by rw[O1];exact hacc.1) λj v ej=>hacc.2 j v (by rw[←R0];exact ej)
 exact⟨.ref s.heap.objs.size,_,I.laid (t':=tk) kp (B7 _) (show fX X.prog X.w _ h' _ (.lst (kvs.map λkv=>kV kv.1))from⟨by rw[A5];exact hz,acc.toList,c,hk,by simpa using e⟩),rfl,q _ (I.hok.fresh (B7 _))⟩
end
inductive DV where
  | int (i:Int) | non | lst (ds:List DV) | tup (ds:List DV)
mutual
def Reads(K:aC)(H:Hp):DV→V→Prop
 | .int i,x=>x=.int i
 | .non,x=>x=.non
 | .lst ds,x=>∃a xs,x=.ref a∧jC K H a xs∧cX K H ds xs
 | .tup ds,x=>∃a xs,x=.ref a∧pZ K H a xs∧cX K H ds xs
def cX(K:aC)(H:Hp):List DV→List V→Prop
 | [],xs=>xs=[]
 | d::ds,xs=>∃y ys,xs=y::ys∧Reads K H d y∧cX K H ds ys
end
mutual
def DV.depth:DV→Nat
 | .int _=>0
 | .non=>0
 | .lst ds=>fD ds+1
 | .tup ds=>fD ds+1
def fD:List DV→Nat
 | []=>0
 | d::ds=>max d.depth (fD ds)
end
theorem cX.length{K:aC}{H:Hp}:∀{ds:List DV} {xs:List V},cX K H ds xs→xs.length=ds.length
 | [],xs,h=>by
  unfold cX at h
  rw[h]
  rfl
 | d::ds,xs,h=>by
  unfold cX at h
  obtain⟨y,ys,rfl,_,h2⟩:=h
  simp[cX.length h2]
theorem cX.get{K:aC}{H:Hp}:∀{ds:List DV} {xs:List V} {i:Nat} {d:DV},cX K H ds xs→ds[i]?=some d→∃x,xs[i]?=some x∧Reads K H d x
 | [],xs,i,d,h,e=>by simp at e
 | d'::ds,xs,0,d,h,e=>by
  unfold cX at h
  obtain⟨y,ys,rfl,h1,_⟩:=h
  simp at e
  subst e
  exact⟨y,rfl,h1⟩
 | d'::ds,xs,i+1,d,h,e=>by
  unfold cX at h
  obtain⟨y,ys,rfl,_,h2⟩:=h
  obtain⟨x,e1,e2⟩:=cX.get h2 (by simpa using e)
  exact⟨x,by simpa using e1,e2⟩
theorem Bd:∀{ds:List DV} {i:Nat} {d:DV},ds[i]?=some d→d.depth≤fD ds
 | [],i,d,e=>by simp at e
 | d'::ds,0,d,e=>by
  simp at e
  subst e
  unfold fD
  exact Nat.le_max_left _ _
 | d'::ds,i+1,d,e=>by
  have:=Bd (ds:=ds) (i:=i) (d:=d) (by simpa using e)
  unfold fD
  exact F9 this (Nat.le_max_right _ _)
theorem Qj(A:Around):A.in1.units=A.units+1:=rfl
section
open SeqAt
open Classical in
noncomputable def rC(d e:DV):Bool:=decide (d=e)
theorem rD{d e:DV}:rC d e=true↔d=e:=by unfold rC;simp
theorem rF(d:DV):rC d d=true:=rD.mpr rfl
theorem gQ{d e:DV}(h:d≠e):rC d e=false:=by unfold rC;simp[h]
theorem MP(a b:Int):rC (.int a) (.int b)=(a==b):=by
 by_cases h:a=b
 ·subst h;simp[rF]
 ·rw[gQ (by simpa using h)];simp[h]
open Classical in
theorem lC{ds es:List DV}(hl:ds.length=es.length):((C5 ds.length).all λi=>match ds[i]?,es[i]? with | some d,some e=>rC d e | _,_=>true)=decide (ds=es):=by
 rw[J5,F3,decide_eq_true_iff]
 constructor
 ·intro h
  apply List.ext_getElem hl
  intro i h1 h2
  have:=h i (F8.mpr h1)
  simp only[A6 h1,A6 h2]at this
  exact rD.mp this
 ·rintro rfl i hi
  have hi':=F8.mp hi
  simp only[A6 hi']
  exact rF _
variable{X:Cx}{pins:List (Addr×Obj)}{σ:St}{H:Hp}{s:Shared}
open Classical in
theorem Ua(ds es:List DV):rC (.lst ds) (.lst es)=decide (ds=es):=by
 by_cases h:ds=es
 ·subst h;simp[rF]
 ·rw[gQ (by intro z;cases z;exact h rfl)];simp[h]
open Classical in
theorem Ub(ds es:List DV):rC (.tup ds) (.tup es)=decide (ds=es):=by
 by_cases h:ds=es
 ·subst h;simp[rF]
 ·rw[gQ (by intro z;cases z;exact h rfl)];simp[h]
theorem Ft(I:Inv X pins σ H s):∀(n:Nat)(d e:DV)(x:V),d.depth≤n→Reads X.K H d x→Reads X.K H e x→d=e:=by
 have lists:∀(n:Nat),(∀(d e:DV)(x:V),d.depth≤n→Reads X.K H d x→Reads X.K H e x→d=e)→∀(ds es:List DV)(xs:List V),fD ds≤n→cX X.K H ds xs→cX X.K H es xs→ds=es:=by
  intro n ih ds
  induction ds with
  | nil=>
   intro es xs _ h1 h2
   have l1:=h1.length
   have l2:=h2.length
   cases es with
   | nil=>rfl
   | cons _ _=>rw[l1]at l2;simp at l2
  | cons d ds ihl=>
   intro es xs hd h1 h2
   have hd1:d.depth≤n:=by unfold fD at hd;omega
   have hd2:fD ds≤n:=by unfold fD at hd;omega
   unfold cX at h1
   obtain⟨y,ys,rfl,a1,a2⟩:=h1
   cases es with
   | nil=>have:=h2.length;simp at this
   | cons e es=>
    unfold cX at h2
    obtain⟨y',ys',q,b1,b2⟩:=h2
    cases q
    rw[ih d e y hd1 a1 b1,ihl es ys hd2 a2 b2]
 have kinds:∀{a:Addr} {xs ys:List V},jC X.K H a xs→pZ X.K H a ys→False:=λ{a xs ys} h1 h2=>by
  obtain⟨_,_,p1,_⟩:=I.list h1
  obtain⟨_,_,p2,_⟩:=I.tuple h2
  exact ne_of_list_tuple p1.isList (show s.heap.IsTuple a _ from p2) rfl
 intro n
 induction n with
 | zero=>
  intro d e x hd h1 h2
  cases d with
  | int i=>
   unfold Reads at h1
   subst h1
   cases e with
   | int j=>unfold Reads at h2;cases h2;rfl
   | non=>unfold Reads at h2;cases h2
   | lst es=>unfold Reads at h2;obtain⟨_,_,q,_⟩:=h2;cases q
   | tup es=>unfold Reads at h2;obtain⟨_,_,q,_⟩:=h2;cases q
  | non=>
   unfold Reads at h1
   subst h1
   cases e with
   | non=>rfl
   | int j=>unfold Reads at h2;cases h2
   | lst es=>unfold Reads at h2;obtain⟨_,_,q,_⟩:=h2;cases q
   | tup es=>unfold Reads at h2;obtain⟨_,_,q,_⟩:=h2;cases q
  | lst ds=>unfold DV.depth at hd;omega
  | tup ds=>unfold DV.depth at hd;omega
 | succ n ih=>
  intro d e x hd h1 h2
  cases d with
  | int i=>
   unfold Reads at h1
   subst h1
   cases e with
   | int j=>unfold Reads at h2;cases h2;rfl
   | non=>unfold Reads at h2;cases h2
   | lst es=>unfold Reads at h2;obtain⟨_,_,q,_⟩:=h2;cases q
   | tup es=>unfold Reads at h2;obtain⟨_,_,q,_⟩:=h2;cases q
  | non=>
   unfold Reads at h1
   subst h1
   cases e with
   | non=>rfl
   | int j=>unfold Reads at h2;cases h2
   | lst es=>unfold Reads at h2;obtain⟨_,_,q,_⟩:=h2;cases q
   | tup es=>unfold Reads at h2;obtain⟨_,_,q,_⟩:=h2;cases q
  | lst ds=>
   unfold Reads at h1
   obtain⟨a,xs,rfl,hq,r⟩:=h1
   cases e with
   | int j=>unfold Reads at h2;cases h2
   | non=>unfold Reads at h2;cases h2
   | lst es=>
    unfold Reads at h2
    obtain⟨b,ys,q,hq2,r2⟩:=h2
    cases q
    have:=I.vB hq hq2
    subst this
    rw[lists n ih ds es xs (by unfold DV.depth at hd;omega) r r2]
   | tup es=>
    unfold Reads at h2
    obtain⟨b,ys,q,hq2,r2⟩:=h2
    cases q
    exact(kinds hq hq2).elim
  | tup ds=>
   unfold Reads at h1
   obtain⟨a,xs,rfl,hq,r⟩:=h1
   cases e with
   | int j=>unfold Reads at h2;cases h2
   | non=>unfold Reads at h2;cases h2
   | lst es=>
    unfold Reads at h2
    obtain⟨b,ys,q,hq2,r2⟩:=h2
    cases q
    exact(kinds hq2 hq).elim
   | tup es=>
    unfold Reads at h2
    obtain⟨b,ys,q,hq2,r2⟩:=h2
    cases q
    have:=I.Ez hq hq2
    subst this
    rw[lists n ih ds es xs (by unfold DV.depth at hd;omega) r r2]
theorem Zc(I:Inv X pins σ H s)(i:Int)(e:DV)(y:V)(u v:Value)(A:Around)(hu:A.units<cLine)(r2:Reads X.K H e y)(rx:RelV (.int i) u)(ry:RelV y v):RcAt A s u v (rC (.int i) e)∧EqAt A s u v (rC (.int i) e):=by
 obtain⟨t,rfl⟩:=rx
 cases e with
 | int j=>
  unfold Reads at r2
  subst r2
  obtain⟨t',rfl⟩:=ry
  rw[MP]
  exact⟨RcAt.int_int _ _ _ _,EqAt.int_int _ _ _ _⟩
 | non=>
  unfold Reads at r2
  subst r2
  cases ry
  rw[gQ (by intro z;cases z)]
  exact⟨RcAt.int_none _ _,EqAt.int_none _ _⟩
 | lst es=>
  unfold Reads at r2
  obtain⟨b,ys,rfl,hq,_⟩:=r2
  cases ry
  obtain⟨its,_,pl,_⟩:=I.list hq
  rw[gQ (by intro z;cases z)]
  exact⟨RcAt.int_list _ _ pl.isList (hu),EqAt.int_list _ _ pl.isList (hu)⟩
 | tup es=>
  unfold Reads at r2
  obtain⟨b,ys,rfl,hq,_⟩:=r2
  cases ry
  obtain⟨its,_,pl,_⟩:=I.tuple hq
  rw[gQ (by intro z;cases z)]
  exact⟨RcAt.int_tuple _ _ pl (hu),EqAt.int_tuple _ _ pl (hu)⟩
theorem Zd(I:Inv X pins σ H s)(e:DV)(y:V)(u v:Value)(A:Around)(hu:A.units<cLine)(r2:Reads X.K H e y)(rx:RelV .non u)(ry:RelV y v):RcAt A s u v (rC .non e)∧EqAt A s u v (rC .non e):=by
 cases rx
 cases e with
 | non=>
  unfold Reads at r2
  subst r2
  cases ry
  rw[rF]
  exact⟨RcAt.none_none,EqAt.same _⟩
 | int j=>
  unfold Reads at r2
  subst r2
  obtain⟨t',rfl⟩:=ry
  rw[gQ (by intro z;cases z)]
  exact⟨RcAt.none_int _ _,EqAt.none_int _ _⟩
 | lst es=>
  unfold Reads at r2
  obtain⟨b,ys,rfl,hq,_⟩:=r2
  cases ry
  obtain⟨its,_,pl,_⟩:=I.list hq
  rw[gQ (by intro z;cases z)]
  exact⟨RcAt.none_list pl.isList hu,EqAt.none_list pl.isList hu⟩
 | tup es=>
  unfold Reads at r2
  obtain⟨b,ys,rfl,hq,_⟩:=r2
  cases ry
  obtain⟨its,_,pl,_⟩:=I.tuple hq
  rw[gQ (by intro z;cases z)]
  exact⟨RcAt.none_tuple pl hu,EqAt.none_tuple pl hu⟩
theorem Be(I:Inv X pins σ H s):∀(n:Nat)(A:Around),(∀(d e:DV)(x y:V)(u v:Value)(A:Around),d.depth≤n→A.units+n<cLine→Reads X.K H d x→Reads X.K H e y→RelV x u→RelV y v→RcAt A s u v (rC d e)∧EqAt A s u v (rC d e)) →
  ∀(ds es:List DV)(xs ys:List V)(us vs:List Value),fD ds≤n→A.units+(n+1)<cLine→cX X.K H ds xs→cX X.K H es ys→Vals xs us→Vals ys vs →
  ∀j (h1:j<us.toArray.size) (h2:j<vs.toArray.size),EqAt A.in1 s us.toArray[j] vs.toArray[j] (match ds[j]?,es[j]? with | some d,some e=>rC d e | _,_=>true):=by
 intro n A ih ds es xs ys us vs hd hu r1 r2 v1 v2 j h1 h2
 have l1:j<ds.length:=by rw[←r1.length,v1.length];simpa using h1
 have l2:j<es.length:=by rw[←r2.length,v2.length];simpa using h2
 obtain⟨x,ex,rx⟩:=r1.get (i:=j) (d:=ds[j]) (by simp)
 obtain⟨y,ey,ry⟩:=r2.get (i:=j) (d:=es[j]) (by simp)
 obtain⟨u,eu,ru⟩:=v1.get ex
 obtain⟨v,ev,rv⟩:=v2.get ey
 have e1:us.toArray[j]=u:=by
  rw[C9]at eu
  obtain⟨_,eu⟩:=eu
  simpa using eu
 have e2:vs.toArray[j]=v:=by
  rw[C9]at ev
  obtain⟨_,ev⟩:=ev
  simpa using ev
 rw[e1,e2]
 simp only[A6 l1,A6 l2]
 exact(ih _ _ x y u v A.in1 (F9 (Bd (i:=j) (by simp)) hd) (by rw[Qj];omega) rx ry ru rv).2
theorem Jd(I:Inv X pins σ H s):∀(n:Nat)(d e:DV)(x y:V)(u v:Value)(A:Around),d.depth≤n→A.units+n<cLine→Reads X.K H d x→Reads X.K H e y→RelV x u→RelV y v→RcAt A s u v (rC d e)∧EqAt A s u v (rC d e):=by
 have items:=Be I
 have seqs:∀(n:Nat)(A:Around),(∀(d e:DV)(x y:V)(u v:Value)(A:Around),d.depth≤n→A.units+n<cLine→Reads X.K H d x→Reads X.K H e y→RelV x u→RelV y v→RcAt A s u v (rC d e)∧EqAt A s u v (rC d e)) →
   ∀(d e:DV)(x y:V)(u v:Value),d.depth≤n+1→A.units+(n+1)<cLine→Reads X.K H d x→Reads X.K H e y→RelV x u→RelV y v→RcAt A s u v (rC d e)∧EqAt A s u v (rC d e):=by
  intro n A ih d e x y u v hd hu r1 r2 rx ry
  have of_same:∀{a b:Addr} {k:Bool},(a=b→k=true)→RcAt A s (.ref a) (.ref b) k→EqAt A s (.ref a) (.ref b) k:=λ{a b k} hk h=>by
   by_cases hab:a=b
   ·subst hab
    rw[hk rfl]
    exact EqAt.same _
   ·exact EqAt.of_refs hab h
  cases d with
  | int i=>
   unfold Reads at r1
   subst r1
   exact Zc I i e y u v A (by omega) r2 rx ry
  | non=>
   unfold Reads at r1
   subst r1
   exact Zd I e y u v A (by omega) r2 rx ry
  | lst ds=>
   unfold Reads at r1
   obtain⟨a,xs,rfl,hq1,Vy⟩:=r1
   cases rx
   obtain⟨Bf,v1,Eo,_⟩:=I.list hq1
   have hd':fD ds≤n:=by unfold DV.depth at hd;omega
   cases e with
   | int j=>
    unfold Reads at r2
    subst r2
    obtain⟨t',rfl⟩:=ry
    rw[gQ (by intro z;cases z)]
    exact⟨RcAt.list_int _ _ Eo.isList (by omega),EqAt.list_int _ _ Eo.isList (by omega)⟩
   | non=>
    unfold Reads at r2
    subst r2
    cases ry
    rw[gQ (by intro z;cases z)]
    exact⟨RcAt.list_none Eo.isList (by omega),EqAt.list_none Eo.isList (by omega)⟩
   | lst es=>
    unfold Reads at r2
    obtain⟨b,ys,rfl,hq2,Qk⟩:=r2
    cases ry
    obtain⟨its2,v2,Mg,_⟩:=I.list hq2
    have e1:Bf.toArray.size=ds.length:=by rw[A9,←v1.length,Vy.length]
    have e2:its2.toArray.size=es.length:=by rw[A9,←v2.length,Qk.length]
    have rc:RcAt A s (.ref a) (.ref b) (rC (.lst ds) (.lst es)):=by
     by_cases hl:ds.length=es.length
     ·have q:=RcAt.lists (A:=A) (s:=s) Eo.isList Mg.isList (by rw[e1,e2];exact hl) (by omega) (items n A ih ds es xs ys Bf its2 hd' hu Vy Qk v1 v2)
      rw[e1,lC hl]at q
      rw[Ua]
      exact q
     ·rw[gQ (by intro z;cases z;exact hl rfl)]
      exact RcAt.lists_lengths Eo.isList Mg.isList (by rw[e1,e2];simpa using hl) (by omega)
    exact⟨rc,of_same (λhab=>by
     subst hab
     refine rD.mpr (Ft I (n+1) _ _ (.ref a) hd ?_ ?_)
     ·unfold Reads
      exact⟨a,xs,rfl,hq1,Vy⟩
     ·unfold Reads
      exact⟨a,ys,rfl,hq2,Qk⟩) rc⟩
   | tup es=>
    unfold Reads at r2
    obtain⟨b,ys,rfl,hq2,Qk⟩:=r2
    cases ry
    obtain⟨its2,v2,Mg,_⟩:=I.tuple hq2
    rw[gQ (by intro z;cases z)]
    exact⟨RcAt.list_tuple Eo.isList Mg (by omega),EqAt.list_tuple Eo.isList Mg (by omega)⟩
  | tup ds=>
   unfold Reads at r1
   obtain⟨a,xs,rfl,hq1,Vy⟩:=r1
   cases rx
   obtain⟨Bf,v1,Eo,_⟩:=I.tuple hq1
   have hd':fD ds≤n:=by unfold DV.depth at hd;omega
   cases e with
   | int j=>
    unfold Reads at r2
    subst r2
    obtain⟨t',rfl⟩:=ry
    rw[gQ (by intro z;cases z)]
    exact⟨RcAt.tuple_int _ _ Eo (by omega),EqAt.tuple_int _ _ Eo (by omega)⟩
   | non=>
    unfold Reads at r2
    subst r2
    cases ry
    rw[gQ (by intro z;cases z)]
    exact⟨RcAt.tuple_none Eo (by omega),EqAt.tuple_none Eo (by omega)⟩
   | lst es=>
    unfold Reads at r2
    obtain⟨b,ys,rfl,hq2,Qk⟩:=r2
    cases ry
    obtain⟨its2,v2,Mg,_⟩:=I.list hq2
    rw[gQ (by intro z;cases z)]
    exact⟨RcAt.tuple_list Eo Mg.isList (by omega),EqAt.tuple_list Eo Mg.isList (by omega)⟩
   | tup es=>
    unfold Reads at r2
    obtain⟨b,ys,rfl,hq2,Qk⟩:=r2
    cases ry
    obtain⟨its2,v2,Mg,_⟩:=I.tuple hq2
    have e1:Bf.toArray.size=ds.length:=by rw[A9,←v1.length,Vy.length]
    have e2:its2.toArray.size=es.length:=by rw[A9,←v2.length,Qk.length]
    have rc:RcAt A s (.ref a) (.ref b) (rC (.tup ds) (.tup es)):=by
     have q:=RcAt.tuples (A:=A) (s:=s) (l:=a) (b:=b) Eo Mg (by omega) (items n A ih ds es xs ys Bf its2 hd' hu Vy Qk v1 v2)
     rw[e1,e2]at q
     by_cases hl:ds.length=es.length
     ·rw[←hl,S6,lC hl]at q
      rw[Ub]
      simpa using q
     ·rw[gQ (by intro z;cases z;exact hl rfl)]
      have z:(ds.length==es.length)=false:=by simpa using hl
      rw[z,F5]at q
      exact q
    exact⟨rc,of_same (λhab=>by
     subst hab
     refine rD.mpr (Ft I (n+1) _ _ (.ref a) hd ?_ ?_)
     ·unfold Reads
      exact⟨a,xs,rfl,hq1,Vy⟩
     ·unfold Reads
      exact⟨a,ys,rfl,hq2,Qk⟩) rc⟩
 intro n
 induction n with
 | zero=>
  intro d e x y u v A hd hu r1 r2 rx ry
  cases d with
  | int i=>
   unfold Reads at r1
   subst r1
   exact Zc I i e y u v A (by omega) r2 rx ry
  | non=>
   unfold Reads at r1
   subst r1
   exact Zd I e y u v A (by omega) r2 rx ry
  | lst ds=>unfold DV.depth at hd;omega
  | tup ds=>unfold DV.depth at hd;omega
 | succ n ih=>
  intro d e x y u v A hd hu r1 r2 rx ry
  exact seqs n A ih d e x y u v hd hu r1 r2 rx ry
end
section
variable{X:Cx}
def aq(K:aC)(neg:Bool):R2:=λx y H Q=>∃d e,Reads K H d x∧Reads K H e y∧d.depth≤32∧Q (.bl (if neg then !rC d e else rC d e)) H
theorem au(hu:X.A.units+64<cLine):pF X (compareOp .Eq) (aq X.K false):=by
 intro pins s σ H x y v u Q I rx ry h
 obtain⟨d,e,r1,r2,hd,q⟩:=h
 exact(Jd I 32 d e x y v u X.A hd (by omega) r1 r2 rx ry).1 X.prog X.w X.xe _ ⟨.bl _,H,I,rfl,q⟩
open SeqAt in
theorem az(hu:X.A.units+64<cLine):pF X (compareOp .NotEq) (λx y H Q=>∃ds es,Reads X.K H (.lst ds) x∧Reads X.K H (.lst es) y∧fD ds≤32∧Q (.bl (!rC (.lst ds) (.lst es))) H):=by
 intro pins s σ H x y v u Q I rx ry h
 obtain⟨ds,es,r1,r2,hd,q⟩:=h
 unfold Reads at r1 r2
 obtain⟨a,xs,rfl,hq1,Vy⟩:=r1
 obtain⟨b,ys,rfl,hq2,Qk⟩:=r2
 cases rx
 cases ry
 obtain⟨Bf,v1,Eo,_⟩:=I.list hq1
 obtain⟨its2,v2,Mg,_⟩:=I.list hq2
 have e1:Bf.toArray.size=ds.length:=by rw[A9,←v1.length,Vy.length]
 have e2:its2.toArray.size=es.length:=by rw[A9,←v2.length,Qk.length]
 have rc:RcNeAt X.A s (.ref a) (.ref b) (!rC (.lst ds) (.lst es)):=by
  by_cases hl:ds.length=es.length
  ·have z:=RcNeAt.lists (A:=X.A) (s:=s) Eo.isList Mg.isList (by rw[e1,e2];exact hl) (by omega) (Be I 32 X.A (λd e x y u v A a1 a2 a3 a4 a5 a6=>Jd I 32 d e x y u v A a1 a2 a3 a4 a5 a6) ds es xs ys Bf its2 hd (by omega) Vy Qk v1 v2)
   rw[e1,lC hl]at z
   rw[Ua]
   exact z
  ·rw[gQ (by intro z;cases z;exact hl rfl)]
   exact RcNeAt.lists_lengths Eo.isList Mg.isList (by rw[e1,e2];simpa using hl) (by omega)
 exact rc X.prog X.w X.xe _ ⟨.bl _,H,I,rfl,q⟩
end
end L2


namespace L2
open PySem PySem.Spec PyProof.Rows
structure Raw(K:aC)(mg:Str→Option Value)(x:Str)(st:Stmt):Prop where
 ex:∃f fd,IK K x x st f fd∧mg x=some (.ref f)
theorem bc{K:aC}{h:Heap}{mg:Str→Option Value}{x:Str}{st:Stmt}{f:Addr}{oc:Value}{od an:Option Addr}{osl:Array (Option Value)}{kV doc pm cdv ct:Value}(X:K.In h)(G:h.Ns mainGlobals mg)
  (a:S7 K mainGlobals x=some (some (.ref f))) (l:K.lookup f=some ⟨oc,od,.func (F6 x x (iU st) (fM st) (aP st) .none kV doc pm an cdv ct),osl⟩)
  (c:L0 K cdv x=true) (k:G7 K (.ref f)=true):Raw K mg x st:=⟨⟨f,_,ak l c k,V6 X G a⟩⟩
structure gH(P:Program)(w:World)(K:aC)(mg:Str→Option Value)(base:Heap)(x:Str)(k:Nat)(n:Nat)(sp:Sp):Prop where
 ex:∃f fd ps,ps.length=n∧wL P w K mg base Xx k f fd ps sp∧Binds K fd ps []∧G7 K (.ref f)=true∧mg x=some (.ref f)
theorem Raw.cal{P:Program}{w:World}{K:aC}{mg:Str→Option Value}{base:Heap}{x:Str}{st:Stmt}{N ps:List Str}{k:Nat}{sp:Sp}(R:Raw K mg x st)(S:bN N ps (aP st))(len:∀vs H Q E,sp vs H Q E→vs.length=ps.length)
  (hb:∀(kV doc pm:Value)(an:Option Addr)(cdv ct:Value)(us:List Value),us.length=ps.length→bindArgs (F6 x x (iU st) (fM st) (aP st) .none kV doc pm an cdv ct) ⟨us,[]⟩=pure (ps.zip us))
  (hbody:∀(f:Addr)(cdv:Value)(A:Around)(outer:List Env)(s:Shared)(H:Hp)(vs:List V)(Q:VK)(E:XK),mY k (A.deeper (envOfC x (aP st) s.heap.objs.size f cdv))→sp vs H Q E →
   ∃t,Lk (Ip Xx P w K mg base N x (aP st) f cdv A outer s H E).YH (fM st) t∧t {nx:=λ_ H'=>Q .non H',rt:=Q} (start N vs) H):gH P w K mg base x (k+1) ps.length sp:=by
 obtain⟨f,fd,F,m⟩:=R.ex
 exact⟨f,fd,ps,rfl,F.ok S len λcdv A outer s H vs Q E hr h=>hbody f cdv A outer s H vs Q E hr h,F.binds hb,F.kp,m⟩
theorem bf{X:Cx}{x:Str}{k n:Nat}{sp:Sp}{e:Expr}{es:List Expr}{p pos:Pos}{t:TA}(C:gH X.prog X.w X.K X.mg X.base x k n sp)(hr:mY k X.A)(hg:Gl X x)
  (ha:PA X (e::es) t) (hdb:(x==("__debug__" : Str))=false:=by decide) (he:starEach (e::es) X.env=(false,eval e X.env)::starEach es X.env:=by rfl) (hpl:(backTo pos (starEach es X.env)).any (·.1)=false:=by rfl) :
  PE X (.Call (.Name x p) (e::es) [] pos) (Ls sp [] E0 t):=by
 obtain⟨f,fd,ps,_,F,hb,hk,hm⟩:=C.ex
 exact JX F hr hg hm hk hb .nil rm ha hdb he hpl
theorem call_of{sp:Sp}{E:XK}{t:TA}{σ:St}{H:Hp}{Q:VK}(h:t σ H λvs H1=>sp vs H1 Q E):Ls sp [] E t σ H Q:=by
 unfold Ls
 have e:(λ(vs:List V) (H1:Hp)=>sp (vs++[]) H1 Q E)=λvs H1=>sp vs H1 Q E:=by funext vs H1;rw[N4]
 rw[e]
 exact h
theorem bZ{H:Hp}{p:Addr}(h:H p=none)(o:HO):aV H (upd H p o):=λb u q=>by rw[bY (gO q h)];exact q
theorem aV.tup{K:aC}{H H':Hp}{a:Addr}{xs:List V}(e:aV H H')(h:pZ K H a xs):pZ K H' a xs:=by
 rcases h with (h | ⟨o,h⟩) | h
 ·exact .inl (.inl (e _ _ h))
 ·exact .inl (.inr ⟨o,e _ _ h⟩)
 ·exact .inr h
mutual
theorem aV.reads{K:aC}{H H':Hp}(e:aV H H'):∀(d:DV)(x:V),Reads K H d x→Reads K H' d x
 | .int i,x,h=>by unfold Reads at h ⊢;exact h
 | .non,x,h=>by unfold Reads at h ⊢;exact h
 | .lst ds,x,h=>by
  unfold Reads at h ⊢
  obtain⟨a,xs,r,hq,l⟩:=h
  exact⟨a,xs,r,e.seq hq,aV.Ql e ds xs l⟩
 | .tup ds,x,h=>by
  unfold Reads at h ⊢
  obtain⟨a,xs,r,hq,l⟩:=h
  exact⟨a,xs,r,e.tup hq,aV.Ql e ds xs l⟩
theorem aV.Ql{K:aC}{H H':Hp}(e:aV H H'):∀(ds:List DV)(xs:List V),cX K H ds xs→cX K H' ds xs
 | [],xs,h=>by unfold cX at h ⊢;exact h
 | d::ds,xs,h=>by
  unfold cX at h ⊢
  obtain⟨y,ys,r,h1,h2⟩:=h
  exact⟨y,ys,r,aV.reads e d y h1,aV.Ql e ds ys h2⟩
end
theorem Bg:∀ns:List Int,fD (ns.map DV.int)=0
 | []=>by rw[G0];unfold fD;rfl
 | n::ns=>by rw[D4];unfold fD DV.depth;rw[Bg ns];rfl
theorem Ze{ns ms:List Int}:ns.map DV.int=ms.map DV.int↔ns=ms:=by
 constructor
 ·intro h
  have:∀(a b:Int),DV.int a=DV.int b→a=b:=λa b e=>by cases e;rfl
  exact(List.map_inj_right this).mp h
 ·rintro rfl;rfl
theorem aAj{xs:List V}{k:Int}{v:V}(h0:0≤k)(h:xs[k.toNat]?=some v):Av xs k=some v:=by
 have ek:k=((k.toNat:Nat):Int):=by omega
 rw[ek]
 exact KH h
def mk(ns:List Int):List (Key×V):=ns.foldl (λkvs n=>putK kvs (G4 n) (V.bl true)) []
theorem MT(ns:List Int)(n:Int):mk (ns++[n])=putK (mk ns) (G4 n) (V.bl true):=by
 unfold mk
 rw[List.foldl_append]
 rfl
theorem kW(ns:List Int):(mk ns).length≤ns.length:=by
 have h:∀(l:List Int),(mk l.reverse).length≤l.length:=by
  intro l
  induction l with
  | nil=>exact B7 _
  | cons a l ih=>
   rw[List.reverse_cons,MT,G2]
   exact F9 (oF _ _ _) (T9 ih)
 have q:=h ns.reverse
 rw[List.reverse_reverse,List.length_reverse]at q
 exact q
end L2
namespace L2
theorem gZ.at{scope:PySem.Scope}{N:List PySem.Str}{k:Nat}{fr:List Nat}(wH:PySem.Scope)(oN:List PySem.Str)(h:Yy wH scope oN N k fr=true):gZ wH scope oN N k fr:=gZ.of h
end L2
namespace L2
open PySem PySem.Spec PyProof.Rows
def vI(H:Hp)(p:Addr):Prop:=(∀xs,H p≠some (.tup xs))∧∀o xs,H p≠some (.wI o (.tup xs))
theorem mO{H:Hp}{p:Addr}{xs:List V}(h:H p=some (.lst xs)):vI H p:=⟨λys e=>(by rw[h]at e;cases e),λo ys e=>(by rw[h]at e;cases e)⟩
theorem Bh{H:Hp}{p:Addr}{kvs:List (Key×V)}(h:H p=some (.dK kvs)):vI H p:=⟨λys e=>(by rw[h]at e;cases e),λo ys e=>(by rw[h]at e;cases e)⟩
theorem pZ.upd{K:aC}{H:Hp}{a p:Addr}{xs:List V}{o:HO}(h:pZ K H a xs)(n:vI H p):pZ K (upd H p o) a xs:=by
 rcases h with (h | ⟨u,h⟩) | h
 ·exact .inl (.inl (by rw[bY (λz=>n.1 xs (by rw[←z];exact h))];exact h))
 ·exact .inl (.inr ⟨u,by rw[bY (λz=>n.2 u xs (by rw[←z];exact h))];exact h⟩)
 ·exact .inr h
mutual
def jA:DV→Bool
 | .int _=>true
 | .non=>true
 | .lst _=>false
 | .tup ds=>fG ds
def fG:List DV→Bool
 | []=>true
 | d::ds=>jA d&&fG ds
end
mutual
theorem Vz{K:aC}{H:Hp}{p:Addr}{o:HO}(n:vI H p):∀(d:DV)(x:V),jA d=true→Reads K H d x→Reads K (upd H p o) d x
 | .int i,x,_,h=>by unfold Reads at h ⊢;exact h
 | .non,x,_,h=>by unfold Reads at h ⊢;exact h
 | .lst ds,x,hi,h=>by unfold jA at hi;cases hi
 | .tup ds,x,hi,h=>by
  unfold jA at hi
  unfold Reads at h ⊢
  obtain⟨a,xs,r,hq,l⟩:=h
  exact⟨a,xs,r,hq.upd n,Bj n ds xs hi l⟩
theorem Bj{K:aC}{H:Hp}{p:Addr}{o:HO}(n:vI H p):∀(ds:List DV)(xs:List V),fG ds=true→cX K H ds xs→cX K (upd H p o) ds xs
 | [],xs,_,h=>by unfold cX at h ⊢;exact h
 | d::ds,xs,hi,h=>by
  unfold fG at hi
  rw[K1]at hi
  unfold cX at h ⊢
  obtain⟨y,ys,r,h1,h2⟩:=h
  exact⟨y,ys,r,Vz n d y hi.1 h1,Bj n ds ys hi.2 h2⟩
end
theorem Mh{n d:Nat}{k:Nat}:HT.wG n d (some (k:Int))=min k n:=HT.JZ n d k
end L2
namespace L2
open PySem PySem.Spec PyProof.Rows
section
variable{X:Cx}
end
end L2
namespace L2
open PySem PySem.Spec PyProof.Rows
end L2
namespace L2
open PySem PySem.Spec PyProof.Rows
section
variable{X:Cx}
end
end L2


namespace L2
open PySem PySem.Spec PyProof.Rows
section
variable{X:Cx}
open SeqAt in
theorem bh(hu:X.A.units+64<cLine):pF X (compareOp .NotEq) (λx y H Q=>∃ds es,Reads X.K H (.tup ds) x∧Reads X.K H (.tup es) y∧fD ds≤32∧Q (.bl (!rC (.tup ds) (.tup es))) H):=by
 intro pins s σ H x y v u Q I rx ry h
 obtain⟨ds,es,r1,r2,hd,q⟩:=h
 unfold Reads at r1 r2
 obtain⟨a,xs,rfl,hq1,Vy⟩:=r1
 obtain⟨b,ys,rfl,hq2,Qk⟩:=r2
 cases rx
 cases ry
 obtain⟨Bf,v1,Eo,_⟩:=I.tuple hq1
 obtain⟨its2,v2,Mg,_⟩:=I.tuple hq2
 have e1:Bf.toArray.size=ds.length:=by rw[A9,←v1.length,Vy.length]
 have e2:its2.toArray.size=es.length:=by rw[A9,←v2.length,Qk.length]
 have rc:RcNeAt X.A s (.ref a) (.ref b) (!rC (.tup ds) (.tup es)):=by
  have z:=RcNeAt.tuples (A:=X.A) (s:=s) (l:=a) (b:=b) Eo Mg (by omega) (Be I 32 X.A (λd e x y u v A a1 a2 a3 a4 a5 a6=>Jd I 32 d e x y u v A a1 a2 a3 a4 a5 a6) ds es xs ys Bf its2 hd (by omega) Vy Qk v1 v2)
  rw[e1,e2]at z
  by_cases hl:ds.length=es.length
  ·rw[←hl,S6,lC hl]at z
   rw[Ub]
   simpa using z
  ·rw[gQ (by intro z;cases z;exact hl rfl)]
   have zz:(ds.length==es.length)=false:=by simpa using hl
   rw[zz,F5]at z
   exact z
 exact rc X.prog X.w X.xe _ ⟨.bl _,H,I,rfl,q⟩
end
end L2


namespace L2
open PySem PySem.Spec PyProof.Rows
inductive D where
  | non | bl (b:Bool) | int (i:Int) | str (x:Str)
  | lst (ds:List D) | tup (ds:List D)
  | dk (ks:List Key) (ds:List D)
  | dt (ks:List (List Key)) (ds:List D)
  | ins (C:Addr) (nm:List Str) (ds:List D)
abbrev Fp:=Addr→Prop
def Apart(A B:Fp):Prop:=∀x,A x→¬B x
def Is(A B:Fp):Prop:=∀x,A x↔B x
def None(A:Fp):Prop:=∀x,¬A x
abbrev fY(A B:Fp):Fp:=λx=>A x∨B x
mutual
def Rv(K:aC)(H:Hp):D→V→Prop
 | .non,v=>v=.non
 | .bl b,v=>v=.bl b
 | .int i,v=>v=.int i
 | .str x,v=>v=.str x
 | .lst ds,v=>∃a xs,v=.ref a∧jC K H a xs∧dY K H ds xs
 | .tup ds,v=>∃a xs,v=.ref a∧pZ K H a xs∧dY K H ds xs
 | .dk ks ds,v=>∃a xs,v=.ref a∧Rd H a (.dK (ks.zip xs))∧ks.length=xs.length∧dY K H ds xs
 | .dt ks ds,v=>∃a xs,v=.ref a∧Rd H a (.dT (ks.zip xs))∧ks.length=xs.length∧dY K H ds xs
 | .ins C nm ds,v=>∃a dx xs,v=.ref a∧H a=some (.ins C dx (nm.zip xs))∧nm.length=xs.length∧dY K H ds xs
def dY(K:aC)(H:Hp):List D→List V→Prop
 | [],xs=>xs=[]
 | d::ds,xs=>∃y ys,xs=y::ys∧Rv K H d y∧dY K H ds ys
end
theorem aV.rd{H H':Hp}(e:aV H H'){a:Addr}{u:HO}(h:Rd H a u):Rd H' a u:=by
 rcases h with h | ⟨o,h⟩
 ·exact .inl (e _ _ h)
 ·exact .inr ⟨o,e _ _ h⟩
mutual
theorem aV.rv{K:aC}{H H':Hp}(e:aV H H'):∀(d:D)(v:V),Rv K H d v→Rv K H' d v
 | .non,v,h=>by unfold Rv at h ⊢;exact h
 | .bl _,v,h=>by unfold Rv at h ⊢;exact h
 | .int _,v,h=>by unfold Rv at h ⊢;exact h
 | .str _,v,h=>by unfold Rv at h ⊢;exact h
 | .lst ds,v,h=>by unfold Rv at h ⊢;obtain⟨a,xs,r,hq,l⟩:=h;exact⟨a,xs,r,e.seq hq,aV.Xy e ds xs l⟩
 | .tup ds,v,h=>by unfold Rv at h ⊢;obtain⟨a,xs,r,hq,l⟩:=h;exact⟨a,xs,r,e.tup hq,aV.Xy e ds xs l⟩
 | .dk ks ds,v,h=>by unfold Rv at h ⊢;obtain⟨a,xs,r,hq,hl,l⟩:=h;exact⟨a,xs,r,e.rd hq,hl,aV.Xy e ds xs l⟩
 | .dt ks ds,v,h=>by unfold Rv at h ⊢;obtain⟨a,xs,r,hq,hl,l⟩:=h;exact⟨a,xs,r,e.rd hq,hl,aV.Xy e ds xs l⟩
 | .ins C nm ds,v,h=>by unfold Rv at h ⊢;obtain⟨a,dx,xs,r,hq,hl,l⟩:=h;exact⟨a,dx,xs,r,e _ _ hq,hl,aV.Xy e ds xs l⟩
theorem aV.Xy{K:aC}{H H':Hp}(e:aV H H'):∀(ds:List D)(xs:List V),dY K H ds xs→dY K H' ds xs
 | [],xs,h=>by unfold dY at h ⊢;exact h
 | d::ds,xs,h=>by unfold dY at h ⊢;obtain⟨y,ys,r,h1,h2⟩:=h;exact⟨y,ys,r,aV.rv e d y h1,aV.Xy e ds ys h2⟩
end
theorem dY.length{K:aC}{H:Hp}:∀{ds:List D} {xs:List V},dY K H ds xs→xs.length=ds.length
 | [],xs,h=>by unfold dY at h;subst h;rfl
 | d::ds,xs,h=>by unfold dY at h;obtain⟨y,ys,rfl,_,h2⟩:=h;rw[G2,G2,dY.length h2]
theorem dY.get{K:aC}{H:Hp}:∀{ds:List D} {xs:List V} {i:Nat} {d:D},dY K H ds xs→ds[i]?=some d→∃x,xs[i]?=some x∧Rv K H d x
 | [],xs,i,d,h,e=>by simp at e
 | d'::ds,xs,0,d,h,e=>by unfold dY at h;obtain⟨y,ys,rfl,h1,_⟩:=h;simp at e;subst e;exact⟨y,rfl,h1⟩
 | d'::ds,xs,i+1,d,h,e=>by
  unfold dY at h
  obtain⟨y,ys,rfl,_,h2⟩:=h
  obtain⟨x,e1,e2⟩:=dY.get (i:=i) (d:=d) h2 (by simpa using e)
  exact⟨x,by simpa using e1,e2⟩
theorem dY.of{K:aC}{H:Hp}:∀{ds:List D} {xs:List V},xs.length=ds.length→(∀(i:Nat)(d:D)(x:V),ds[i]?=some d→xs[i]?=some x→Rv K H d x)→dY K H ds xs
 | [],xs,hl,_=>by unfold dY;exact List.eq_nil_of_length_eq_zero hl
 | d::ds,[],hl,_=>by simp at hl
 | d::ds,x::xs,hl,h=>by
  unfold dY
  exact⟨x,xs,rfl,h 0 d x rfl rfl,dY.of (by simpa using hl) λi e y h1 h2=>h (i+1) e y (by simpa using h1) (by simpa using h2)⟩
def gJ{α β:Type}(R:α→Fp→β→Prop):List α→Fp→List β→Prop
 | [],A,ys=>None A∧ys=[]
 | d::ds,A,ys=>∃y yt A1 A2,ys=y::yt∧Apart A1 A2∧Is A (fY A1 A2)∧R d A1 y∧gJ R ds A2 yt
section
variable{α β:Type}{R R':α→Fp→β→Prop}
theorem gJ.congr:∀{ds:List α} {A A':Fp} {ys:List β},gJ R ds A ys→Is A A'→gJ R ds A' ys
 | [],A,A',ys,h,e=>⟨λx q=>h.1 x ((e x).mpr q),h.2⟩
 | d::ds,A,A',ys,⟨y,yt,A1,A2,h1,h2,h3,h4⟩,e=>⟨y,yt,A1,A2,h1,h2,λx=>((e x).symm).trans (h3 x),h4⟩
theorem gJ.mono:∀{ds:List α} {A:Fp} {ys:List β},gJ R ds A ys→(∀e B z,(∀x,B x→A x)→R e B z→R' e B z)→gJ R' ds A ys
 | [],A,ys,h,_=>h
 | d::ds,A,ys,⟨y,yt,A1,A2,h1,h2,h3,h4,h5⟩,m=>
  ⟨y,yt,A1,A2,h1,h2,h3,m _ _ _ (λx q=>(h3 x).mpr (.inl q)) h4,h5.mono λe B z hb=>m e B z λx q=>(h3 x).mpr (.inr (hb x q))⟩
theorem gJ.len:∀{ds:List α} {A:Fp} {ys:List β},gJ R ds A ys→ys.length=ds.length
 | [],A,ys,h=>by rw[h.2];rfl
 | d::ds,A,ys,⟨y,yt,A1,A2,h1,h2,h3,h4,h5⟩=>by rw[h1,G2,G2,h5.len]
theorem gJ.focus:∀{ds:List α} {A:Fp} {ys:List β} {i:Nat} {d:α},gJ R ds A ys→ds[i]?=some d→∃y A1 C,ys[i]?=some y∧Apart A1 C∧Is A (fY A1 C)∧R d A1 y ∧
    ∀(R':α→Fp→β→Prop),(∀e B z,(∀x,B x→C x)→R e B z→R' e B z)→∀d' y' IV,Apart IV C→R' d' IV y'→gJ R' (ds.set i d') (fY IV C) (ys.set i y')
  | [],A,ys,i,d,h,e=>by simp at e
  | d0::ds,A,ys,0,d,⟨y,yt,A1,A2,h1,h2,h3,h4,h5⟩,e=>by
    simp at e
    subst e h1
    exact⟨y,A1,A2,rfl,h2,h3,h4,λR' m d' y' IV ap r=>⟨y',yt,IV,A2,rfl,ap,λx=>Iff.rfl,r,h5.mono m⟩⟩
  | d0::ds,A,ys,i+1,d,⟨y,yt,A1,A2,h1,h2,h3,h4,h5⟩,e=>by
    subst h1
    obtain⟨z,B1,C,e1,ap,hA,r,k⟩:=gJ.focus (i:=i) (d:=d) h5 (by simpa using e)
    refine⟨z,B1,fY A1 C,by simpa using e1,?_,?_,r,λR' m d' y' IV ap' r'=>?_⟩
    · intro x hx hc
      rcases hc with hc | hc
      · exact h2 x hc ((hA x).mpr (.inl hx))
      · exact ap x hx hc
    · intro x
      rw[h3 x]
      constructor
      · rintro(q | q)
        · exact .inr (.inl q)
        · rcases(hA x).mp q with q | q
          · exact .inl q
          · exact .inr (.inr q)
      · rintro(q | q | q)
        · exact .inr ((hA x).mpr (.inl q))
        · exact .inl q
        · exact .inr ((hA x).mpr (.inr q))
    · refine⟨y,_,A1,fY IV C,rfl,?_,?_,m _ _ _ (λx q=>.inl q) h4,k R' (λe B z hb=>m e B z λx q=>.inr (hb x q)) d' y' IV (λx q q'=>ap' x q (.inr q')) r'⟩
      · intro x q q'
        rcases q' with q' | q'
        · exact ap' x q' (.inl q)
        · exact h2 x q ((hA x).mpr (.inr q'))
      · intro x
        show (IV x∨A1 x∨C x)↔(A1 x∨IV x∨C x)
        constructor
        · rintro(q | q | q)
          · exact .inr (.inl q)
          · exact .inl q
          · exact .inr (.inr q)
        · rintro(q | q | q)
          · exact .inr (.inl q)
          · exact .inl q
          · exact .inr (.inr q)
theorem gJ.snoc:∀{ds:List α} {A A1:Fp} {ys:List β} {d:α} {y:β},gJ R ds A ys→R d A1 y→Apart A A1→gJ R (ds++[d]) (fY A A1) (ys++[y])
 | [],A,A1,ys,d,y,h,r,ap=>by
  rw[h.2]
  exact⟨y,[],A1,λ_=>False,rfl,λ_ _ z=>z,λx=>⟨λq=>q.elim (λq=>absurd q (h.1 x)) .inl,λq=>q.elim .inr False.elim⟩,r,λ_ z=>z,rfl⟩
 | d0::ds,A,A1,ys,d,y,⟨y0,yt,B1,B2,h1,h2,h3,h4,h5⟩,r,ap=>by
  subst h1
  refine⟨y0,yt++[y],B1,fY B2 A1,rfl,?_,?_,h4,gJ.snoc h5 r λx q=>ap x ((h3 x).mpr (.inr q))⟩
  ·intro x q q'
   rcases q' with q' | q'
   ·exact h2 x q q'
   ·exact ap x ((h3 x).mpr (.inl q)) q'
  ·intro x
   show (A x∨A1 x)↔(B1 x∨B2 x∨A1 x)
   rw[h3 x]
   exact or_assoc
end
mutual
def Ow(K:aC)(H:Hp):D→Fp→V→Prop
 | .non,A,v=>None A∧v=.non
 | .bl b,A,v=>None A∧v=.bl b
 | .int i,A,v=>None A∧v=.int i
 | .str x,A,v=>None A∧v=.str x
 | .lst ds,A,v=>∃a xs B,v=.ref a∧H a=some (.lst xs)∧¬B a∧Is A (fY (·=a) B)∧dI K H ds B xs
 | .tup ds,A,v=>∃a xs,v=.ref a∧pZ K H a xs∧dI K H ds A xs
 | .dk ks ds,A,v=>∃a xs B,v=.ref a∧H a=some (.dK (ks.zip xs))∧ks.length=xs.length∧¬B a∧Is A (fY (·=a) B)∧dI K H ds B xs
 | .dt ks ds,A,v=>∃a xs B,v=.ref a∧H a=some (.dT (ks.zip xs))∧ks.length=xs.length∧¬B a∧Is A (fY (·=a) B)∧dI K H ds B xs
 | .ins C nm ds,A,v=>∃a dx xs B,v=.ref a∧H a=some (.ins C dx (nm.zip xs))∧H dx=some (.own a)∧nm.length=xs.length∧¬B a∧¬B dx∧Is A (fY (λx=>x=a∨x=dx) B)∧dI K H ds B xs
def dI(K:aC)(H:Hp):List D→Fp→List V→Prop
 | [],A,ys=>None A∧ys=[]
 | d::ds,A,ys=>∃y yt A1 A2,ys=y::yt∧Apart A1 A2∧Is A (fY A1 A2)∧Ow K H d A1 y∧dI K H ds A2 yt
end
theorem cC{K:aC}{H:Hp}:∀{ds:List D} {A:Fp} {ys:List V},dI K H ds A ys↔gJ (Ow K H) ds A ys
 | [],A,ys=>by unfold dI gJ;exact Iff.rfl
 | d::ds,A,ys=>by
  unfold dI gJ
  constructor
  ·rintro⟨y,yt,A1,A2,h1,h2,h3,h4,h5⟩;exact⟨y,yt,A1,A2,h1,h2,h3,h4,cC.mp h5⟩
  ·rintro⟨y,yt,A1,A2,h1,h2,h3,h4,h5⟩;exact⟨y,yt,A1,A2,h1,h2,h3,h4,cC.mpr h5⟩
def wR(K:aC)(H H':Hp):Prop:=∀a xs,pZ K H a xs→pZ K H' a xs
theorem aV.tk{K:aC}{H H':Hp}(e:aV H H'):wR K H H':=λ_ _ h=>e.tup h
theorem Ow.congr{K:aC}{H:Hp}{d:D}{A A':Fp}{v:V}(h:Ow K H d A v)(e:Is A A'):Ow K H d A' v:=by
 cases d with
 | non=>unfold Ow at h ⊢;exact⟨λx q=>h.1 x ((e x).mpr q),h.2⟩
 | bl b=>unfold Ow at h ⊢;exact⟨λx q=>h.1 x ((e x).mpr q),h.2⟩
 | int b=>unfold Ow at h ⊢;exact⟨λx q=>h.1 x ((e x).mpr q),h.2⟩
 | str b=>unfold Ow at h ⊢;exact⟨λx q=>h.1 x ((e x).mpr q),h.2⟩
 | lst ds=>unfold Ow at h ⊢;obtain⟨a,xs,B,h1,h2,h3,h4,h5⟩:=h;exact⟨a,xs,B,h1,h2,h3,λx=>(e x).symm.trans (h4 x),h5⟩
 | tup ds=>unfold Ow at h ⊢;obtain⟨a,xs,h1,h2,h3⟩:=h;exact⟨a,xs,h1,h2,cC.mpr ((cC.mp h3).congr e)⟩
 | dk ks ds=>unfold Ow at h ⊢;obtain⟨a,xs,B,h1,h2,h2',h3,h4,h5⟩:=h;exact⟨a,xs,B,h1,h2,h2',h3,λx=>(e x).symm.trans (h4 x),h5⟩
 | dt ks ds=>unfold Ow at h ⊢;obtain⟨a,xs,B,h1,h2,h2',h3,h4,h5⟩:=h;exact⟨a,xs,B,h1,h2,h2',h3,λx=>(e x).symm.trans (h4 x),h5⟩
 | ins C nm ds=>unfold Ow at h ⊢;obtain⟨a,dx,xs,B,h1,h2,h2',h3,h3',h3'',h4,h5⟩:=h;exact⟨a,dx,xs,B,h1,h2,h2',h3,h3',h3'',λx=>(e x).symm.trans (h4 x),h5⟩
mutual
theorem Ow.frame{K:aC}{H H':Hp}(t:wR K H H'):∀(d:D)(A:Fp)(v:V),Ow K H d A v→(∀a,A a→H' a=H a)→Ow K H' d A v
 | .non,A,v,h,f=>by unfold Ow at h ⊢;exact h
 | .bl _,A,v,h,f=>by unfold Ow at h ⊢;exact h
 | .int _,A,v,h,f=>by unfold Ow at h ⊢;exact h
 | .str _,A,v,h,f=>by unfold Ow at h ⊢;exact h
 | .lst ds,A,v,h,f=>by
  unfold Ow at h ⊢
  obtain⟨a,xs,B,h1,h2,h3,h4,h5⟩:=h
  exact⟨a,xs,B,h1,(f a ((h4 a).mpr (.inl rfl))).trans h2,h3,h4,dI.frame t ds B xs h5 λb q=>f b ((h4 b).mpr (.inr q))⟩
 | .tup ds,A,v,h,f=>by unfold Ow at h ⊢;obtain⟨a,xs,h1,h2,h3⟩:=h;exact⟨a,xs,h1,t _ _ h2,dI.frame t ds A xs h3 f⟩
 | .dk ks ds,A,v,h,f=>by
  unfold Ow at h ⊢
  obtain⟨a,xs,B,h1,h2,h2',h3,h4,h5⟩:=h
  exact⟨a,xs,B,h1,(f a ((h4 a).mpr (.inl rfl))).trans h2,h2',h3,h4,dI.frame t ds B xs h5 λb q=>f b ((h4 b).mpr (.inr q))⟩
 | .dt ks ds,A,v,h,f=>by
  unfold Ow at h ⊢
  obtain⟨a,xs,B,h1,h2,h2',h3,h4,h5⟩:=h
  exact⟨a,xs,B,h1,(f a ((h4 a).mpr (.inl rfl))).trans h2,h2',h3,h4,dI.frame t ds B xs h5 λb q=>f b ((h4 b).mpr (.inr q))⟩
 | .ins C nm ds,A,v,h,f=>by
  unfold Ow at h ⊢
  obtain⟨a,dx,xs,B,h1,h2,h2',h3,h3',h3'',h4,h5⟩:=h
  exact⟨a,dx,xs,B,h1,(f a ((h4 a).mpr (.inl (.inl rfl)))).trans h2,(f dx ((h4 dx).mpr (.inl (.inr rfl)))).trans h2',h3,h3',h3'',h4,dI.frame t ds B xs h5 λb q=>f b ((h4 b).mpr (.inr q))⟩
theorem dI.frame{K:aC}{H H':Hp}(t:wR K H H'):∀(ds:List D)(A:Fp)(ys:List V),dI K H ds A ys→(∀a,A a→H' a=H a)→dI K H' ds A ys
 | [],A,ys,h,f=>by unfold dI at h ⊢;exact h
 | d::ds,A,ys,h,f=>by
  unfold dI at h ⊢
  obtain⟨y,yt,A1,A2,h1,h2,h3,h4,h5⟩:=h
  exact⟨y,yt,A1,A2,h1,h2,h3,Ow.frame t d A1 y h4 λb q=>f b ((h3 b).mpr (.inl q)),dI.frame t ds A2 yt h5 λb q=>f b ((h3 b).mpr (.inr q))⟩
end
mutual
theorem Ow.rv{K:aC}{H:Hp}:∀(d:D)(A:Fp)(v:V),Ow K H d A v→Rv K H d v
 | .non,A,v,h=>by unfold Ow at h;unfold Rv;exact h.2
 | .bl _,A,v,h=>by unfold Ow at h;unfold Rv;exact h.2
 | .int _,A,v,h=>by unfold Ow at h;unfold Rv;exact h.2
 | .str _,A,v,h=>by unfold Ow at h;unfold Rv;exact h.2
 | .lst ds,A,v,h=>by unfold Ow at h;unfold Rv;obtain⟨a,xs,B,h1,h2,h3,h4,h5⟩:=h;exact⟨a,xs,h1,jC.of h2,dI.rv ds B xs h5⟩
 | .tup ds,A,v,h=>by unfold Ow at h;unfold Rv;obtain⟨a,xs,h1,h2,h3⟩:=h;exact⟨a,xs,h1,h2,dI.rv ds A xs h3⟩
 | .dk ks ds,A,v,h=>by unfold Ow at h;unfold Rv;obtain⟨a,xs,B,h1,h2,h2',h3,h4,h5⟩:=h;exact⟨a,xs,h1,.inl h2,h2',dI.rv ds B xs h5⟩
 | .dt ks ds,A,v,h=>by unfold Ow at h;unfold Rv;obtain⟨a,xs,B,h1,h2,h2',h3,h4,h5⟩:=h;exact⟨a,xs,h1,.inl h2,h2',dI.rv ds B xs h5⟩
 | .ins C nm ds,A,v,h=>by unfold Ow at h;unfold Rv;obtain⟨a,dx,xs,B,h1,h2,h2',h3,h3',h3'',h4,h5⟩:=h;exact⟨a,dx,xs,h1,h2,h3,dI.rv ds B xs h5⟩
theorem dI.rv{K:aC}{H:Hp}:∀(ds:List D)(A:Fp)(ys:List V),dI K H ds A ys→dY K H ds ys
 | [],A,ys,h=>by unfold dI at h;unfold dY;exact h.2
 | d::ds,A,ys,h=>by unfold dI at h;unfold dY;obtain⟨y,yt,A1,A2,h1,h2,h3,h4,h5⟩:=h;exact⟨y,yt,h1,Ow.rv d A1 y h4,dI.rv ds A2 yt h5⟩
end
def rG(H:Hp)(a:Addr):Prop:=(∃o,H a=some o)∧vI H a
mutual
theorem Ow.cells{K:aC}{H:Hp}:∀(d:D)(A:Fp)(v:V),Ow K H d A v→∀a,A a→rG H a
 | .non,A,v,h,a,q=>by unfold Ow at h;exact absurd q (h.1 a)
 | .bl _,A,v,h,a,q=>by unfold Ow at h;exact absurd q (h.1 a)
 | .int _,A,v,h,a,q=>by unfold Ow at h;exact absurd q (h.1 a)
 | .str _,A,v,h,a,q=>by unfold Ow at h;exact absurd q (h.1 a)
 | .lst ds,A,v,h,a,q=>by
  unfold Ow at h
  obtain⟨p,xs,B,h1,h2,h3,h4,h5⟩:=h
  rcases(h4 a).mp q with z | z
  ·cases z;exact⟨⟨_,h2⟩,mO h2⟩
  ·exact dI.cells ds B xs h5 a z
 | .tup ds,A,v,h,a,q=>by unfold Ow at h;obtain⟨p,xs,h1,h2,h3⟩:=h;exact dI.cells ds A xs h3 a q
 | .dk ks ds,A,v,h,a,q=>by
  unfold Ow at h
  obtain⟨p,xs,B,h1,h2,h2',h3,h4,h5⟩:=h
  rcases(h4 a).mp q with z | z
  ·cases z;exact⟨⟨_,h2⟩,Bh h2⟩
  ·exact dI.cells ds B xs h5 a z
 | .dt ks ds,A,v,h,a,q=>by
  unfold Ow at h
  obtain⟨p,xs,B,h1,h2,h2',h3,h4,h5⟩:=h
  rcases(h4 a).mp q with z | z
  ·cases z;exact⟨⟨_,h2⟩,λys e=>(by rw[h2]at e;cases e),λo ys e=>(by rw[h2]at e;cases e)⟩
  ·exact dI.cells ds B xs h5 a z
 | .ins C nm ds,A,v,h,a,q=>by
  unfold Ow at h
  obtain⟨p,dx,xs,B,h1,h2,h2',h3,h3',h3'',h4,h5⟩:=h
  rcases(h4 a).mp q with (z | z) | z
  ·cases z;exact⟨⟨_,h2⟩,λys e=>(by rw[h2]at e;cases e),λo ys e=>(by rw[h2]at e;cases e)⟩
  ·cases z;exact⟨⟨_,h2'⟩,λys e=>(by rw[h2']at e;cases e),λo ys e=>(by rw[h2']at e;cases e)⟩
  ·exact dI.cells ds B xs h5 a z
theorem dI.cells{K:aC}{H:Hp}:∀(ds:List D)(A:Fp)(ys:List V),dI K H ds A ys→∀a,A a→rG H a
 | [],A,ys,h,a,q=>by unfold dI at h;exact absurd q (h.1 a)
 | d::ds,A,ys,h,a,q=>by
  unfold dI at h
  obtain⟨y,yt,A1,A2,h1,h2,h3,h4,h5⟩:=h
  rcases(h3 a).mp q with z | z
  ·exact Ow.cells d A1 y h4 a z
  ·exact dI.cells ds A2 yt h5 a z
end
mutual
def D.jA:D→Bool
  | .non=>true | .bl _=>true | .int _=>true | .str _=>true
  | .tup ds=>D.fG ds
  | _=>false
def D.fG:List D→Bool
  | []=>true
  | d::ds=>D.jA d&&D.fG ds
end
abbrev nil:Fp:=λ_=>False
mutual
theorem uE{K:aC}{H:Hp}:∀(d:D)(v:V),d.jA=true→Rv K H d v→Ow K H d nil v
 | .non,v,_,h=>by unfold Rv at h;unfold Ow;exact⟨λ_ z=>z,h⟩
 | .bl _,v,_,h=>by unfold Rv at h;unfold Ow;exact⟨λ_ z=>z,h⟩
 | .int _,v,_,h=>by unfold Rv at h;unfold Ow;exact⟨λ_ z=>z,h⟩
 | .str _,v,_,h=>by unfold Rv at h;unfold Ow;exact⟨λ_ z=>z,h⟩
 | .tup ds,v,i,h=>by unfold D.jA at i;unfold Rv at h;unfold Ow;obtain⟨a,xs,h1,h2,h3⟩:=h;exact⟨a,xs,h1,h2,Je ds xs i h3⟩
 | .lst ds,v,i,h=>by unfold D.jA at i;cases i
 | .dk _ ds,v,i,h=>by unfold D.jA at i;cases i
 | .dt _ ds,v,i,h=>by unfold D.jA at i;cases i
 | .ins _ _ ds,v,i,h=>by unfold D.jA at i;cases i
theorem Je{K:aC}{H:Hp}:∀(ds:List D)(ys:List V),D.fG ds=true→dY K H ds ys→dI K H ds nil ys
 | [],ys,_,h=>by unfold dY at h;unfold dI;exact⟨λ_ z=>z,h⟩
 | d::ds,ys,i,h=>by
  unfold D.fG at i
  rw[K1]at i
  unfold dY at h
  unfold dI
  obtain⟨y,yt,h1,h2,h3⟩:=h
  exact⟨y,yt,nil,nil,h1,λ_ z _=>z,λx=>⟨False.elim,λz=>z.elim id id⟩,uE d y i.1 h2,Je ds yt i.2 h3⟩
end
open Classical in
noncomputable def out(H:Hp)(A:Fp):Hp:=λa=>if A a then none else H a
theorem Jf{H:Hp}{A:Fp}{a:Addr}(h:¬A a):out H A a=H a:=by unfold out;rw[if_neg h]
theorem cH{H:Hp}{A:Fp}{a:Addr}{o:HO}:out H A a=some o↔¬A a∧H a=some o:=by
 unfold out
 split
 ·rename_i h;exact⟨λz=>(by cases z),λz=>absurd h z.1⟩
 ·rename_i h;exact⟨λz=>⟨h,z⟩,λz=>z.2⟩
theorem mZ(H:Hp)(A:Fp):aV (out H A) H:=λb o h=>(cH.mp h).2
theorem Zf{K:aC}{H:Hp}{A:Fp}(h:∀a,A a→vI H a):wR K H (out H A):=λa xs q=>by
 rcases q with (q | ⟨o,q⟩) | q
 ·exact .inl (.inl (cH.mpr ⟨λz=>(h a z).1 _ q,q⟩))
 ·exact .inl (.inr ⟨o,cH.mpr ⟨λz=>(h a z).2 _ _ q,q⟩⟩)
 ·exact .inr q
theorem Ow.out{K:aC}{H:Hp}{d:D}{A A':Fp}{v:V}(h:Ow K H d A' v)(ap:Apart A' A)(c:∀a,A a→vI H a):Rv K (out H A) d v:=
 Ow.rv d A' v (Ow.frame (Zf c) d A' v h λa q=>Jf (ap a q))
end L2


namespace L2
open PySem PySem.Spec PyProof.Rows
abbrev DE:=List (Option D)
abbrev FE:=DE→Option D
abbrev FA:=DE→Option (List D)
abbrev FT:=DE→Option Bool
def pY(K:aC)(H:Hp)(e:DE)(σ:St):Prop:=∀(i:Nat)(d:D),e[i]?=some (some d)→∃v,σ[i]?=some (some v)∧Rv K H d v
theorem pY.same{K:aC}{H H':Hp}{e:DE}{σ:St}(h:pY K H e σ)(s:aV H H'):pY K H' e σ:=λi d q=>let ⟨v,h1,h2⟩:=h i d q;⟨v,h1,s.rv _ _ h2⟩
structure Zn(K:aC)(N:Fp)(Z H:Hp):Prop where
 sm:aV Z H
 tk:wR K H Z
 no:∀a,N a→Z a=none∧¬H a=none
theorem Zn.self(K:aC)(H:Hp):Zn K nil H H:=⟨aV.refl _,λ_ _ h=>h,λ_ z=>z.elim⟩
theorem wR.trans{K:aC}{H H1 H2:Hp}(a:wR K H H1)(b:wR K H1 H2):wR K H H2:=λp xs h=>b p xs (a p xs h)
theorem Ow.same{K:aC}{H H':Hp}{d:D}{A:Fp}{v:V}(h:Ow K H d A v)(s:aV H H'):Ow K H' d A v:=
 Ow.frame s.tk d A v h λa q=>by
  obtain⟨⟨o,e⟩,_⟩:=Ow.cells d A v h a q
  rw[e];exact s a o e
theorem dI.same{K:aC}{H H':Hp}{ds:List D}{A:Fp}{vs:List V}(h:dI K H ds A vs)(s:aV H H'):dI K H' ds A vs:=
 dI.frame s.tk ds A vs h λa q=>by
  obtain⟨⟨o,e⟩,_⟩:=dI.cells ds A vs h a q
  rw[e];exact s a o e
def Eh(K:aC)(H H':Hp)(d:D)(v:V):Prop:=∃A,Ow K H' d A v∧∀a,A a→H a=none
def Ep(K:aC)(H H':Hp)(ds:List D)(vs:List V):Prop:=∃A,dI K H' ds A vs∧∀a,A a→H a=none
theorem Eh.rv{K:aC}{H H':Hp}{d:D}{v:V}(h:Eh K H H' d v):Rv K H' d v:=let ⟨A,o,_⟩:=h;Ow.rv d A v o
theorem Ep.rv{K:aC}{H H':Hp}{ds:List D}{vs:List V}(h:Ep K H H' ds vs):dY K H' ds vs:=let ⟨A,o,_⟩:=h;dI.rv ds A vs o
theorem Eh.same{K:aC}{H H' H2:Hp}{d:D}{v:V}(h:Eh K H H' d v)(s:aV H' H2):Eh K H H2 d v:=let ⟨A,o,f⟩:=h;⟨A,o.same s,f⟩
theorem Eh.back{K:aC}{H0 H H':Hp}{d:D}{v:V}(h:Eh K H H' d v)(s:aV H0 H):Eh K H0 H' d v:=let ⟨A,o,f⟩:=h;⟨A,o,λa q=>s.free (f a q)⟩
theorem Eh.jA{K:aC}{H H':Hp}{d:D}{v:V}(i:d.jA=true)(h:Rv K H' d v):Eh K H H' d v:=⟨nil,uE d v i h,λ_ z=>z.elim⟩
theorem Ep.fG{K:aC}{H H':Hp}{ds:List D}{vs:List V}(i:D.fG ds=true)(h:dY K H' ds vs):Ep K H H' ds vs:=⟨nil,Je ds vs i h,λ_ z=>z.elim⟩
open Classical in
noncomputable def Jg(Z H H':Hp):Hp:=λa=>if H a=none then H' a else Z a
theorem vJ{Z H H':Hp}{a:Addr}(h:H a=none):Jg Z H H' a=H' a:=by unfold Jg;rw[if_pos h]
theorem Bk{Z H H':Hp}{a:Addr}(h:¬H a=none):Jg Z H H' a=Z a:=by unfold Jg;rw[if_neg h]
theorem wU{K:aC}{N:Fp}{Z H H':Hp}(z:Zn K N Z H):aV Z (Jg Z H H'):=λb o e=>by
 rw[Bk (by rw[z.sm b o e];intro q;cases q)];exact e
theorem Jh{K:aC}{N:Fp}{Z H H':Hp}(z:Zn K N Z H)(s:aV H H'):Zn K N (Jg Z H H') H' where
  sm:=λb o e=>by
    by_cases c:H b=none
    · rw[vJ c]at e;exact e
    · rw[Bk c]at e;exact s b o (z.sm b o e)
  tk:=λa xs h=>by
    by_cases c:H a=none
    · rcases h with (h | ⟨o,h⟩) | h
      · exact .inl (.inl (by rw[vJ c];exact h))
      · exact .inl (.inr ⟨o,by rw[vJ c];exact h⟩)
      · exact .inr h
    · have q:pZ K H a xs:=by
        rcases h with (h | ⟨o,h⟩) | h
        · cases e:H a with
          | none=>exact absurd e c
          | some o=>have:=s a o e;rw[h]at this;cases this;exact .inl (.inl e)
        · cases e:H a with
          | none=>exact absurd e c
          | some o=>have:=s a o e;rw[h]at this;cases this;exact .inl (.inr ⟨_,e⟩)
        · exact .inr h
      exact(wU z).tup (z.tk a xs q)
  no:=λa q=>⟨by rw[Bk (z.no a q).2];exact(z.no a q).1,λh=>(z.no a q).2 (s.free h)⟩
theorem Eh.zone{K:aC}{N:Fp}{Z H H':Hp}{d:D}{v:V}(h:Eh K H H' d v)(z:Zn K N Z H)(s:aV H H'):Rv K (Jg Z H H') d v:=by
 obtain⟨A,o,f⟩:=h
 exact Ow.rv d A v (Ow.frame (Jh z s).tk d A v o λa q=>vJ (f a q))
def zQ(K:aC)(t:TE)(f:FE):Prop:=∀{N:Fp}(σ:St)(H Z:Hp)(e:DE)(d:D)(Q:VK),Zn K N Z H→pY K Z e σ→f e=some d →
 (∀v H' Z',aV H H'→aV Z Z'→Zn K N Z' H'→Rv K Z' d v→Q v H')→t σ H Q
def Bl(K:aC)(t:TE)(f:FE):Prop:=∀(σ:St)(H:Hp)(e:DE)(d:D)(Q:VK),pY K H e σ→f e=some d →
 (∀v H',aV H H'→Eh K H H' d v→Q v H')→t σ H Q
def Pk(K:aC)(t:TT)(f:FT):Prop:=∀(σ:St)(H:Hp)(e:DE)(b:Bool)(Q:Bool→Hp→Prop),pY K H e σ→f e=some b→(∀H',aV H H'→Q b H')→t σ H Q
def jx(K:aC)(t:TA)(f:FA):Prop:=∀{N:Fp}(σ:St)(H Z:Hp)(e:DE)(ds:List D)(Q:List V→Hp→Prop),Zn K N Z H→pY K Z e σ→f e=some ds →
 (∀vs H' Z',aV H H'→aV Z Z'→Zn K N Z' H'→dY K Z' ds vs→Q vs H')→t σ H Q
def jy(K:aC)(t:TA)(f:FA):Prop:=∀(σ:St)(H:Hp)(e:DE)(ds:List D)(Q:List V→Hp→Prop),pY K H e σ→f e=some ds →
 (∀vs H',aV H H'→Ep K H H' ds vs→Q vs H')→t σ H Q
theorem Bl.r{K:aC}{t:TE}{f:FE}(h:Bl K t f):zQ K t f:=λσ H Z e d Q z r q k=>
 h σ H e d Q (r.same z.sm) q λv H' s n=>k v H' (Jg Z H H') s (wU z) (Jh z s) (n.zone z s)
def fO(f:FE):FE:=λe=>(f e).bind λd=>if d.jA=true then some d else none
theorem Fv{f:FE}{e:DE}{d:D}:fO f e=some d↔f e=some d∧d.jA=true:=by
 unfold fO
 cases q:f e with
 | none=>simp
 | some a=>
  simp only[C4]
  split
  ·rename_i h;constructor
   ·intro z;cases z;exact⟨rfl,h⟩
   ·rintro⟨z,_⟩;exact z
  ·rename_i h;constructor
   ·intro z;cases z
   ·rintro⟨z,z2⟩;cases z;exact absurd z2 h
theorem zQ.n{K:aC}{t:TE}{f:FE}(h:zQ K t f):Bl K t (fO f):=λσ H e d Q r q k=>by
 obtain⟨q1,q2⟩:=Fv.mp q
 exact h σ H H e d Q (Zn.self K H) r q1 λv H' Z' s1 s2 z' rv=>k v H' s1 (.jA q2 (z'.sm.rv _ _ rv))
def aF(i:Nat):FE:=λe=>(e[i]?).getD none
theorem bj{K:aC}(i:Nat):zQ K (iK i) (aF i):=λσ H Z e d Q z r q k=>by
 have e1:e[i]?=some (some d):=by
  unfold aF at q
  cases h:e[i]? with
  | none=>rw[h]at q;cases q
  | some o=>rw[h]at q;cases q;rfl
 obtain⟨v,h1,h2⟩:=r i d e1
 exact⟨v,h1,k v H Z (aV.refl _) (aV.refl _) z h2⟩
def fC(d:D):FE:=λ_=>some d
theorem Zg{K:aC}(i:Int):Bl K (tC (.int i)) (fC (.int i)):=λσ H e d Q r q k=>by cases q;exact k _ H (aV.refl _) (.jA rfl (by unfold Rv;rfl))
theorem sr{K:aC}(i:Bool):Bl K (tC (.bl i)) (fC (.bl i)):=λσ H e d Q r q k=>by cases q;exact k _ H (aV.refl _) (.jA rfl (by unfold Rv;rfl))
theorem bu{K:aC}:Bl K (tC .non) (fC .non):=λσ H e d Q r q k=>by cases q;exact k _ H (aV.refl _) (.jA rfl (by unfold Rv;rfl))
theorem bw{K:aC}(i:Str):Bl K (tC (.str i)) (fC (.str i)):=λσ H e d Q r q k=>by cases q;exact k _ H (aV.refl _) (.jA rfl (by unfold Rv;rfl))
def f2(φ:D→D→Option D)(f g:FE):FE:=λe=>(f e).bind λa=>(g e).bind λb=>φ a b
theorem zR{φ:D→D→Option D}{f g:FE}{e:DE}{d:D}(h:f2 φ f g e=some d):∃a b,f e=some a∧g e=some b∧φ a b=some d:=by
 unfold f2 at h
 obtain⟨a,h1,h2⟩:=bL h
 obtain⟨b,h3,h4⟩:=bL h2
 exact⟨a,b,h1,h3,h4⟩
def OpD(K:aC)(r:R2)(φ:D→D→Option D):Prop:=∀{N:Fp}(x y:V)(H Z:Hp)(a b d:D)(Q:VK),Zn K N Z H→Rv K Z a x→Rv K Z b y→φ a b=some d →
 (∀v H' Z',aV H H'→aV Z Z'→Zn K N Z' H'→Rv K Z' d v→Q v H')→r x y H Q
def Pn(K:aC)(r:R2)(φ:D→D→Option D):Prop:=∀(x y:V)(H:Hp)(a b d:D)(Q:VK),Rv K H a x→Rv K H b y→φ a b=some d →
 (∀v H',aV H H'→Eh K H H' d v→Q v H')→r x y H Q
theorem su{K:aC}{r:R2}{φ:D→D→Option D}{ta tb:TE}{f g:FE}(o:OpD K r φ)(ha:zQ K ta f)(hb:zQ K tb g):zQ K (Am r ta tb) (f2 φ f g):=λσ H Z e d Q z re q k=>by
 obtain⟨a,b,h1,h2,h3⟩:=zR q
 refine ha σ H Z e a _ z re h1 λx H1 Z1 s1 t1 z1 rx=>hb σ H1 Z1 e b _ z1 (re.same t1) h2 λy H2 Z2 s2 t2 z2 ry=>?_
 exact o x y H2 Z2 a b d Q z2 (t2.rv _ _ rx) ry h3 λv H3 Z3 s3 t3 z3 rv=>k v H3 Z3 (s1.trans (s2.trans s3)) (t1.trans (t2.trans t3)) z3 rv
theorem Zh{K:aC}{r:R2}{φ:D→D→Option D}{ta tb:TE}{f g:FE}(o:Pn K r φ)(ha:zQ K ta f)(hb:zQ K tb g):Bl K (Am r ta tb) (f2 φ f g):=λσ H e d Q re q k=>by
 obtain⟨a,b,h1,h2,h3⟩:=zR q
 refine ha σ H H e a _ (Zn.self K H) re h1 λx H1 Z1 s1 t1 z1 rx=>hb σ H1 Z1 e b _ z1 (re.same t1) h2 λy H2 Z2 s2 t2 z2 ry=>?_
 exact o x y H2 a b d Q (z2.sm.rv _ _ (t2.rv _ _ rx)) (z2.sm.rv _ _ ry) h3 λv H3 s3 n=>k v H3 (s1.trans (s2.trans s3)) (n.back (s1.trans s2))
def Bm(C:Int→Int→Prop) [∀i j,Decidable (C i j)] (g:Int→Int→D):D→D→Option D
 | .int i,.int j=>if C i j then some (g i j)else none
 | _,_=>none
theorem Bo{C:Int→Int→Prop} [∀i j,Decidable (C i j)] {g:Int→Int→D} {a b d:D} (h:Bm C g a b=some d):∃i j,a=.int i∧b=.int j∧C i j∧d=g i j:=by
 unfold Bm at h
 split at h
 ·split at h
  ·rename_i i j c;cases h;exact⟨i,j,rfl,rfl,c,rfl⟩
  ·cases h
 ·cases h
theorem Ji{K:aC}{C:Int→Int→Prop} [∀i j,Decidable (C i j)] {C':Int→Int→Prop} (hC:∀i j,C i j→C' i j) {g:Int→Int→Int}:Pn K (rI C' λi j=>.int (g i j)) (Bm C λi j=>.int (g i j)):=λx y H a b d Q ra rb q k=>by
 obtain⟨i,j,rfl,rfl,c,rfl⟩:=Bo q
 unfold Rv at ra rb
 exact⟨i,j,ra,rb,hC i j c,k _ H (aV.refl _) (.jA rfl (by unfold Rv;rfl))⟩
theorem NB{K:aC}{g:Int→Int→Int}:Pn K (Vm λi j=>.int (g i j)) (Bm (λ_ _=>True) λi j=>.int (g i j)):=λx y H a b d Q ra rb q k=>by
 obtain⟨i,j,rfl,rfl,c,rfl⟩:=Bo q
 unfold Rv at ra rb
 exact⟨i,j,ra,rb,k _ H (aV.refl _) (.jA rfl (by unfold Rv;rfl))⟩
theorem iI{K:aC}{g:Int→Int→Bool}:Pn K (Vm λi j=>.bl (g i j)) (Bm (λ_ _=>True) λi j=>.bl (g i j)):=λx y H a b d Q ra rb q k=>by
 obtain⟨i,j,rfl,rfl,c,rfl⟩:=Bo q
 unfold Rv at ra rb
 exact⟨i,j,ra,rb,k _ H (aV.refl _) (.jA rfl (by unfold Rv;rfl))⟩
def aN:FA:=λ_=>some []
def aA(f:FE)(fs:FA):FA:=λe=>(f e).bind λa=>(fs e).bind λr=>some (a::r)
theorem zF{f:FE}{fs:FA}{e:DE}{ds:List D}(h:aA f fs e=some ds):∃a r,f e=some a∧fs e=some r∧ds=a::r:=by
 unfold aA at h
 obtain⟨a,h1,h2⟩:=bL h
 obtain⟨b,h3,h4⟩:=bL h2
 cases h4
 exact⟨a,b,h1,h3,rfl⟩
theorem cg{K:aC}:jx K kO aN:=λσ H Z e ds Q z re q k=>by cases q;exact k [] H Z (aV.refl _) (aV.refl _) z (by unfold dY;rfl)
theorem NK{K:aC}{te:TE}{t:TA}{f:FE}{fs:FA}(h:zQ K te f)(hs:jx K t fs):jx K (dM te t) (aA f fs):=λσ H Z e ds Q z re q k=>by
 obtain⟨a,r,h1,h2,rfl⟩:=zF q
 refine h σ H Z e a _ z re h1 λx H1 Z1 s1 t1 z1 rx=>hs σ H1 Z1 e r _ z1 (re.same t1) h2 λvs H2 Z2 s2 t2 z2 rs=>?_
 exact k _ H2 Z2 (s1.trans s2) (t1.trans t2) z2 (by unfold dY;exact⟨x,vs,rfl,t2.rv _ _ rx,rs⟩)
theorem cu{K:aC}:jy K kO aN:=λσ H e ds Q re q k=>by cases q;exact k [] H (aV.refl _) (.fG rfl (by unfold dY;rfl))
theorem NP{K:aC}{te:TE}{t:TA}{f:FE}{fs:FA}(h:Bl K te f)(hs:jy K t fs):jy K (dM te t) (aA f fs):=λσ H e ds Q re q k=>by
 obtain⟨a,r,h1,h2,rfl⟩:=zF q
 refine h σ H e a _ re h1 λx H1 s1 n1=>hs σ H1 e r _ (re.same s1) h2 λvs H2 s2 n2=>?_
 refine k _ H2 (s1.trans s2) ?_
 obtain⟨A,oA,fA⟩:=n1
 obtain⟨B,oB,fB⟩:=n2
 refine⟨fY A B,?_,λp q=>q.elim (fA p) λz=>s1.free (fB p z)⟩
 unfold dI
 refine⟨x,vs,A,B,rfl,λp qa qb=>?_,λ_=>Iff.rfl,oA.same s2,oB⟩
 obtain⟨⟨o,e1⟩,_⟩:=Ow.cells _ _ _ oA p qa
 rw[fB p qb]at e1;cases e1
def cap(n:Nat)(d:D):Option D:=if n≤100000 then some d else none
theorem Bp{n:Nat}{d d':D}(h:cap n d=some d'):n≤100000∧d'=d:=by
 unfold cap at h
 split at h
 ·rename_i c;cases h;exact⟨c,rfl⟩
 ·cases h
theorem tY{n:Nat}(h:n≤100000):n≤sizeLine:=by rw[sizeLine_eq];omega
theorem Fw{n:Nat}(h:n≤100000):n<sizeLine:=by rw[sizeLine_eq];omega
def oX(fs:FA):FE:=λe=>(fs e).bind λds=>cap ds.length (.lst ds)
def pG(fs:FA):FE:=λe=>(fs e).bind λds=>cap ds.length (.tup ds)
theorem zT{K:aC}{H H1:Hp}{ds:List D}{xs:List V}{p:Addr}(s:aV H H1)(n:Ep K H H1 ds xs)(hp:H1 p=none):Eh K H (upd H1 p (.lst xs)) (.lst ds) (.ref p):=by
 obtain⟨A,o,f⟩:=n
 refine⟨fY (·=p) A,?_,λa q=>q.elim (λz=>by cases z;exact s.free hp) (f a)⟩
 unfold Ow
 refine⟨p,xs,A,rfl,bO,λz=>?_,λ_=>Iff.rfl,o.same (bZ hp _)⟩
 obtain⟨⟨u,e⟩,_⟩:=dI.cells _ _ _ o p z
 rw[hp]at e;cases e
theorem Uc{K:aC}{H H1:Hp}{ds:List D}{xs:List V}{p:Addr}(n:Ep K H H1 ds xs)(hp:H1 p=none):Eh K H (upd H1 p (.tup xs)) (.tup ds) (.ref p):=by
 obtain⟨A,o,f⟩:=n
 refine⟨A,?_,f⟩
 unfold Ow
 exact⟨p,xs,rfl,pZ.of bO,o.same (bZ hp _)⟩
theorem cz{K:aC}{t:TA}{fs:FA}(h:jy K t fs):Bl K (Io t) (oX fs):=λσ H e d Q re q k=>by
 unfold oX at q
 obtain⟨ds,h1,h2⟩:=bL q
 obtain⟨hc,rfl⟩:=Bp h2
 refine h σ H e ds _ re h1 λxs H1 s1 n=>⟨tY (by rw[n.rv.length];exact hc),λp hp=>?_⟩
 exact k _ _ (s1.trans (bZ hp _)) (zT s1 n hp)
theorem dg{K:aC}{t:TA}{fs:FA}(h:jy K t fs):Bl K (Vq t) (pG fs):=λσ H e d Q re q k=>by
 unfold pG at q
 obtain⟨ds,h1,h2⟩:=bL q
 obtain⟨hc,rfl⟩:=Bp h2
 refine h σ H e ds _ re h1 λxs H1 s1 n=>⟨tY (by rw[n.rv.length];exact hc),λp hp=>?_⟩
 exact k _ _ (s1.trans (bZ hp _)) (Uc n hp)
theorem Zi{K:aC}{N:Fp}{Z H:Hp}{p:Addr}{o:HO}(z:Zn K N Z H)(hp:H p=none):aV Z (upd Z p o)∧Zn K N (upd Z p o) (upd H p o):=by
 have hz:Z p=none:=z.sm.free hp
 refine⟨bZ hz o,⟨λb u e=>?_,λa xs h=>?_,λa q=>?_⟩⟩
 ·by_cases c:b=p
  ·subst c;rw[bO]at e;rw[bO];exact e
  ·rw[bY c]at e;rw[bY c];exact z.sm b u e
 ·by_cases c:a=p
  ·subst c
   rcases h with (h | ⟨u,h⟩) | h
   ·rw[bO]at h;exact .inl (.inl (by rw[bO];exact h))
   ·rw[bO]at h;exact .inl (.inr ⟨u,by rw[bO];exact h⟩)
   ·exact .inr h
  ·have q:pZ K H a xs:=by
    rcases h with (h | ⟨u,h⟩) | h
    ·rw[bY c]at h;exact .inl (.inl h)
    ·rw[bY c]at h;exact .inl (.inr ⟨u,h⟩)
    ·exact .inr h
   exact(bZ hz o).tup (z.tk a xs q)
 ·have c:a≠p:=λz'=>(z.no a q).2 (by rw[z'];exact hp)
  rw[bY c,bY c];exact z.no a q
theorem dh{K:aC}{t:TA}{fs:FA}(h:jx K t fs):zQ K (Io t) (oX fs):=λσ H Z e d Q z re q k=>by
 unfold oX at q
 obtain⟨ds,h1,h2⟩:=bL q
 obtain⟨hc,rfl⟩:=Bp h2
 refine h σ H Z e ds _ z re h1 λxs H1 Z1 s1 t1 z1 rs=>⟨tY (by rw[rs.length];exact hc),λp hp=>?_⟩
 obtain⟨a1,a2⟩:=Zi (o:=.lst xs) z1 hp
 exact k _ _ _ (s1.trans (bZ hp _)) (t1.trans a1) a2 (by unfold Rv;exact⟨p,xs,rfl,jC.of bO,a1.Xy _ _ rs⟩)
end L2


namespace L2
open PySem PySem.Spec PyProof.Rows
structure XR(K:aC)(X:Cx)(e:Expr)(t:TE)(f:FE):Prop where
 hk:X.K=K
 pe:PE X e t
 ev:zQ K t f
structure XN(K:aC)(X:Cx)(e:Expr)(t:TE)(f:FE):Prop where
 hk:X.K=K
 pe:PE X e t
 ev:Bl K t f
structure XT(K:aC)(X:Cx)(e:Expr)(t:TT)(f:FT):Prop where
 hk:X.K=K
 pt:PT X e t
 ev:Pk K t f
structure XW(K:aC)(X:Cx)(e:Expr)(t:TT)(f:FT):Prop where
 hk:X.K=K
 pw:PW X e t
 ev:Pk K t f
structure XA(K:aC)(X:Cx)(es:List Expr)(t:TA)(f:FA):Prop where
 hk:X.K=K
 pa:PA X es t
 ev:jx K t f
structure XB(K:aC)(X:Cx)(es:List Expr)(t:TA)(f:FA):Prop where
 hk:X.K=K
 pa:PA X es t
 ev:jy K t f
section
variable{K:aC}{X:Cx}{e a b c:Expr}{es:List Expr}{t ta tb:TE}{f g:FE}{tA:TA}{fs:FA}{pos:Pos}
theorem XN.r(h:XN K X e t f):XR K X e t f:=⟨h.hk,h.pe,h.ev.r⟩
theorem XR.n(h:XR K X e t f):XN K X e t (fO f):=⟨h.hk,h.pe,zQ.n h.ev⟩
theorem aJ{i:Nat}(h:PE X e (iK i))(hk:X.K=K:=by rfl):XR K X e (iK i) (aF i):=⟨hk,h,bj i⟩
theorem aG{i:Int}{j:Nat}(hk:X.K=K:=by rfl):XN K X (.Constant (.int i) j pos) (tC (.int i)) (fC (.int i)):=⟨hk,Yg,Zg i⟩
theorem iJ{i:Bool}{j:Nat}(hk:X.K=K:=by rfl):XN K X (.Constant (.bool i) j pos) (tC (.bl i)) (fC (.bl i)):=⟨hk,my,sr i⟩
theorem Qm{j:Nat}(hk:X.K=K:=by rfl):XN K X (.Constant .none j pos) (tC .non) (fC .non):=⟨hk,Yh,bu⟩
theorem Qn{x:Str}{j:Nat}(hk:X.K=K:=by rfl):XN K X (.Constant (.str x) j pos) (tC (.str x)) (fC (.str x)):=⟨hk,WY,bw x⟩
theorem Fx{op:Operator}{r:R2}{φ:D→D→Option D}(ho:pF X (binaryOp op) r)(hd:Pn K r φ)(ha:XR K X a ta f)(hb:XR K X b tb g):XN K X (.BinOp a op b pos) (Am r ta tb) (f2 φ f g):=⟨ha.hk,Yp ho ha.pe hb.pe,Zh hd ha.ev hb.ev⟩
def uF:D→D→Option D:=Bm (λ_ _=>True) λi j=>.int (i-j)
instance (i j:Int):Decidable (Ej i j):=by unfold Ej;exact inferInstance
instance (i j:Int):Decidable (Vn i j):=by unfold Vn;exact inferInstance
instance (i j:Int):Decidable (Vo i j):=by unfold Vo;exact inferInstance
def nA:D→D→Option D:=Bm Ej λi j=>.int (i*j)
def jB:D→D→Option D:=Bm Vn λi j=>.int (i/j)
def cO:D→D→Option D:=Bm (λ_ j=>0<j) λi j=>.int (i%j)
def Jj:D→D→Option D:=Bm Vo λi j=>.int (i ^ j.toNat)
theorem lN(ha:XR K X a ta f)(hb:XR K X b tb g):XN K X (.BinOp a .Sub b pos) (Am (Vm λi j=>.int (i-j)) ta tb) (f2 uF f g):=Fx YT NB ha hb
theorem iR(ha:XR K X a ta f)(hb:XR K X b tb g):XN K X (.BinOp a .Mult b pos) (Am (rI Ej λi j=>.int (i*j)) ta tb) (f2 nA f g):=Fx YW (Ji λ_ _ h=>h) ha hb
theorem dF(ha:XR K X a ta f)(hb:XR K X b tb g):XN K X (.BinOp a .FloorDiv b pos) (Am (rI Vn λi j=>.int (i/j)) ta tb) (f2 jB f g):=Fx JQ (Ji λ_ _ h=>h) ha hb
theorem bD(ha:XR K X a ta f)(hb:XR K X b tb g):XN K X (.BinOp a .Mod b pos) (Am (rI (λ_ j=>0<j) λi j=>.int (i%j)) ta tb) (f2 cO f g):=Fx YX (Ji λ_ _ h=>h) ha hb
theorem wV(ha:XR K X a ta f)(hb:XR K X b tb g):XN K X (.BinOp a .Pow b pos) (Am (rI Vo λi j=>.int (i ^ j.toNat)) ta tb) (f2 Jj f g):=Fx ZC (Ji λ_ _ h=>h) ha hb
theorem lO{op:CmpOp}{r:R2}{φ:D→D→Option D}(ho:pF X (compareOp op) r)(hd:Pn K r φ)(ha:XR K X a ta f)(hb:XR K X b tb g)(hm:behindInMarks op b=false):XN K X (.Compare a [op] [b] pos) (Am r ta tb) (f2 φ f g):=⟨ha.hk,JS ho ha.pe hb.pe hm,Zh hd ha.ev hb.ev⟩
def fB(f:FE):FT:=λe=>(f e).bind λd=>match d with | .bl b=>some b | _=>none
theorem zU{f:FE}{e:DE}{b:Bool}(h:fB f e=some b):f e=some (.bl b):=by
 unfold fB at h
 obtain⟨d,h1,h2⟩:=bL h
 split at h2
 ·cases h2;exact h1
 ·cases h2
theorem NQ(h:zQ K t f):Pk K (Lr t) (fB f):=λσ H e b Q re q k=>h σ H H e _ _ (Zn.self K H) re (zU q) λv H' Z' s1 s2 z rv=>by
 unfold Rv at rv
 exact⟨b,rv,k H' s1⟩
theorem UW(h:zQ K t f):Pk K (tB t) (fB f):=λσ H e b Q re q k=>h σ H H e _ _ (Zn.self K H) re (zU q) λv H' Z' s1 s2 z rv=>by
 unfold Rv at rv
 exact⟨b,rv,k H' s1⟩
theorem cB{op:CmpOp}{r:R2}{φ:D→D→Option D}(ho:pF X (compareOp op) r)(hd:Pn K r φ)(ha:XR K X a ta f)(hb:XR K X b tb g)(hm:behindInMarks op b=false):XT K X (.Compare a [op] [b] pos) (Lr (Am r ta tb)) (fB (f2 φ f g)):=⟨ha.hk,JT ho ha.pe hb.pe hm,NQ (Zh hd ha.ev hb.ev).r⟩
theorem lQ(h:XR K X e t f)(he:∀whole,isTrue e X.env whole=(do let v ←whole;standAt e.pos;holding [v] (truthy v)):=by intro _;rfl):XT K X e (tB t) (fB f):=⟨h.hk,XF h.pe he,UW h.ev⟩
def Xz:D→D→Option D:=Bm (λ_ _=>True) λi j=>.bl (decide (i<j))
def Wa:D→D→Option D:=Bm (λ_ _=>True) λi j=>.bl (decide (i≤j))
def sy:D→D→Option D:=Bm (λ_ _=>True) λi j=>.bl (decide (j<i))
def jz:D→D→Option D:=Bm (λ_ _=>True) λi j=>.bl (decide (j≤i))
def toV:D→Option V
  | .non=>some .non | .bl b=>some (.bl b) | .int i=>some (.int i) | .str x=>some (.str x)
  | _=>none
theorem Jk{H:Hp}{d:D}{v x:V}(h:toV d=some v)(r:Rv K H d x):x=v:=by
 cases d<;>unfold toV at h<;>first | (cases h;unfold Rv at r;exact r) | cases h
mutual
def iM:D→Option DV
 | .int i=>some (.int i)
 | .non=>some .non
 | .lst ds=>(oG ds).map DV.lst
 | .tup ds=>(oG ds).map DV.tup
 | _=>none
def oG:List D→Option (List DV)
 | []=>some []
 | d::ds=>(iM d).bind λx=>(oG ds).bind λxs=>some (x::xs)
end
mutual
theorem qF{H:Hp}:∀(d:D)(x:DV)(v:V),iM d=some x→Rv K H d v→Reads K H x v
 | .int i,x,v,h,r=>by unfold iM at h;cases h;unfold Rv at r;unfold Reads;exact r
 | .lst ds,x,v,h,r=>by
  unfold iM at h
  obtain⟨xs,h1,rfl⟩:=lZ h
  unfold Rv at r;unfold Reads
  obtain⟨a,vs,r1,r2,r3⟩:=r
  exact⟨a,vs,r1,r2,Bq ds xs vs h1 r3⟩
 | .tup ds,x,v,h,r=>by
  unfold iM at h
  obtain⟨xs,h1,rfl⟩:=lZ h
  unfold Rv at r;unfold Reads
  obtain⟨a,vs,r1,r2,r3⟩:=r
  exact⟨a,vs,r1,r2,Bq ds xs vs h1 r3⟩
 | .non,x,v,h,r=>by unfold iM at h;cases h;unfold Rv at r;unfold Reads;exact r
 | .bl _,x,v,h,r=>by unfold iM at h;cases h
 | .str _,x,v,h,r=>by unfold iM at h;cases h
 | .dk _ _,x,v,h,r=>by unfold iM at h;cases h
 | .dt _ _,x,v,h,r=>by unfold iM at h;cases h
 | .ins _ _ _,x,v,h,r=>by unfold iM at h;cases h
theorem Bq{H:Hp}:∀(ds:List D)(xs:List DV)(vs:List V),oG ds=some xs→dY K H ds vs→cX K H xs vs
 | [],xs,vs,h,r=>by unfold oG at h;cases h;unfold dY at r;unfold cX;exact r
 | d::ds,xs,vs,h,r=>by
  unfold oG at h
  obtain⟨x,h1,h2⟩:=bL h
  obtain⟨xt,h3,h4⟩:=bL h2
  cases h4
  unfold dY at r;unfold cX
  obtain⟨y,ys,r1,r2,r3⟩:=r
  exact⟨y,ys,r1,qF d x y h1 r2,Bq ds xt ys h3 r3⟩
end
mutual
theorem Zj:∀(d e:D)(x:DV),iM d=some x→iM e=some x→d=e
 | .int i,e,x,h,h'=>by
  unfold iM at h;cases h
  cases e<;>unfold iM at h'<;>first | (cases h';rfl) | cases h' | (obtain⟨xs,q1,q2⟩:=lZ h';cases q2)
 | .lst ds,e,x,h,h'=>by
  unfold iM at h
  obtain⟨xs,h1,rfl⟩:=lZ h
  cases e with
  | lst es=>unfold iM at h';obtain⟨ys,q1,q2⟩:=lZ h';cases q2;rw[wW ds es xs h1 q1]
  | tup es=>unfold iM at h';obtain⟨ys,q1,q2⟩:=lZ h';cases q2
  | _=>unfold iM at h';cases h'
 | .tup ds,e,x,h,h'=>by
  unfold iM at h
  obtain⟨xs,h1,rfl⟩:=lZ h
  cases e with
  | tup es=>unfold iM at h';obtain⟨ys,q1,q2⟩:=lZ h';cases q2;rw[wW ds es xs h1 q1]
  | lst es=>unfold iM at h';obtain⟨ys,q1,q2⟩:=lZ h';cases q2
  | _=>unfold iM at h';cases h'
 | .non,e,x,h,h'=>by
  unfold iM at h;cases h
  cases e<;>unfold iM at h'<;>first | (cases h';rfl) | cases h' | (obtain⟨xs,q1,q2⟩:=lZ h';cases q2)
 | .bl _,e,x,h,h'=>by unfold iM at h;cases h
 | .str _,e,x,h,h'=>by unfold iM at h;cases h
 | .dk _ _,e,x,h,h'=>by unfold iM at h;cases h
 | .dt _ _,e,x,h,h'=>by unfold iM at h;cases h
 | .ins _ _ _,e,x,h,h'=>by unfold iM at h;cases h
theorem wW:∀(ds es:List D)(xs:List DV),oG ds=some xs→oG es=some xs→ds=es
 | [],[],xs,h,h'=>rfl
 | [],e::es,xs,h,h'=>by
  unfold oG at h h'
  cases h
  obtain⟨x,h1,h2⟩:=bL h'
  obtain⟨xt,h3,h4⟩:=bL h2
  cases h4
 | d::ds,[],xs,h,h'=>by
  unfold oG at h h'
  cases h'
  obtain⟨x,h1,h2⟩:=bL h
  obtain⟨xt,h3,h4⟩:=bL h2
  cases h4
 | d::ds,e::es,xs,h,h'=>by
  unfold oG at h h'
  obtain⟨x,h1,h2⟩:=bL h
  obtain⟨xt,h3,h4⟩:=bL h2
  cases h4
  obtain⟨y,k1,k2⟩:=bL h'
  obtain⟨yt,k3,k4⟩:=bL k2
  cases k4
  rw[Zj d e x h1 k1,wW ds es xt h3 k3]
end
noncomputable def pH(a b:D):Option D:=match toV a,toV b with
 | some x,some y=>if JR x y=true then some (.bl (decide (x=y)))else none
 | _,_=>match iM a,iM b with
  | some x,some y=>if x.depth≤32 then some (.bl (rC x y))else none
  | _,_=>none
theorem eX:Pn K (λx y H Q=>rEq x y H Q∨aq K false x y H Q) pH:=λx y H a b d Q ra rb q k=>by
 unfold pH at q
 split at q
 ·rename_i u v h1 h2
  split at q
  ·rename_i hs
   cases q
   rw[Jk h1 ra,Jk h2 rb]
   exact .inl ⟨hs,k _ H (aV.refl _) (.jA rfl (by unfold Rv;rfl))⟩
  ·cases q
 ·split at q
  ·rename_i u v h1 h2
   split at q
   ·rename_i hs
    cases q
    exact .inr ⟨u,v,qF a u x h1 ra,qF b v y h2 rb,hs,k _ H (aV.refl _) (.jA rfl (by unfold Rv;rfl))⟩
   ·cases q
  ·cases q
noncomputable def Yb(a b:D):Option D:=match toV a,toV b with
 | some x,some y=>if JR x y=true then some (.bl (!decide (x=y)))else none
 | _,_=>match iM a,iM b with
  | some (.lst x),some (.lst y)=>if fD x≤32 then some (.bl (!rC (.lst x) (.lst y)))else none
  | some (.tup x),some (.tup y)=>if fD x≤32 then some (.bl (!rC (.tup x) (.tup y)))else none
  | _,_=>none
def tu(K:aC):R2:=λx y H Q=>rNe x y H Q∨(∃ds es,Reads K H (.lst ds) x∧Reads K H (.lst es) y∧fD ds≤32∧Q (.bl (!rC (.lst ds) (.lst es))) H)∨(∃ds es,Reads K H (.tup ds) x∧Reads K H (.tup es) y∧fD ds≤32∧Q (.bl (!rC (.tup ds) (.tup es))) H)
theorem Fy:Pn K (tu K) Yb:=λx y H a b d Q ra rb q k=>by
 unfold Yb at q
 split at q
 ·rename_i u v h1 h2
  split at q
  ·rename_i hs
   cases q
   rw[Jk h1 ra,Jk h2 rb]
   exact .inl ⟨hs,k _ H (aV.refl _) (.jA rfl (by unfold Rv;rfl))⟩
  ·cases q
 ·split at q
  ·rename_i u v h1 h2
   split at q
   ·rename_i hs
    cases q
    exact .inr (.inl ⟨u,v,qF a _ x h1 ra,qF b _ y h2 rb,hs,k _ H (aV.refl _) (.jA rfl (by unfold Rv;rfl))⟩)
   ·cases q
  ·rename_i u v h1 h2
   split at q
   ·rename_i hs
    cases q
    exact .inr (.inr ⟨u,v,qF a _ x h1 ra,qF b _ y h2 rb,hs,k _ H (aV.refl _) (.jA rfl (by unfold Rv;rfl))⟩)
   ·cases q
  ·cases q
theorem or_eq(hu:X.A.units+64<cLine)(hk:X.K=K):pF X (compareOp .Eq) (λx y H Q=>rEq x y H Q∨aq K false x y H Q):=by subst hk;exact qe.or (au hu)
theorem Fz(hu:X.A.units+64<cLine)(hk:X.K=K):pF X (compareOp .NotEq) (tu K):=by subst hk;exact qg.or ((az hu).or (bh hu))
def uG:D→Option (List D)
 | .lst ds=>some ds
 | .tup ds=>some ds
 | _=>none
theorem Jl{H:Hp}{d:D}{ds:List D}{v:V}(h:uG d=some ds)(r:Rv K H d v):∃p xs,v=.ref p∧(jC K H p xs∨pZ K H p xs)∧dY K H ds xs:=by
 cases d with
 | lst es=>unfold uG at h;cases h;unfold Rv at r;obtain⟨p,xs,r1,r2,r3⟩:=r;exact⟨p,xs,r1,.inl r2,r3⟩
 | tup es=>unfold uG at h;cases h;unfold Rv at r;obtain⟨p,xs,r1,r2,r3⟩:=r;exact⟨p,xs,r1,.inr r2,r3⟩
 | _=>unfold uG at h;cases h
end
section
variable{κ:Type} [DecidableEq κ] {K:aC} {H:Hp}
def posK:List κ→κ→Option Nat
 | [],_=>none
 | a::ks,k=>if a=k then some 0 else(posK ks k).map (·+1)
theorem vK:∀{ks:List κ} {xs:List V} {k:κ},ks.length=xs.length→tK (ks.zip xs) k=(posK ks k).bind λj=>xs[j]?
 | [],xs,k,h=>by unfold posK;rfl
 | a::ks,[],k,h=>by simp at h
 | a::ks,x::xs,k,h=>by
  have ih:=vK (ks:=ks) (xs:=xs) (k:=k) (by simpa using h)
  unfold posK
  rw[M4]
  unfold tK at ih ⊢
  rw[K4]
  by_cases c:a=k
  ·rw[if_pos c,decide_eq_true c];rfl
  ·rw[if_neg c,decide_eq_false c]
   show Option.map _ (List.find? _ (ks.zip xs))=_
   rw[ih]
   cases posK ks k<;>rfl
theorem Jm:∀{ks:List κ} {k:κ} {j:Nat},posK ks k=some j→j<ks.length∧ks[j]?=some k
 | [],k,j,h=>by unfold posK at h;cases h
 | a::ks,k,j,h=>by
  unfold posK at h
  split at h
  ·rename_i c;cases h;exact⟨by simp,by simp[c]⟩
  ·obtain⟨i,h1,rfl⟩:=lZ h
   obtain⟨a1,a2⟩:=Jm h1
   exact⟨by simpa using a1,by simpa using a2⟩
theorem wX:∀{ks:List κ} {k:κ},posK ks k=none↔k∉ks
  | [],k=>by unfold posK;simp
  | a::ks,k=>by
    unfold posK
    have ih:=wX (ks:=ks) (k:=k)
    split
    · rename_i c;simp[c]
    · rename_i c
      rw[Option.map_eq_none_iff,ih,E9]
      constructor
      · rintro h (q | q)
        · exact c q.symm
        · exact h q
      · intro h q;exact h (.inr q)
def Jo(ks:List κ)(k:κ):List κ:=if(posK ks k).isSome then ks else ks++[k]
def putD{β:Type}(ks:List κ)(ds:List β)(k:κ)(d:β):List β:=if(posK ks k).isSome then S8 (λk' d'=>if k'=k then d else d') ks ds else ds++[d]
theorem Mi{β:Type}{ks:List κ}{ds:List β}{k:κ}{d:β}(h:ks.length=ds.length):(Jo ks k).length=(putD ks ds k d).length:=by
 unfold Jo putD
 split
 ·rw[List.length_zipWith,h,S6]
 ·rw[B5,B5,h];rfl
theorem Zk{ks:List κ}{xs:List V}{k:κ}{v:V}(h:ks.length=xs.length):putK (ks.zip xs) k v=(Jo ks k).zip (putD ks xs k v):=by
 have ha:((ks.zip xs).any λkv=>decide (kv.1=k))=(posK ks k).isSome:=by
  rw[Az,vK h]
  cases q:posK ks k with
  | none=>rfl
  | some j=>
   obtain⟨h1,h2⟩:=Jm q
   rw[C4,A6 (by omega)]
   rfl
 unfold putK Jo putD
 rw[ha]
 by_cases c:(posK ks k).isSome=true
 ·rw[if_pos c,if_pos c,if_pos c]
  clear ha c
  induction ks generalizing xs with
  | nil=>rfl
  | cons a ks ih=>
   cases xs with
   | nil=>simp at h
   | cons x xs=>
    rw[M4,D4,K2,M4,ih (by simpa using h)]
    split<;>rfl
 ·rw[if_neg c,if_neg c,if_neg c,List.zip_append h]
  rfl
end
def Zm:D→Option Key
 | .int i=>some (.inl i)
 | .str x=>some (.inr x)
 | _=>none
theorem Ud{K:aC}{H:Hp}{d:D}{k:Key}{v:V}(h:Zm d=some k)(r:Rv K H d v):v=kV k:=by
 cases d<;>unfold Zm at h<;>first | (cases h;unfold Rv at r;exact r) | cases h
def kD:Key→D
 | .inl i=>.int i
 | .inr x=>.str x
section
variable{K:aC}{X:Cx}{e a b c:Expr}{es:List Expr}{t ta tb:TE}{f g:FE}{pos:Pos}
def Wb(neg:Bool)(k d:D):Option D:=match d with
 | .dk ks ds=>(Zm k).bind λk=>some (.bl (if neg then !(posK ks k).isSome else(posK ks k).isSome))
 | _=>none
theorem Qo{ks:List Key}{xs:List V}{k:Key}(h:ks.length=xs.length):(tK (ks.zip xs) k).isSome=(posK ks k).isSome:=by
 rw[vK h]
 cases q:posK ks k with
 | none=>rfl
 | some j=>
  obtain⟨h1,h2⟩:=Jm q
  rw[C4,A6 (by omega)]
  rfl
theorem Zo{H:Hp}{x y:V}{ka d r:D}{neg:Bool}(h:Wb neg ka d=some r)(rk:Rv K H ka y)(rd:Rv K H d x):∃p o,x=.ref p∧aa H p y o∧r=.bl (if neg then !o.isSome else o.isSome):=by
 unfold Wb at h
 split at h
 ·rename_i ks ds
  obtain⟨k,h1,h2⟩:=bL h
  cases h2
  unfold Rv at rd
  obtain⟨p,xs,r1,r2,r3,r4⟩:=rd
  refine⟨p,tK (ks.zip xs) k,r1,.inl ⟨_,k,r2,Ud h1 rk,rfl⟩,?_⟩
  rw[Qo r3]
 ·cases h
theorem Wc(hu:X.A.units+1<cLine)(ha:XR K X a ta f)(hb:XR K X b tb g)(h1:behindInMarks .NotIn b=false:=by first | exact nobehind _ (by decide) (by decide) | rfl):XN K X (.Compare a [.NotIn] [b] pos) (Ja ta tb) (f2 (Wb true) f g):=
 ⟨ha.hk,XC (Fo hu ha.pe hb.pe) h1,λσ H e d Q re q k=>by
  obtain⟨da,db,q1,q2,q3⟩:=zR q
  refine ha.ev σ H H e da _ (Zn.self K H) re q1 λx H1 Z1 s1 t1 z1 rx=>hb.ev σ H1 Z1 e db _ z1 (re.same t1) q2 λy H2 Z2 s2 t2 z2 ry=>?_
  obtain⟨p,o,e1,e2,e3⟩:=Zo q3 (z2.sm.rv _ _ (t2.rv _ _ rx)) (z2.sm.rv _ _ ry)
  subst e3
  exact⟨p,o,e1,e2,k _ H2 (s1.trans s2) (.jA rfl (by unfold Rv;rfl))⟩⟩
theorem uc{op:CmpOp}(h:XN K X (.Compare a [op] [b] pos) t f)(pc:PC X op a b t)(h1:behindInMarks op b=false):XT K X (.Compare a [op] [b] pos) (tB t) (fB f):=⟨h.hk,XD pc h1,UW h.ev.r⟩
theorem Wd(hu:X.A.units+1<cLine)(ha:XR K X a ta f)(hb:XR K X b tb g)(h1:behindInMarks .NotIn b=false:=by first | exact nobehind _ (by decide) (by decide) | rfl):XT K X (.Compare a [.NotIn] [b] pos) (tB (Ja ta tb)) (fB (f2 (Wb true) f g)):=uc (Wc hu ha hb h1) (Fo hu ha.pe hb.pe) h1
def dW(a i:D):Option D:=match i with
 | .int i=>(uG a).bind λds=>Av ds i
 | _=>none
theorem VB{H:Hp}{ds:List D}{xs:List V}{i:Int}{d:D}(r:dY K H ds xs)(h:Av ds i=some d):∃v,Av xs i=some v∧Rv K H d v:=by
 unfold Av at h ⊢
 obtain⟨j,h1,h2⟩:=bL h
 rw[r.length,h1]
 exact r.get h2
theorem Ue(hk:X.K=K):HY X (ZP K):=by subst hk;exact ZQ
theorem bJ(ha:XR K X a ta f)(hb:XR K X b tb g)(hs:zP b):XR K X (.Subscript a b pos) (Am (ZP K) ta tb) (f2 dW f g):=
 ⟨ha.hk,Tp (Ue ha.hk) ha.pe hb.pe hs,su (λx y H Z da db d Q z ra rb q k=>by
  unfold dW at q
  split at q
  ·rename_i i
   obtain⟨ds,h1,h2⟩:=bL q
   unfold Rv at rb
   cases da with
   | lst es=>
    unfold uG at h1;cases h1
    unfold Rv at ra
    obtain⟨p,xs,r1,r2,r3⟩:=ra
    obtain⟨v,e1,e2⟩:=VB r3 h2
    exact .inl ⟨p,xs,i,v,r1,rb,z.sm.seq r2,e1,k v H Z (aV.refl _) (aV.refl _) z e2⟩
   | tup es=>
    unfold uG at h1;cases h1
    unfold Rv at ra
    obtain⟨p,xs,r1,r2,r3⟩:=ra
    obtain⟨v,e1,e2⟩:=VB r3 h2
    exact .inr (.inl ⟨p,xs,i,v,r1,rb,z.sm.tup r2,e1,k v H Z (aV.refl _) (aV.refl _) z e2⟩)
   | _=>unfold uG at h1;cases h1
  ·cases q) ha.ev hb.ev⟩
end
end L2


namespace L2
open PySem PySem.Spec PyProof.Rows
section
variable{K:aC}{X:Cx}{e a b c:Expr}{es rest:List Expr}{t ta tb:TE}{f g:FE}{tA:TA}{fs:FA}{pos:Pos}{tc:TT}{fc fd:FT}{td:TT}
theorem aM(hk:X.K=K:=by rfl):XA K X [] kO aN:=⟨hk,gP,cg⟩
theorem aB(h:XR K X e t f)(hs:XA K X es tA fs)(hst:starEach (e::es) X.env=(false,eval e X.env)::starEach es X.env:=by rfl):XA K X (e::es) (dM t tA) (aA f fs):=⟨h.hk,cP h.pe hs.pa hst,NK h.ev hs.ev⟩
theorem fW(hk:X.K=K:=by rfl):XB K X [] kO aN:=⟨hk,gP,cu⟩
theorem aY(h:XN K X e t f)(hs:XB K X es tA fs)(hst:starEach (e::es) X.env=(false,eval e X.env)::starEach es X.env:=by rfl):XB K X (e::es) (dM t tA) (aA f fs):=⟨h.hk,cP h.pe hs.pa hst,NP h.ev hs.ev⟩
theorem rH(h:XB K X es tA fs):XN K X (.List es pos) (Io tA) (oX fs):=⟨h.hk,Aq h.pa,cz h.ev⟩
theorem Br(h:XA K X es tA fs):XR K X (.List es pos) (Io tA) (oX fs):=⟨h.hk,Aq h.pa,dh h.ev⟩
theorem kY{x1:Nat}(h:XB K X es tA fs):XN K X (.Tuple es x1 pos) (Vq tA) (pG fs):=⟨h.hk,Qa h.pa,dg h.ev⟩
theorem NT:Bl K Qf (fC (.dk [] [])):=λσ H e d Q re q k=>by
 cases q
 intro p hp
 refine k _ _ (bZ hp _) ⟨(·=p),?_,λa q=>by cases q;exact hp⟩
 unfold Ow
 exact⟨p,[],nil,rfl,bO,rfl,λz=>z,λx=>⟨.inl,λz=>z.elim id False.elim⟩,by unfold dI;exact⟨λ_ z=>z,rfl⟩⟩
theorem Ug(hk:X.K=K:=by rfl):XN K X (.Dict [] [] pos) Qf (fC (.dk [] [])):=⟨hk,Yv,NT⟩
def uH(f g:FT):FT:=λe=>(f e).bind λc=>if c=true then g e else some false
def Qp(f g:FT):FT:=λe=>(f e).bind λc=>if c=true then some true else g e
def tQ(f:FT):FT:=λe=>(f e).map λc=>!c
theorem di(h1:Pk K tc fc)(h2:Pk K td fd):Pk K (XH tc td) (uH fc fd):=λσ H e b Q re q k=>by
 unfold uH at q
 obtain⟨c,q1,q2⟩:=bL q
 refine h1 σ H e c _ re q1 λH1 s1=>?_
 cases c with
 | true=>rw[if_pos rfl]at q2 ⊢;exact h2 σ H1 e b Q (re.same s1) q2 λH2 s2=>k H2 (s1.trans s2)
 | false=>rw[if_neg (by decide)]at q2 ⊢;cases q2;exact k H1 s1
theorem ud(h1:Pk K tc fc)(h2:Pk K td fd):Pk K (zu tc td) (Qp fc fd):=λσ H e b Q re q k=>by
 unfold Qp at q
 obtain⟨c,q1,q2⟩:=bL q
 refine h1 σ H e c _ re q1 λH1 s1=>?_
 cases c with
 | false=>rw[if_neg (by decide)]at q2 ⊢;exact h2 σ H1 e b Q (re.same s1) q2 λH2 s2=>k H2 (s1.trans s2)
 | true=>rw[if_pos rfl]at q2 ⊢;cases q2;exact k H1 s1
theorem dj(h1:Pk K tc fc):Pk K (XQ tc) (tQ fc):=λσ H e b Q re q k=>by
 unfold tQ at q
 obtain⟨c,q1,rfl⟩:=lZ q
 exact h1 σ H e c _ re q1 k
theorem XW.xt(h:XW K X e tc fc):XT K X e tc fc:=⟨h.hk,h.pw.pt,h.ev⟩
theorem zV(h:XT K X a tc fc):XW K X (.BoolOp .And [a] pos) tc fc:=⟨h.hk,JK h.pt,h.ev⟩
theorem wY(h:XT K X a tc fc):XW K X (.BoolOp .Or [a] pos) tc fc:=⟨h.hk,XS h.pt,h.ev⟩
theorem Bu(h:XT K X a tc fc)(h2:XW K X (.BoolOp .And (b::rest) pos) td fd):XW K X (.BoolOp .And (a::b::rest) pos) (XH tc td) (uH fc fd):=⟨h.hk,XX h.pt h2.pw,di h.ev h2.ev⟩
theorem Ga(h:XT K X a tc fc)(h2:XW K X (.BoolOp .Or (b::rest) pos) td fd):XW K X (.BoolOp .Or (a::b::rest) pos) (zu tc td) (Qp fc fd):=⟨h.hk,mz h.pt h2.pw,ud h.ev h2.ev⟩
theorem nC(h:XT K X a tc fc):XT K X (.UnaryOp .Not a pos) (XQ tc) (tQ fc):=⟨h.hk,YC h.pt,dj h.ev⟩
def jD(f g:FE):FE:=λe=>(fB f e).bind λc=>if c=true then g e else some (.bl false)
def Gb(f:FE):FE:=λe=>(fB f e).map λc=>.bl (!c)
theorem mC{op:BoolOp}(h:XN K X a t f):XN K X (.BoolOp op [a] pos) t f:=⟨h.hk,YD h.pe,h.ev⟩
theorem lR(h:XR K X a ta f)(h2:XN K X (.BoolOp .And (b::rest) pos) tb g):XN K X (.BoolOp .And (a::b::rest) pos) (SJ ta tb) (jD f g):=⟨h.hk,YF h.pe h2.pe,λσ H e d Q re q k=>by
 unfold jD at q
 obtain⟨c,q1,q2⟩:=bL q
 refine h.ev σ H H e _ _ (Zn.self K H) re (zU q1) λv H1 Z1 s1 t1 z1 rv=>?_
 unfold Rv at rv
 refine⟨c,rv,?_⟩
 cases c with
 | true=>rw[if_pos rfl]at q2 ⊢;exact h2.ev σ H1 e d Q (re.same s1) q2 λv H2 s2 n=>k v H2 (s1.trans s2) (n.back s1)
 | false=>rw[if_neg (by decide)]at q2 ⊢;cases q2;exact k _ H1 s1 (.jA rfl (by unfold Rv;rfl))⟩
theorem Zq(h:XR K X a ta f):XN K X (.UnaryOp .Not a pos) (SM ta) (Gb f):=⟨h.hk,YG h.pe,λσ H e d Q re q k=>by
 unfold Gb at q
 obtain⟨c,q1,rfl⟩:=lZ q
 refine h.ev σ H H e _ _ (Zn.self K H) re (zU q1) λv H1 Z1 s1 t1 z1 rv=>?_
 unfold Rv at rv
 exact⟨c,rv,k _ H1 s1 (.jA rfl (by unfold Rv;rfl))⟩⟩
theorem dm(ha:XR K X a ta f):XN K X (.UnaryOp .USub a pos) (tUn (rU λi=>.int (-i)) ta) (λe=>(f e).bind λd=>match d with | .int i=>some (.int (-i)) | _=>none):=⟨ha.hk,pq ZD ha.pe,λσ H e d Q re q k=>by
 obtain⟨c,q1,q2⟩:=bL q
 split at q2
 ·rename_i i
  cases q2
  refine ha.ev σ H H e _ _ (Zn.self K H) re q1 λv H1 Z1 s1 t1 z1 rv=>?_
  unfold Rv at rv
  exact⟨i,rv,k _ H1 s1 (.jA rfl (by unfold Rv;rfl))⟩
 ·cases q2⟩
def fL(φ:List D→Option D)(fs:FA):FE:=λe=>(fs e).bind φ
def tZ(K:aC)(r:List V→Hp→VK→Prop)(φ:List D→Option D):Prop:=∀(vs:List V)(H:Hp)(ds:List D)(d:D)(Q:VK),dY K H ds vs→φ ds=some d →
 (∀v H',aV H H'→Eh K H H' d v→Q v H')→r vs H Q
theorem VD{r:List V→Hp→VK→Prop}{φ:List D→Option D}(o:tZ K r φ)(h:jx K tA fs):Bl K (TQ r tA) (fL φ fs):=λσ H e d Q re q k=>by
 obtain⟨ds,q1,q2⟩:=bL q
 exact h σ H H e ds _ (Zn.self K H) re q1 λvs H1 Z1 s1 t1 z1 rs=>o vs H1 ds d Q (z1.sm.Xy _ _ rs) q2 λv H2 s2 n=>k v H2 (s1.trans s2) (n.back s1)
theorem cD{r:List V→Hp→VK→Prop}{φ:List D→Option D}{x:Str}{id:String}{p:Pos}(o:tZ K r φ)(hc:lH X (.builtin id) r)(hg:Gl X x)(hm:X.mg x=none)(hv:bootBuiltins x=some (.builtin id))(ha:XA K X (e::es) tA fs)(hn:x ≠ "__name__" := by decide) (hdb:(x==("__debug__" : Str))=false:=by decide)
  (he:starEach (e::es) X.env=(false,eval e X.env)::starEach es X.env:=by rfl) (hpl:(backTo pos (starEach es X.env)).any (·.1)=false:=by rfl):XN K X (.Call (.Name x p) (e::es) [] pos) (TQ r tA) (fL φ fs):=⟨ha.hk,Lx hc hg hm hv ha.pa hn hdb he hpl,VD o ha.ev⟩
theorem vL{r:List V→Hp→VK→Prop}{φ:List D→Option D}{x:Str}{id:String}{p:Pos}(o:tZ K r φ)(hc:lH X (.type id) r)(hg:Gl X x)(hm:X.mg x=none)(hv:bootBuiltins x=some (.type id))(ha:XA K X (e::es) tA fs)(hn:x ≠ "__name__" := by decide) (hdb:(x==("__debug__" : Str))=false:=by decide)
  (he:starEach (e::es) X.env=(false,eval e X.env)::starEach es X.env:=by rfl) (hpl:(backTo pos (starEach es X.env)).any (·.1)=false:=by rfl):XN K X (.Call (.Name x p) (e::es) [] pos) (TQ r tA) (fL φ fs):=⟨ha.hk,wM hc hg hm hv ha.pa hn hdb he hpl,VD o ha.ev⟩
theorem oY{H:Hp}{d:D}{vs:List V}(h:dY K H [d] vs):∃v,vs=[v]∧Rv K H d v:=by
 unfold dY at h
 obtain⟨y,ys,rfl,h1,h2⟩:=h
 unfold dY at h2
 subst h2
 exact⟨y,rfl,h1⟩
theorem dq{H:Hp}{d d':D}{vs:List V}(h:dY K H [d,d'] vs):∃v v',vs=[v,v']∧Rv K H d v∧Rv K H d' v':=by
 unfold dY at h
 obtain⟨y,ys,rfl,h1,h2⟩:=h
 obtain⟨v,rfl,h3⟩:=oY h2
 exact⟨y,v,rfl,h1,h3⟩
def cY:List D→Option D
 | [d]=>(uG d).map λds=>.int ds.length
 | _=>none
def ue(K:aC):List V→Hp→VK→Prop:=λxs H Q=>∃p ys,xs=[.ref p]∧(jC K H p ys∨pZ K H p ys)∧Q (.int ys.length) H
theorem bT:tZ K (ue K) cY:=λvs H ds d Q rs q k=>by
 unfold cY at q
 split at q
 ·rename_i d0
  obtain⟨es,q1,rfl⟩:=lZ q
  obtain⟨v,rfl,r⟩:=oY rs
  obtain⟨p,xs,rfl,r2,r3⟩:=Jl q1 r
  refine⟨p,xs,rfl,r2,k _ H (aV.refl _) (.jA rfl ?_)⟩
  rw[r3.length];unfold Rv;rfl
 ·cases q
theorem bU(hk:X.K=K):lH X (.builtin "len") (ue K):=by subst hk;exact Iv
def dList:List D→Option D
 | [d]=>(uG d).bind λds=>if D.fG ds=true then some (.lst ds)else none
 | _=>none
def VF(K:aC):List V→Hp→VK→Prop:=λxs H Q=>∃p ys,xs=[.ref p]∧(jC K H p ys∨pZ K H p ys)∧∀l,H l=none→Q (.ref l) (upd H l (.lst ys))
theorem rY:tZ K (VF K) dList:=λvs H ds d Q rs q k=>by
 unfold dList at q
 split at q
 ·rename_i d0
  obtain⟨es,q1,q2⟩:=bL q
  split at q2
  ·rename_i hi
   cases q2
   obtain⟨v,rfl,r⟩:=oY rs
   obtain⟨p,xs,rfl,r2,r3⟩:=Jl q1 r
   exact⟨p,xs,rfl,r2,λl hl=>k _ _ (bZ hl _) (zT (aV.refl _) (.fG hi r3) hl)⟩
  ·cases q2
 ·cases q
theorem rZ(hk:X.K=K):lH X (.type "list") (VF K):=by subst hk;exact Iw
def Qq:List D→Option D
 | [.dk ks ds]=>some (.lst (ks.map kD))
 | _=>none
theorem Gd:∀ks:List Key,D.fG (ks.map kD)=true
 | []=>by rw[G0];unfold D.fG;rfl
 | k::ks=>by rw[D4];unfold D.fG;rw[Gd ks];cases k<;>(unfold kD D.jA;rfl)
theorem Mj{H:Hp}:∀ks:List Key,dY K H (ks.map kD) (ks.map kV)
 | []=>by rw[G0,G0];unfold dY;rfl
 | k::ks=>by rw[D4,D4];unfold dY;exact⟨_,_,rfl,by cases k<;>(unfold kD kV Rv;rfl),Mj ks⟩
def du:List V→Hp→VK→Prop:=λxs H Q=>∃p kvs,xs=[.ref p]∧Rd H p (.dK kvs)∧∀l,H l=none→Q (.ref l) (upd H l (.lst (kvs.map λkv=>kV kv.1)))
theorem Zr{ks:List Key}{xs:List V}(h:ks.length=xs.length):((ks.zip xs).map λkv=>kV kv.1)=ks.map kV:=by
 have:((ks.zip xs).map λkv=>kV kv.1)=((ks.zip xs).map Prod.fst).map kV:=by rw[G3];rfl
 rw[this,List.map_fst_zip (by omega)]
theorem Zt:tZ K du Qq:=λvs H ds d Q rs q k=>by
 unfold Qq at q
 split at q
 ·rename_i ks es
  cases q
  obtain⟨v,rfl,r⟩:=oY rs
  unfold Rv at r
  obtain⟨p,xs,rfl,r2,r3,r4⟩:=r
  refine⟨p,_,rfl,r2,λl hl=>?_⟩
  rw[Zr r3]
  exact k _ _ (bZ hl _) (zT (aV.refl _) (.fG (Gd ks) (Mj ks)) hl)
 ·cases q
def wZ:List D→Option D
 | [d]=>(uG d).bind λds=>if D.fG ds=true then some (.tup ds)else none
 | _=>none
def Jp(K:aC):List V→Hp→VK→Prop:=λxs H Q=>∃p ys,xs=[.ref p]∧((jC K H p ys∧∀l,H l=none→Q (.ref l) (upd H l (.tup ys)))∨(pZ K H p ys∧Q (.ref p) H))
theorem Zu:tZ K (Jp K) wZ:=λvs H ds d Q rs q k=>by
 unfold wZ at q
 split at q
 ·rename_i d0
  obtain⟨es,q1,q2⟩:=bL q
  split at q2
  ·rename_i hi
   cases q2
   obtain⟨v,rfl,r⟩:=oY rs
   obtain⟨p,xs,rfl,r2,r3⟩:=Jl q1 r
   refine⟨p,xs,rfl,?_⟩
   rcases r2 with r2 | r2
   ·exact .inl ⟨r2,λl hl=>k _ _ (bZ hl _) (Uc (.fG hi r3) hl)⟩
   ·exact .inr ⟨r2,k _ H (aV.refl _) (.jA (by unfold D.jA;exact hi) (by unfold Rv;exact⟨p,xs,rfl,r2,r3⟩))⟩
  ·cases q2
 ·cases q
theorem Bv(hk:X.K=K):lH X (.type "tuple") (Jp K):=by subst hk;exact Em
theorem Bw{H:Hp}:∀{ns:List Int} {xs:List V},dY K H (ns.map D.int) xs↔xs=ns.map V.int
 | [],xs=>by rw[G0,G0];unfold dY;rfl
 | n::ns,xs=>by
  rw[D4,D4]
  unfold dY
  constructor
  ·rintro⟨y,ys,rfl,h1,h2⟩
   unfold Rv at h1
   rw[h1,Bw.mp h2]
  ·rintro rfl
   exact⟨_,_,rfl,by unfold Rv;rfl,Bw.mpr rfl⟩
theorem nD:∀ns:List Int,D.fG (ns.map D.int)=true
 | []=>by rw[G0];unfold D.fG;rfl
 | n::ns=>by rw[D4];unfold D.fG D.jA;rw[nD ns];rfl
def qT:List D→Option (List Bool)
 | []=>some []
 | .bl i::ds=>(qT ds).map (i::·)
 | _=>none
theorem Ml{H:Hp}:∀{ds:List D} {bs:List Bool} {xs:List V},qT ds=some bs→dY K H ds xs→xs=bs.map V.bl
 | [],bs,xs,h,r=>by unfold qT at h;cases h;unfold dY at r;exact r
 | d::ds,bs,xs,h,r=>by
  cases d with
  | bl i=>
   unfold qT at h
   obtain⟨cs,h1,rfl⟩:=lZ h
   unfold dY at r
   obtain⟨y,ys,rfl,r1,r2⟩:=r
   unfold Rv at r1
   rw[r1,Ml h1 r2]
   rfl
  | _=>unfold qT at h;cases h
theorem xF{α:Type}(p:α→Bool):∀l:List α,qT (l.map λx=>D.bl (p x))=some (l.map p)
 | []=>rfl
 | a::l=>by rw[D4];unfold qT;rw[xF p l];rfl
def Jq:List D→Option D
 | [.lst ds]=>(qT ds).map λbs=>.bl (bs.all id)
 | _=>none
def NZ:List D→Option D
 | [.lst ds]=>(qT ds).map λbs=>.bl (bs.any id)
 | _=>none
def uf(K:aC):List V→Hp→VK→Prop:=λxs H Q=>∃(p:Addr)(bs:List Bool),xs=[.ref p]∧jC K H p (bs.map V.bl)∧Q (.bl (bs.all id)) H
def ug(K:aC):List V→Hp→VK→Prop:=λxs H Q=>∃(p:Addr)(bs:List Bool),xs=[.ref p]∧jC K H p (bs.map V.bl)∧Q (.bl (bs.any id)) H
theorem Uh{H:Hp}{ds:List D}{bs:List Bool}{v:V}(h:qT ds=some bs)(r:Rv K H (.lst ds) v):∃p,v=.ref p∧jC K H p (bs.map V.bl):=by
 unfold Rv at r
 obtain⟨p,xs,r1,r2,r3⟩:=r
 rw[Ml h r3]at r2
 exact⟨p,r1,r2⟩
theorem xG:tZ K (uf K) Jq:=λvs H ds d Q rs q k=>by
 unfold Jq at q
 split at q
 ·obtain⟨bs,q1,rfl⟩:=lZ q
  obtain⟨v,rfl,r⟩:=oY rs
  obtain⟨p,rfl,r2⟩:=Uh q1 r
  exact⟨p,bs,rfl,r2,k _ H (aV.refl _) (.jA rfl (by unfold Rv;rfl))⟩
 ·cases q
theorem dw:tZ K (ug K) NZ:=λvs H ds d Q rs q k=>by
 unfold NZ at q
 split at q
 ·obtain⟨bs,q1,rfl⟩:=lZ q
  obtain⟨v,rfl,r⟩:=oY rs
  obtain⟨p,rfl,r2⟩:=Uh q1 r
  exact⟨p,bs,rfl,r2,k _ H (aV.refl _) (.jA rfl (by unfold Rv;rfl))⟩
 ·cases q
theorem xH(hk:X.K=K)(hc:X.calm=true:=by rfl):lH X (.builtin "all") (uf K):=by subst hk;exact Za hc
theorem dz(hk:X.K=K)(hc:X.calm=true:=by rfl):lH X (.builtin "any") (ug K):=by subst hk;exact Zb hc
def fj(neg:Bool)(a b:D):Option D:=match a,b with
 | .bl c,.bl k=>some (.bl (if neg then !(c==k)else c==k))
 | _,_=>none
theorem fu:Pn K (λx y H Q=>∃c k,x=.bl c∧y=.bl k∧Q (.bl (c==k)) H) (fj false):=λx y H a b d Q ra rb q k=>by
 unfold fj at q
 split at q
 ·cases q;unfold Rv at ra rb;exact⟨_,_,ra,rb,k _ H (aV.refl _) (.jA rfl (by unfold Rv;rfl))⟩
 ·cases q
theorem We{u v:Value}{A:Around}{s:Shared}{Q:Value→Shared→Prop}{E:Value→Shared→Prop}{c k:Bool}(hu:u=.bool c)(hv:v=.bool k)(h:Q (.bool (!(c==k))) s):wpAny (model X.prog X.w) A (compareOp .IsNot u v) Q E s:=by
 subst hu hv
 cases c<;>cases k<;>exact wpAny_pure h
theorem Ge:pF X (compareOp .IsNot) (λx y H Q=>∃c k,x=.bl c∧y=.bl k∧Q (.bl (!(c==k))) H):=by
 intro pins s σ H x y v u Q I rx ry h
 obtain⟨c,k,rfl,rfl,q⟩:=h
 exact We rx ry ⟨.bl _,H,I,rfl,q⟩
theorem Gf:Pn K (λx y H Q=>∃c k,x=.bl c∧y=.bl k∧Q (.bl (!(c==k))) H) (fj true):=λx y H a b d Q ra rb q k=>by
 unfold fj at q
 split at q
 ·cases q;unfold Rv at ra rb;exact⟨_,_,ra,rb,k _ H (aV.refl _) (.jA rfl (by unfold Rv;rfl))⟩
 ·cases q
end
end L2


namespace L2
open PySem PySem.Spec PyProof.Rows
section
variable{K:aC}{X:Cx}{e a b c:Expr}{es rest:List Expr}{t ta tb:TE}{f g:FE}{tA:TA}{fs:FA}{pos:Pos}{tc:TT}{fc fd:FT}{td:TT}
abbrev FO:=DE→Option (Option Int)
def EvO(K:aC)(t:TO)(f:FO):Prop:=∀(σ:St)(H:Hp)(e:DE)(o:Option Int)(Q:Option Int→Hp→Prop),pY K H e σ→f e=some o→(∀H',aV H H'→Q o H')→t σ H Q
structure XO(K:aC)(X:Cx)(e:Option Expr)(t:TO)(f:FO):Prop where
 po:PO X e t
 ev:EvO K t f
def uI:FO:=λ_=>some none
def oZ(f:FE):FO:=λe=>(f e).bind λd=>match d with | .int i=>some (some i) | _=>none
theorem Jr:XO K X none Tj uI:=⟨KC,λσ H e o Q re q k=>by cases q;exact k H (aV.refl _)⟩
theorem Js(h:XR K X e t f):XO K X (some e) (TV t) (oZ f):=⟨KD h.pe,λσ H e o Q re q k=>by
 unfold oZ at q
 obtain⟨d,q1,q2⟩:=bL q
 split at q2
 ·rename_i i
  cases q2
  refine h.ev σ H H e _ _ (Zn.self K H) re q1 λv H1 Z1 s1 t1 z1 rv=>?_
  unfold Rv at rv
  exact⟨i,rv,k H1 s1⟩
 ·cases q2⟩
def tR{α:Type}(xs:List α)(lo hi:Option Int):List α:=(xs.drop (HT.wG xs.length 0 lo)).take (HT.wG xs.length xs.length hi-HT.wG xs.length 0 lo)
theorem dY.drop{H:Hp}:∀{ds:List D} {xs:List V} (n:Nat),dY K H ds xs→dY K H (ds.drop n) (xs.drop n)
 | ds,xs,0,h=>h
 | [],xs,n+1,h=>by unfold dY at h;subst h;simp;unfold dY;rfl
 | d::ds,xs,n+1,h=>by unfold dY at h;obtain⟨y,ys,rfl,_,h2⟩:=h;simpa using dY.drop n h2
theorem dY.take{H:Hp}:∀{ds:List D} {xs:List V} (n:Nat),dY K H ds xs→dY K H (ds.take n) (xs.take n)
 | ds,xs,0,h=>by simp;unfold dY;rfl
 | [],xs,n+1,h=>by unfold dY at h;subst h;simp;unfold dY;rfl
 | d::ds,xs,n+1,h=>by unfold dY at h;obtain⟨y,ys,rfl,h1,h2⟩:=h;rw[R9,R9];unfold dY;exact⟨y,_,rfl,h1,dY.take n h2⟩
theorem OD{H:Hp}{ds:List D}{xs:List V}(lo hi:Option Int)(h:dY K H ds xs):dY K H (tR ds lo hi) (Qc xs lo hi):=by
 unfold tR Qc
 rw[h.length]
 exact(h.drop _).take _
def IW(jA:Bool)(f:FE)(l h:FO):FE:=λe=>(f e).bind λd=>(l e).bind λlo=>(h e).bind λhi=>match d with
 | .lst ds=>if jA=false∨D.fG (tR ds lo hi)=true then some (.lst (tR ds lo hi))else none
 | _=>none
theorem Zv{jA:Bool}{f:FE}{l h:FO}{e:DE}{d:D}(q:IW jA f l h e=some d):∃ds lo hi,f e=some (.lst ds)∧l e=some lo∧h e=some hi∧(jA=false∨D.fG (tR ds lo hi)=true)∧d=.lst (tR ds lo hi):=by
 unfold IW at q
 obtain⟨d0,q1,q⟩:=bL q
 obtain⟨lo,q2,q⟩:=bL q
 obtain⟨hi,q3,q⟩:=bL q
 split at q
 ·split at q
  ·rename_i c;cases q;exact⟨_,lo,hi,q1,q2,q3,c,rfl⟩
  ·cases q
 ·cases q
theorem OJ(hk:X.K=K):SlR X (ZV K):=by subst hk;exact KN
variable{lo hi:Option Expr}{tl th:TO}{fl fh:FO}{p2:Pos}
theorem Bx(h:XR K X e t f)(hl:XO K X lo tl fl)(hu:XO K X hi th fh):XR K X (.Subscript e (.Slice lo hi none p2) pos) (tSl (ZV K) t tl th) (IW false f fl fh):=⟨h.hk,Yt (OJ h.hk) h.pe hl.po hu.po,λσ H Z e d Q z re q k=>by
 obtain⟨ds,lo,hi,q1,q2,q3,_,rfl⟩:=Zv q
 refine h.ev σ H Z e _ _ z re q1 λv H1 Z1 s1 t1 z1 rv=>hl.ev σ H1 e lo _ (re.same (z.sm.trans s1)) q2 λH2 s2=>hu.ev σ H2 e hi _ (re.same (z.sm.trans (s1.trans s2))) q3 λH3 s3=>?_
 have z3:=Jh z1 (s2.trans s3)
 have t3:aV Z1 (Jg Z1 H1 H3):=wU z1
 unfold Rv at rv
 obtain⟨p,xs,rfl,r2,r3⟩:=rv
 refine⟨p,xs,rfl,z3.sm.seq (t3.seq r2),λl hl=>?_⟩
 obtain⟨a1,a2⟩:=Zi (o:=.lst (Qc xs lo hi)) z3 hl
 exact k _ _ _ (s1.trans (s2.trans (s3.trans (bZ hl _)))) (t1.trans (t3.trans a1)) a2 (by unfold Rv;exact⟨l,_,rfl,jC.of bO,a1.Xy _ _ (t3.Xy _ _ (OD lo hi r3))⟩)⟩
def Gg(K:aC):R2:=λx y H Q=>∃l b xs zs,x=.ref l∧y=.ref b∧jC K H l xs∧jC K H b zs∧xs.length+zs.length≤sizeLine∧∀p,H p=none→Q (.ref p) (upd H p (.lst (xs++zs)))
theorem Jt(hk:X.K=K):pF X (binaryOp .Add) (Gg K):=by
 subst hk
 intro pins s σ H x y v u Q I rx ry h
 obtain⟨l,b,xs,zs,rfl,rfl,h1,h2,hz,q⟩:=h
 cases rx
 cases ry
 obtain⟨its,r,pl,_⟩:=I.list h1
 obtain⟨its2,r2,Mg,_⟩:=I.list h2
 obtain⟨⟨cl,dd,da,sl⟩,ho,hc,n,hd⟩:=pl.isList
 obtain⟨⟨cl2,dd2,da2,sl2⟩,ho2,hc2,n2,hd2⟩:=Mg.isList
 dsimp only at hc hd hc2 hd2
 subst hc hd hc2 hd2
 have hlen:its.toArray.size+its2.toArray.size≤sizeLine:=by rw[A9,A9,←r.length,←r2.length];exact hz
 have ea:its.toArray++its2.toArray=(its++its2).toArray:=by simp
 refine concat_meets ⟨_,ho,rfl⟩ ⟨_,ho2,rfl⟩ noFill_list_add seq_list_add PySem.F.slot_list_add PySem.F.entry_list_add (PySem.F.args_list_add_2 _ _)
  (list_addW l b its.toArray its2.toArray n n2 dd dd2 sl sl2 hlen) ⟨ho,ho2,?_⟩
 rw[ea]
 exact⟨.ref _,_,I.qu (t':=s.toks) (r.append r2) (by rw[B5];exact hz),rfl,q _ I.fresh⟩
def dD(a b:D):Option D:=match a,b with
 | .int i,.int j=>some (.int (i+j))
 | .lst x,.lst y=>if D.fG (x++y)=true∧x.length+y.length≤100000 then some (.lst (x++y))else none
 | _,_=>none
theorem dY.append{H:Hp}:∀{ds es:List D} {xs ys:List V},dY K H ds xs→dY K H es ys→dY K H (ds++es) (xs++ys)
 | [],es,xs,ys,h,h'=>by unfold dY at h;subst h;exact h'
 | d::ds,es,xs,ys,h,h'=>by unfold dY at h;obtain⟨y,yt,rfl,h1,h2⟩:=h;rw[K8,K8];unfold dY;exact⟨y,_,rfl,h1,dY.append h2 h'⟩
theorem PB:Pn K (λx y H Q=>Vm (λi j=>.int (i+j)) x y H Q∨Gg K x y H Q) dD:=λx y H a b d Q ra rb q k=>by
 unfold dD at q
 split at q
 ·cases q;unfold Rv at ra rb;exact .inl ⟨_,_,ra,rb,k _ H (aV.refl _) (.jA rfl (by unfold Rv;rfl))⟩
 ·split at q
  ·rename_i c
   cases q
   unfold Rv at ra rb
   obtain⟨p,xs,rfl,r2,r3⟩:=ra
   obtain⟨p',xs',rfl,r2',r3'⟩:=rb
   refine .inr ⟨p,p',xs,xs',rfl,rfl,r2,r2',tY (by rw[r3.length,r3'.length];exact c.2),λl hl=>?_⟩
   exact k _ _ (bZ hl _) (zT (aV.refl _) (.fG c.1 (r3.append r3')) hl)
  ·cases q
 ·cases q
theorem cI(ha:XR K X a ta f)(hb:XR K X b tb g):XN K X (.BinOp a .Add b pos) (Am (λx y H Q=>Vm (λi j=>.int (i+j)) x y H Q∨Gg K x y H Q) ta tb) (f2 dD f g):=Fx (YQ.or (Jt ha.hk)) PB ha hb
def EvI(K:aC)(wi:TI)(fi:FA):Prop:=∀{N:Fp}(σ:St)(H Z:Hp)(e:DE)(ds:List D)(R:It→Hp→Prop),Zn K N Z H→pY K Z e σ→fi e=some ds →
 (∀J H' Z' P vs,aV H H'→aV Z Z'→Zn K N Z' H'→jw J P vs→(∀H2,aV Z' H2→P H2)→dY K Z' ds vs→R J H')→wi σ H R
structure XI(K:aC)(X:Cx)(tg iter:Expr)(wi:TI)(fi:FA):Prop where
 hk:X.K=K
 pi:PI X tg iter wi
 ev:EvI K wi fi
def lJ(f:FE):FA:=λe=>(f e).bind uG
def aAl(K:aC)(t:TE):TI:=λσ H R=>SX K t σ H R∨ph K t σ H R
theorem kZ{tg:Expr}(h:XR K X e t f):XI K X tg e (aAl K t) (lJ f):=⟨h.hk,by
 have hk:=h.hk
 subst hk
 exact λpins s σ H R I q=>q.elim (JN h.pe pins s σ H R I) (YL h.pe pins s σ H R I),λσ H Z e ds R z re q k=>by
 unfold lJ at q
 obtain⟨d,q1,q2⟩:=bL q
 cases d with
 | lst es=>
  unfold uG at q2;cases q2
  refine .inl (h.ev σ H Z e _ _ z re q1 λv H1 Z1 s1 t1 z1 rv=>?_)
  unfold Rv at rv
  obtain⟨p,xs,rfl,r2,r3⟩:=rv
  exact⟨p,rfl,⟨xs,z1.sm.seq r2⟩,k _ H1 Z1 _ xs s1 t1 z1 Yz (λH2 s=>s.seq r2) r3⟩
 | tup es=>
  unfold uG at q2;cases q2
  refine .inr (h.ev σ H Z e _ _ z re q1 λv H1 Z1 s1 t1 z1 rv=>?_)
  unfold Rv at rv
  obtain⟨p,xs,rfl,r2,r3⟩:=rv
  exact⟨p,rfl,⟨xs,z1.sm.tup r2⟩,k _ H1 Z1 _ xs s1 t1 z1 MK (λH2 s=>s.tup r2) r3⟩
 | _=>unfold uG at q2;cases q2⟩
def gR(lo:Int)(n:Nat):List D:=(C5 n).map λi:Nat=>D.int (lo+(i:Int))
theorem xJ{H:Hp}(lo:Int)(n:Nat):dY K H (gR lo n) ((C5 n).map λi:Nat=>V.int (lo+(i:Int))):=by
 unfold gR
 refine dY.of (by simp) λi d x h1 h2=>?_
 rw[B8]at h1 h2
 cases q:(C5 n)[i]? with
 | none=>rw[q]at h1;cases h1
 | some j=>rw[q]at h1 h2;cases h1;cases h2;unfold Rv;rfl
def lim(i:Int):Bool:=decide (-100000≤i∧i≤100000)
def jE(fs:FA):FA:=λe=>(fs e).bind λds=>match ds with
 | [.int n]=>if lim n=true then some (gR 0 n.toNat)else none
 | _=>none
def Gh(fs:FA):FA:=λe=>(fs e).bind λds=>match ds with
 | [.int i,.int j]=>if lim i=true∧lim j=true then some (gR i (j-i).toNat)else none
 | _=>none
theorem Ju{i:Int}(h:lim i=true):-100000≤i∧i≤100000:=of_decide_eq_true h
theorem xK{tg:Expr}{p:Pos}(hg:Gl X "range") (hm:X.mg "range" = none) (ha:XA K X [a] tA fs) (hs:starEach [a] X.env=[(false,eval a X.env)]:=by rfl):XI K X tg (.Call (.Name "range" p) [a] [] pos) (Yl tA) (jE fs):=⟨ha.hk,Fb hg hm ha.pa hs,λσ H Z e ds R z re q k=>by
 unfold jE at q
 obtain⟨es,q1,q2⟩:=bL q
 split at q2
 ·rename_i n
  split at q2
  ·rename_i hl
   cases q2
   have hl:=Ju hl
   refine ha.ev σ H Z e _ _ z re q1 λvs H1 Z1 s1 t1 z1 rs=>?_
   obtain⟨v,rfl,r⟩:=oY rs
   unfold Rv at r
   subst r
   exact⟨n,rfl,by omega,by omega,k _ H1 Z1 _ _ s1 t1 z1 wQ (λ_ _=>True.intro) (xJ 0 n.toNat)⟩
  ·cases q2
 ·cases q2⟩
def kE(e:DE)(fr:List Nat):DE:=fr.map λi=>(e[i]?).getD none
theorem Ui{H:Hp}{e:DE}{σ:St}{fr:List Nat}{d:D}{x:V}(re:pY K H e σ)(r:Rv K H d x):pY K H (some d::kE e fr) (some x::En σ fr):=λi d' h=>by
 cases i with
 | zero=>simp at h;subst h;exact⟨x,rfl,r⟩
 | succ i=>
  rw[P9]at h ⊢
  unfold kE at h
  unfold En
  rw[B8]at h ⊢
  cases q:fr[i]? with
  | none=>rw[q]at h;cases h
  | some j=>
   rw[q]at h
   have h:(e[j]?).getD none=some d':=E1 h
   have h2:e[j]?=some (some d'):=by
    cases q2:e[j]? with
    | none=>rw[q2]at h;cases h
    | some o=>rw[q2]at h;rw[show o=some d' from h]
   obtain⟨v,h3,h4⟩:=re j d' h2
   refine⟨v,?_,h4⟩
   show some (σ.getD j none)=_
   rw[A7,h3]
   rfl
def qU(c:D→Option Bool)(el:D→Option D):List D→Option (List D)
 | []=>some []
 | x::xs=>(c x).bind λb=>if b=true then(el x).bind λy=>(qU c el xs).map (y::·)else qU c el xs
def dJ(fi:FA)(fr:List Nat)(fc:FT)(fe:FE):FE:=λe=>(fi e).bind λxs=>if xs.length≤100000 then(qU (λx=>fc (some x::kE e fr)) (λx=>fe (some x::kE e fr)) xs).map D.lst else none
theorem uJ{H:Hp}{p:Addr}{o:HO}(n:vI H p):wR K H (upd H p o):=λa xs h=>h.upd n
theorem Uj{wi:TI}{fi:FA}{fr:List Nat}{te:TE}{fe:FE}(hi:EvI K wi fi)(hc:Pk K tc fc)(he:Bl K te fe):Bl K (Bb wi 1 fr (eG 0) tc te) (dJ fi fr fc fe):=by
 intro σ H e d Q re q k
 unfold dJ at q
 obtain⟨xs,q1,q⟩:=bL q
 split at q
 ·rename_i hlen
  obtain⟨ds,q2,rfl⟩:=lZ q
  refine hi σ H H e xs _ (Zn.self K H) re q1 λJ H1 Z1 P vs s1 t1 z1 hJ hP rvs=>?_
  intro D0 hD
  have hl:=rvs.length
  have hHD:H D0=none:=s1.free hD
  generalize hcc:(λx=>fc (some x::kE e fr))=cc at q2
  generalize hel:(λx=>fe (some x::kE e fr))=el at q2
  refine⟨λi m ys H2=>∃Wf PJ A,m=vs.length-i∧i≤vs.length∧ds=Wf++PJ∧qU cc el (xs.drop i)=some PJ∧aV H1 H2∧H2 D0=some (.lst ys)∧dI K H2 Wf A ys∧(∀a,A a→H1 a=none∧a≠D0)∧ys.length≤i,
   ⟨vs.length,[],ds,nil,by simp,K9 _,rfl,by simpa using q2,bZ hD _,bO,by unfold dI;exact⟨λ_ z=>z,rfl⟩,λ_ z=>z.elim,B7 _⟩,?_⟩
  rintro i m ys H2 ⟨Wf,PJ,A,rfl,hi',hds,hcl,s2,hD2,ow,fr2,hyl⟩
  obtain⟨j1,j2,j3⟩:=hJ i H2 (hP H2 (z1.sm.trans s2))
  refine⟨hD2,?_⟩
  by_cases hlt:i<vs.length
  ·refine .inr ⟨j1 hlt,λx H' y=>?_⟩
   obtain⟨e1,ex⟩:=j2 x H' y
   subst e1
   have hx:=ex hlt
   have hxi:i<xs.length:=by omega
   have hxs:xs.drop i=xs[i]::xs.drop (i+1):=K6 hxi
   obtain⟨x',hx',rx⟩:=rvs.get (A6 hxi)
   rw[hx]at hx'
   cases hx'
   rw[hxs]at hcl
   unfold qU at hcl
   obtain⟨bb,c1,c2⟩:=bL hcl
   show Kp 1 σ fr (some x::En σ fr)∧_
   refine⟨⟨by simp[blk],λj v hv=>?_⟩,?_⟩
   ·cases j with
    | zero=>simp[blk]at hv
    | succ j=>simpa[blk]using hv
   have uh:pY K H' (some xs[i]::kE e fr) (some x::En σ fr):=Ui (re.same (s1.trans s2)) ((z1.sm.trans s2).rv _ _ rx)
   refine hc _ H' _ bb _ uh (by rw[←hcc]at c1;exact c1) λH3 s3=>?_
   have gf:=s3 _ _ hD2
   cases bb with
   | false=>
    rw[if_neg (by decide)]at c2 ⊢
    exact⟨vs.length-(i+1),by omega,Wf,PJ,A,rfl,by omega,hds,c2,s2.trans s3,gf,ow.same s3,fr2,by omega⟩
   | true=>
    rw[if_pos rfl]at c2 ⊢
    obtain⟨dy,c3,c4⟩:=bL c2
    obtain⟨ds3,c5,rfl⟩:=lZ c4
    refine he _ H3 _ dy _ (uh.same s3) (by rw[←hel]at c3;exact c3) λyv H4 s4 n4=>?_
    have um:=s4 _ _ gf
    refine⟨um,Fw (by omega),vs.length-(i+1),by omega,Wf++[dy],ds3,?_⟩
    obtain⟨B,oB,fB⟩:=n4
    have hB:∀a,B a→H1 a=none∧a≠D0:=λa qa=>⟨(s2.trans s3).free (fB a qa),λz=>by have q0:=fB a qa;rw[z,gf]at q0;cases q0⟩
    refine⟨fY A B,rfl,by omega,by rw[hds];simp,c5,λb o eb=>?_,bO,?_,λa qa=>qa.elim (fr2 a) (hB a),by rw[B5];simp;exact hyl⟩
    ·rw[bY (gO eb hD)]
     exact(s2.trans (s3.trans s4)) b o eb
    ·have o4:=(ow.same s3).same s4
     have ap:Apart A B:=λa qa qb=>by
      obtain⟨⟨u,eu⟩,_⟩:=dI.cells _ _ _ (ow.same s3) a qa
      rw[fB a qb]at eu;cases eu
     have all:dI K H4 (Wf++[dy]) (fY A B) (ys++[yv]):=cC.mpr ((cC.mp o4).snoc oB ap)
     exact dI.frame (uJ (mO um)) _ _ _ all λa qa=>bY (qa.elim (λz=>(fr2 a z).2) λz=>(hB a z).2)
  ·have ei:i=vs.length:=by omega
   subst ei
   have:xs.drop vs.length=[]:=Q4 (by omega)
   rw[this]at hcl
   unfold qU at hcl
   cases hcl
   rw[N4]at hds
   subst hds
   refine .inl ⟨j3 (B7 _),k _ H2 (s1.trans s2) ⟨fY (·=D0) A,?_,λa qa=>qa.elim (λz=>by cases z;exact hHD) λz=>s1.free (fr2 a z).1⟩⟩
   unfold Ow
   exact⟨D0,ys,A,rfl,hD2,λz=>(fr2 D0 z).2 rfl,λ_=>Iff.rfl,ow⟩
 ·cases q
def dX:FT:=λ_=>some true
structure yc(K:aC)(X:Cx)(ifs:List Expr)(t:TT)(f:FT):Prop where
 pts:ju X ifs t
 ev:Pk K t f
theorem fP:yc K X [] rn dX:=⟨LQ,λσ H e b Q re q k=>by cases q;exact k H (aV.refl _)⟩
theorem mD{tg elt iter:Expr}{ifs:List Expr}{scope:Scope}{wi:TI}{fi:FA}{te:TE}{fe:FE}(N:List Str)(fr:List Nat)(hcalm:X.calm=true)(B:gZ X.env.scope scope X.N N 1 fr)(hi:XI K X tg iter wi fi)
  (hg:∀cl fp s H C,PG (eY X scope N cl fp s H C) tg (eG 0)) (hc:∀cl fp s H C,yc K (eY X scope N cl fp s H C) ifs tc fc) (he:∀cl fp s H C,XN K (eY X scope N cl fp s H C) elt te fe)
  (hs:∀x,foldedSetIterable iter X.env x=pure x:=by intro _;rfl):XN K X (.ListComp elt [⟨tg,iter,ifs,0⟩] scope pos) (Bb wi 1 fr (eG 0) tc te) (dJ fi fr fc fe):=
 ⟨hi.hk,Tv N 1 fr hcalm B hi.pi hg (λcl fp s H C=>(hc cl fp s H C).pts) (λcl fp s H C=>(he cl fp s H C).pe) hs,
  Uj hi.ev (hc [] [] X.s₀ X.H₀ 0).ev (he [] [] X.s₀ X.H₀ 0).ev⟩
def gK(K:aC)(n:Nat)(F:List D→Option D):Sp:=λvs H Q _=>∃ds d,ds.length=n∧dY K H ds vs∧F ds=some d∧∀v H',aV H H'→Eh K H H' d v→Q v H'
def bG(n:Nat)(F:List D→Option D)(fs:FA):FE:=λe=>(fs e).bind λds=>if ds.length=n then F ds else none
theorem bA{x:Str}{k n:Nat}{F:List D→Option D}{p:Pos}(C:gH X.prog X.w X.K X.mg X.base x k n (gK K n F))(hr:mY k X.A)(hg:Gl X x)(ha:XA K X (e::es) tA fs)(hdb:(x==("__debug__" : Str))=false:=by decide)
  (he:starEach (e::es) X.env=(false,eval e X.env)::starEach es X.env:=by rfl) (hpl:(backTo pos (starEach es X.env)).any (·.1)=false:=by rfl):XN K X (.Call (.Name x p) (e::es) [] pos) (Ls (gK K n F) [] E0 tA) (bG n F fs):=
 ⟨ha.hk,bf C hr hg ha.pa hdb he hpl,λσ H e d Q re q k=>by
  unfold bG at q
  obtain⟨ds,q1,q2⟩:=bL q
  split at q2
  ·rename_i hl
   refine call_of (ha.ev σ H H e ds _ (Zn.self K H) re q1 λvs H1 Z1 s1 t1 z1 rs=>?_)
   exact⟨ds,d,hl,z1.sm.Xy _ _ rs,q2,λv H2 s2 n=>k v H2 (s1.trans s2) (n.back s1)⟩
  ·cases q2⟩
end
end L2


namespace L2
open PySem PySem.Spec PyProof.Rows
inductive SD where
  | no | fro (d:D) | own (d:D) | inn (v:V) (d:D)
def SD.z:SD→Option D
 | .fro d=>some d
 | .own d=>if d.jA=true then some d else none
 | .inn _ d=>if d.jA=true then some d else none
 | .no=>none
def SD.r:SD→Option D
 | .fro d=>some d
 | .own d=>some d
 | .inn _ d=>some d
 | .no=>none
abbrev EN:=List SD
def zE(env:EN):DE:=env.map SD.z
def rE(env:EN):DE:=env.map SD.r
def iY(K:aC)(H Z:Hp):SD→Fp→Option V→Prop
 | .no,A,_=>None A
 | .fro d,A,y=>None A∧∃v,y=some v∧Rv K Z d v
 | .own d,A,y=>∃v,y=some v∧Ow K H d A v
 | .inn v d,A,y=>y=some v∧Ow K H d A v
def Rel(K:aC)(B:Hp)(env:EN)(σ:St)(H:Hp):Prop:=∃A,gJ (iY K H (out H A)) env A σ∧aV B (out H A)
section
variable{K:aC}{B B' H H' Z Z':Hp}{env:EN}{σ:St}{A:Fp}
theorem gJ.all{α β:Type}{R:α→Fp→β→Prop}{Pr:Addr→Prop}:∀{ds:List α} {A:Fp} {ys:List β},gJ R ds A ys→(∀d B y,R d B y→∀a,B a→Pr a)→∀a,A a→Pr a
 | [],A,ys,h,_,a,q=>absurd q (h.1 a)
 | d::ds,A,ys,⟨y,yt,A1,A2,h1,h2,h3,h4,h5⟩,m,a,q=>((h3 a).mp q).elim (m _ _ _ h4 a) (gJ.all h5 m a)
theorem iY.cells{s:SD}{y:Option V}(h:iY K H Z s A y):∀a,A a→rG H a:=by
 cases s with
 | no=>exact λa q=>absurd q (h a)
 | fro d=>exact λa q=>absurd q (h.1 a)
 | own d=>obtain⟨v,_,o⟩:=h;exact Ow.cells d A v o
 | inn v d=>exact Ow.cells d A v h.2
theorem jO(h:gJ (iY K H Z) env A σ):∀a,A a→rG H a:=gJ.all h λ_ _ _ q=>q.cells
theorem Rel.len(h:Rel K B env σ H):σ.length=env.length:=let ⟨_,s,_⟩:=h;s.len
theorem Rel.mono(h:Rel K B' env σ H)(s:aV B B'):Rel K B env σ H:=let ⟨A,a,b⟩:=h;⟨A,a,s.trans b⟩
theorem gC{A A':Fp}(s:aV H H')(h:∀a,A' a→A a∨H a=none):aV (out H A) (out H' A'):=λb o e=>by
 obtain⟨e1,e2⟩:=cH.mp e
 refine cH.mpr ⟨λq=>?_,s b o e2⟩
 rcases h b q with q | q
 ·exact e1 q
 ·rw[q]at e2;cases e2
theorem iY.same{s:SD}{y:Option V}(h:iY K H Z s A y)(e:aV H H')(z:aV Z Z'):iY K H' Z' s A y:=by
 cases s with
 | no=>exact h
 | fro d=>obtain⟨h1,v,h2,h3⟩:=h;exact⟨h1,v,h2,z.rv _ _ h3⟩
 | own d=>obtain⟨v,h1,h2⟩:=h;exact⟨v,h1,h2.same e⟩
 | inn v d=>exact⟨h.1,h.2.same e⟩
theorem Rel.same(h:Rel K B env σ H)(s:aV H H'):Rel K B env σ H':=by
 obtain⟨A,a,b⟩:=h
 have g:aV (out H A) (out H' A):=gC s λa q=>.inl q
 exact⟨A,a.mono λe C z _ q=>q.same s g,b.trans g⟩
theorem Qt(h:gJ (iY K H (out H A)) env A σ):Zn K A (out H A) H:=⟨mZ H A,Zf λa q=>(jO h a q).2,λa q=>⟨by
 unfold out;rw[if_pos q],λz=>by obtain⟨⟨o,e⟩,_⟩:=jO h a q;rw[z]at e;cases e⟩⟩
theorem Rel.r(h:Rel K B env σ H):pY K H (rE env) σ:=λi d q=>by
 obtain⟨A,a,b⟩:=h
 unfold rE at q
 rw[B8]at q
 cases e:env[i]? with
 | none=>rw[e]at q;cases q
 | some s=>
  rw[e]at q
  obtain⟨y,A1,C,h1,h2,h3,h4,_⟩:=a.focus e
  cases s with
  | no=>cases q
  | fro d0=>cases q;obtain⟨_,v,rfl,h5⟩:=h4;exact⟨v,h1,(mZ H A).rv _ _ h5⟩
  | own d0=>cases q;obtain⟨v,rfl,h5⟩:=h4;exact⟨v,h1,Ow.rv _ _ _ h5⟩
  | inn v d0=>cases q;obtain⟨rfl,h5⟩:=h4;exact⟨v,h1,Ow.rv _ _ _ h5⟩
theorem uo(a:gJ (iY K H (out H A)) env A σ):pY K (out H A) (zE env) σ:=λi d q=>by
 unfold zE at q
 rw[B8]at q
 cases e:env[i]? with
 | none=>rw[e]at q;cases q
 | some s=>
  rw[e]at q
  obtain⟨y,A1,C,h1,h2,h3,h4,_⟩:=a.focus e
  cases s with
  | no=>cases q
  | fro d0=>cases q;obtain⟨_,v,rfl,h5⟩:=h4;exact⟨v,h1,h5⟩
  | own d0=>
   obtain⟨v,rfl,h5⟩:=h4
   have q:(if d0.jA=true then some d0 else none)=some d:=E1 q
   split at q
   ·rename_i im
    cases q
    exact⟨v,h1,(uE _ v im (Ow.rv _ _ _ h5)).out (λ_ z=>z.elim) λx hx=>(jO a x hx).2⟩
   ·cases q
  | inn v d0=>
   obtain⟨rfl,h5⟩:=h4
   have q:(if d0.jA=true then some d0 else none)=some d:=E1 q
   split at q
   ·rename_i im
    cases q
    exact⟨v,h1,(uE _ v im (Ow.rv _ _ _ h5)).out (λ_ z=>z.elim) λx hx=>(jO a x hx).2⟩
   ·cases q
theorem Rel.own{i:Nat}{d:D}{v:V}(h:Rel K B env σ H)(hi:i<env.length)(s:aV H H')(n:Eh K H H' d v):Rel K B (env.set i (.own d)) (σ.set i (some v)) H':=by
 obtain⟨A,a,b⟩:=h
 obtain⟨N,o,f⟩:=n
 have cl:=jO a
 obtain⟨y,A1,C,h1,h2,h3,h4,k⟩:=a.focus (A6 hi)
 have g:aV (out H A) (out H' (fY N C)):=gC s λx q=>q.elim (λq=>.inr (f x q)) λq=>.inl ((h3 x).mpr (.inr q))
 refine⟨fY N C,k (iY K H' (out H' (fY N C))) (λe D z _ q=>q.same s g) (.own d) (some v) N (λx q c=>?_) ⟨v,rfl,o⟩,b.trans g⟩
 obtain⟨⟨u,e⟩,_⟩:=cl x ((h3 x).mpr (.inr c))
 rw[f x q]at e;cases e
theorem Uk{i:Nat}{d:D}{v:V}(a:gJ (iY K H (out H A)) env A σ)(b:aV B (out H A))(hi:i<env.length)(s:aV H H')(t:aV (out H A) Z')(z:Zn K A Z' H')(r:Rv K Z' d v):Rel K B (env.set i (.fro d)) (σ.set i (some v)) H':=by
 obtain⟨y,A1,C,h1,h2,h3,h4,k⟩:=a.focus (A6 hi)
 have hC:∀x,fY nil C x→A x:=λx q=>q.elim False.elim λq=>(h3 x).mpr (.inr q)
 have g:aV (out H A) (out H' (fY nil C)):=gC s λx q=>.inl (hC x q)
 have g2:aV Z' (out H' (fY nil C)):=λx o e=>cH.mpr ⟨λq=>(by rw[(z.no x (hC x q)).1]at e;cases e),z.sm x o e⟩
 exact⟨fY nil C,k (iY K H' (out H' (fY nil C))) (λe D z _ q=>q.same s g) (.fro d) (some v) nil (λx q c=>q) ⟨λ_ z=>z,v,rfl,g2.rv _ _ r⟩,b.trans g⟩
def Zw(env:EN)(j:Nat):EN:=match env[j]? with
 | some (.own d)=>env.set j (.fro d)
 | _=>env
def wI(js:List Nat)(env:EN):EN:=js.foldl Zw env
theorem set_same{α:Type}{l:List α}{i:Nat}{x:α}(h:l[i]?=some x):l.set i x=l:=by
 apply P0
 intro j
 rw[J8]
 by_cases c:i=j
 ·subst c
  rw[if_pos rfl,h]
  split
  ·rfl
  ·rename_i q;rw[K5 (by omega)]at h;cases h
 ·rw[if_neg c]
theorem Rel.Zw{j:Nat}(h:Rel K B env σ H):Rel K B (Zw env j) σ H:=by
 unfold L2.Zw
 cases e:env[j]? with
 | none=>exact h
 | some s=>
  cases s with
  | no=>exact h
  | fro d=>exact h
  | inn v d=>exact h
  | own d=>
   obtain⟨A,a,b⟩:=h
   have cl:=jO a
   obtain⟨y,A1,C,h1,h2,h3,h4,k⟩:=a.focus e
   obtain⟨v,rfl,o⟩:=h4
   have g:aV (out H A) (out H (fY nil C)):=gC (aV.refl _) λx q=>q.elim False.elim λq=>.inl ((h3 x).mpr (.inr q))
   have:=k (iY K H (out H (fY nil C))) (λe D z _ q=>q.same (aV.refl _) g) (.fro d) (some v) nil (λx q c=>q)
    ⟨λ_ z=>z,v,rfl,o.out (λx q c=>h2 x q (c.elim False.elim id)) λx q=>(cl x ((h3 x).mpr (.inr (q.elim False.elim id)))).2⟩
   rw[set_same h1]at this
   exact⟨fY nil C,this,b.trans g⟩
theorem Rel.wI{js:List Nat}(h:Rel K B env σ H):Rel K B (wI js env) σ H:=by
 unfold L2.wI
 induction js generalizing env with
 | nil=>exact h
 | cons j js ih=>exact ih h.Zw
end
inductive SR where
  | next (env:EN) | ret (d:D) | brk (env:EN) | cont (env:EN) | bad | rete (d:D) (env:EN)
def Er(K:aC)(B:Hp)(E:Ends):SR→Prop
 | .next env=>∀σ H,Rel K B env σ H→E.nx σ H
 | .ret d=>∀v H A,aV B (out H A)→Ow K H d A v→E.rt v H
 | .brk env=>∀σ H,Rel K B env σ H→E.bk σ H
 | .cont env=>∀σ H,Rel K B env σ H→E.ct σ H
 | .bad=>False
 | .rete d env=>∀v σ H,Rel K B (env++[.own d]) (σ++[some v]) H→E.rt v H
theorem Er.mono{K:aC}{B B':Hp}{E:Ends}{r:SR}(h:Er K B E r)(s:aV B B'):Er K B' E r:=by
 cases r with
 | next env=>exact λσ H q=>h σ H (q.mono s)
 | ret d=>exact λv H A q=>h v H A (s.trans q)
 | brk env=>exact λσ H q=>h σ H (q.mono s)
 | cont env=>exact λσ H q=>h σ H (q.mono s)
 | bad=>exact h
 | rete d env=>exact λv σ H q=>h v σ H (q.mono s)
abbrev GS:=EN→SR
def DS(K:aC)(t:TS)(g:GS):Prop:=∀(B:Hp)(E:Ends)(σ:St)(H:Hp)(env:EN),Rel K B env σ H→Er K B E (g env)→t E σ H
def uq(K:aC)(B:Hp)(E:Ends)(σ:St):SR→Prop
 | .next env=>∀H,Rel K B env σ H→E.nx σ H
 | r=>Er K B E r
def VG(K:aC)(t:TS)(g:GS):Prop:=∀(B:Hp)(E:Ends)(σ:St)(H:Hp)(env:EN),Rel K B env σ H→uq K B E σ (g env)→t E σ H
theorem VG.ds{K:aC}{t:TS}{g:GS}(h:VG K t g):DS K t g:=λB E σ H env r p=>h B E σ H env r (by
 cases q:g env with
 | next e=>rw[q]at p;exact λH' r'=>p σ H' r'
 | ret d=>rw[q]at p;exact p
 | brk e=>rw[q]at p;exact p
 | cont e=>rw[q]at p;exact p
 | bad=>rw[q]at p;exact p
 | rete d e=>rw[q]at p;exact p)
structure YS(K:aC)(X:Cx)(st:Stmt)(t:TS)(g:GS):Prop where
 ps:PS X st t
 ev:DS K t g
structure YB(K:aC)(X:Cx)(st:List Stmt)(t:TS)(g:GS):Prop where
 ps:Lk X st t
 ev:DS K t g
section
variable{K:aC}{X:Cx}{st:Stmt}{sts:List Stmt}{t u:TS}{g g1 g2:GS}{e a b c:Expr}{te ta tb:TE}{f fa fb:FE}{tc:TT}{fc:FT}{pos:Pos}
def aW(g1 g2:GS):GS:=λenv=>match g1 env with
 | .next env'=>g2 env'
 | r=>r
theorem gj(h1:DS K t g1)(h2:DS K u g2):DS K (Ln t u) (aW g1 g2):=λB E σ H env r p=>by
 unfold aW at p
 refine h1 B {E with nx:=u E} σ H env r ?_
 cases q:g1 env with
 | next env'=>rw[q]at p;exact λσ' H' r'=>h2 B E σ' H' env' r' p
 | ret d=>rw[q]at p;exact p
 | brk d=>rw[q]at p;exact p
 | cont d=>rw[q]at p;exact p
 | bad=>rw[q]at p;exact p
 | rete d e=>rw[q]at p;exact p
def cN:GS:=λenv=>.next env
theorem cF:YB K X [] SN cN:=⟨JL,λB E σ H env r p=>p σ H r⟩
theorem aX(h:YS K X st t g):YB K X [st] t g:=⟨Ij h.ps,h.ev⟩
theorem aL(h:YS K X st t g1)(h2:YB K X sts u g2):YB K X (st::sts) (Ln t u) (aW g1 g2):=⟨pC h.ps h2.ps,gj h.ev h2.ev⟩
def bW(i:Nat)(f:FE):GS:=λenv=>match f (rE env)with
 | some d=>if i<env.length then .next (env.set i (.own d))else .bad
 | none=>.bad
theorem Zx{i:Nat}(h:Bl K te f):DS K (lG te (eG i)) (bW i f):=λB E σ H env r p=>by
 unfold bW at p
 split at p
 ·rename_i d q
  split at p
  ·rename_i hi
   exact h σ H (rE env) d _ r.r q λv H' s n=>p _ _ (r.own hi s n)
  ·exact p.elim
 ·exact p.elim
theorem bC{i:Nat}{x:Str}{pos':Pos}(h:XN K X e te f)(hp:PE X e te→PS X (.Assign [.Name x pos'] e pos) (lG te (eG i))):YS K X (.Assign [.Name x pos'] e pos) (lG te (eG i)) (bW i f):=⟨hp h.pe,Zx h.ev⟩
def dG(f:FE):GS:=λenv=>match f (rE env)with
 | some d=>.ret d
 | none=>.bad
theorem bM(h:XN K X e te f):YS K X (.Return (some e) pos) (Ei te) (dG f):=⟨wK h.pe,λB E σ H env r p=>by
 unfold dG at p
 split at p
 ·rename_i d q
  refine h.ev σ H (rE env) d _ r.r q λv H' s ⟨N,o,fr⟩=>p v H' N (λx u ex=>?_) o
  obtain⟨A,a,b⟩:=r
  have h1:=(cH.mp (b x u ex)).2
  exact cH.mpr ⟨λz=>(by rw[fr x z]at h1;cases h1),s x u h1⟩
 ·exact p.elim⟩
def nF(i:Nat):GS:=λenv=>match env[i]? with
 | some (.own d)=>.ret d
 | some (.fro d)=>if d.jA=true then .ret d else .bad
 | _=>.bad
theorem oH{i:Nat}(h:PE X e (iK i)):YS K X (.Return (some e) pos) (Ei (iK i)) (nF i):=⟨wK h,λB E σ H env r p=>by
 unfold nF at p
 obtain⟨A,a,b⟩:=r
 split at p
 ·rename_i d q
  obtain⟨y,A1,C,h1,h2,h3,h4,_⟩:=a.focus q
  obtain⟨v,rfl,o⟩:=h4
  exact⟨v,h1,p v H A1 (b.trans (gC (aV.refl _) λx z=>.inl ((h3 x).mpr (.inl z)))) o⟩
 ·rename_i d q
  split at p
  ·rename_i im
   obtain⟨y,A1,C,h1,h2,h3,h4,_⟩:=a.focus q
   obtain⟨_,v,rfl,rv⟩:=h4
   exact⟨v,h1,p v H nil (b.trans (gC (aV.refl _) λx z=>z.elim)) (uE d v im ((mZ H A).rv _ _ rv))⟩
  ·exact p.elim
 ·exact p.elim⟩
def jU(f:FT)(g1 g2:GS):GS:=λenv=>match f (rE env)with
 | some true=>g1 env
 | some false=>g2 env
 | none=>.bad
theorem cU{s1 s2:List Stmt}(hc:XT K X c tc fc)(h1:YB K X s1 t g1)(h2:YB K X s2 u g2):YS K X (.If c s1 s2 pos) (ni tc t u) (jU fc g1 g2):=⟨nq hc.pt h1.ps h2.ps,λB E σ H env r p=>by
 unfold jU at p
 split at p
 ·rename_i q
  refine hc.ev σ H (rE env) true _ r.r q λH' s=>?_
  rw[if_pos rfl]
  exact h1.ev B E σ H' env (r.same s) p
 ·rename_i q
  refine hc.ev σ H (rE env) false _ r.r q λH' s=>?_
  rw[if_neg (by decide)]
  exact h2.ev B E σ H' env (r.same s) p
 ·exact p.elim⟩
def xM(i:Nat)(g:GS):List D→EN→SR
 | [],env=>.next env
 | x::xs,env=>if i<env.length then match g (env.set i (.fro x))with
   | .next env'=>xM i g xs env'
   | .cont env'=>xM i g xs env'
   | .brk env'=>.next env'
   | r=>r
  else .bad
def Qu(js:List Nat)(i:Nat)(fi:FA)(g:GS):GS:=λenv=>match fi (zE (wI js env))with
 | some xs=>xM i g xs (wI js env)
 | none=>.bad
theorem gn{js:List Nat}{i:Nat}{wi:TI}{fi:FA}{tb:TS}(hi:EvI K wi fi)(h:DS K tb g):DS K (Yn wi (eG i) tb) (Qu js i fi g):=λB E σ H env r p=>by
 unfold Qu at p
 have r':Rel K B (wI js env) σ H:=r.wI
 generalize wI js env=xN at r' p
 split at p
 ·rename_i xs q
  obtain⟨A,a,b⟩:=r'
  refine hi σ H (out H A) (zE xN) xs _ (Qt a) (uo a) q λJ H1 Z1 P vs s t z hJ hP rvs=>?_
  have hl:=rvs.length
  have g0:aV Z1 (out H1 A):=λx o e=>cH.mpr ⟨λqa=>(by rw[(z.no x qa).1]at e;cases e),z.sm x o e⟩
  have aAp:Rel K Z1 xN σ H1:=⟨A,a.mono λe D y _ qq=>qq.same s (gC s λx q=>.inl q),g0⟩
  have bz:aV B Z1:=b.trans t
  have p':=p.mono bz
  refine Tw hJ (λk σ2 H2=>∃mF,Rel K Z1 mF σ2 H2∧Er K Z1 E (xM i g (xs.drop k) mF)) ⟨xN,aAp,by simpa using p'⟩ (λk σ2 H2 _ ⟨mF,⟨A2,a2,b2⟩,_⟩=>hP H2 (b2.trans (mZ H2 A2))) ?_ ?_
  ·rintro k x σ2 H2 hx ⟨mF,r2,p2⟩
   have hk:k<xs.length:=by
    have:=C9.mp hx
    obtain⟨h1,_⟩:=this
    omega
   rw[K6 hk]at p2
   unfold xM at p2
   obtain⟨x',hx',rx⟩:=rvs.get (A6 hk)
   rw[hx]at hx'
   cases hx'
   split at p2
   ·rename_i hlen
    obtain⟨A2,a2,b2⟩:=r2
    have r3:Rel K Z1 (mF.set i (.fro xs[k])) (σ2.set i (some x)) H2:=Uk a2 b2 hlen (aV.refl _) (aV.refl _) (Qt a2) (b2.rv _ _ rx)
    refine h Z1 _ _ H2 _ r3 ?_
    split at p2
    ·rename_i env' q2;rw[q2];exact λσ' H' r'=>⟨env',r',p2⟩
    ·rename_i env' q2;rw[q2];exact λσ' H' r'=>⟨env',r',p2⟩
    ·rename_i env' q2;rw[q2];exact p2
    ·rename_i n1 n2 n3
     cases q2:g (mF.set i (.fro xs[k]))with
     | next e=>exact absurd q2 (n1 e)
     | cont e=>exact absurd q2 (n2 e)
     | brk e=>exact absurd q2 (n3 e)
     | ret d=>rw[q2]at p2;exact p2
     | bad=>rw[q2]at p2;exact p2
     | rete d e=>rw[q2]at p2;exact p2
   ·exact p2.elim
  ·rintro σ2 H2 ⟨mF,r2,p2⟩
   rw[hl,U0]at p2
   exact p2 σ2 H2 r2
 ·exact p.elim
def lU(c:FT)(g:GS):Nat→EN→SR
 | 0,_=>.bad
 | n+1,env=>match c (rE env)with
  | some true=>(match g env with
   | .next env'=>lU c g n env'
   | .cont env'=>lU c g n env'
   | .brk env'=>.next env'
   | r=>r)
  | some false=>.next env
  | none=>.bad
theorem Zy{n:Nat}{tb:TS}(hc:Pk K tc fc)(h:DS K tb g):DS K (Px tc tb) (lU fc g n):=λB E σ H env r p=>by
 refine⟨λm σ2 H2=>∃mF,Rel K B mF σ2 H2∧Er K B E (lU fc g m mF),⟨n,env,r,p⟩,?_⟩
 rintro m σ2 H2 ⟨mF,r2,p2⟩
 cases m with
 | zero=>exact p2.elim
 | succ m=>
  unfold lU at p2
  split at p2
  ·rename_i q
   refine hc σ2 H2 (rE mF) true _ r2.r q λH3 s=>?_
   rw[if_pos rfl]
   refine⟨λσ' H'=>∃env',Rel K B env' σ' H'∧Er K B E (lU fc g m env'),λσ' H' ⟨env',a1,a2⟩=>⟨m,P5 m,env',a1,a2⟩,?_⟩
   refine h B _ σ2 H3 mF (r2.same s) ?_
   split at p2
   ·rename_i env' q2;rw[q2];exact λσ' H' r'=>⟨env',r',p2⟩
   ·rename_i env' q2;rw[q2];exact λσ' H' r'=>⟨env',r',p2⟩
   ·rename_i env' q2;rw[q2];exact p2
   ·rename_i n1 n2 n3
    cases q2:g mF with
    | next e=>exact absurd q2 (n1 e)
    | cont e=>exact absurd q2 (n2 e)
    | brk e=>exact absurd q2 (n3 e)
    | ret d=>rw[q2]at p2;exact p2
    | bad=>rw[q2]at p2;exact p2
    | rete d e=>rw[q2]at p2;exact p2
  ·rename_i q
   refine hc σ2 H2 (rE mF) false _ r2.r q λH3 s=>?_
   rw[if_neg (by decide)]
   exact p2 σ2 H3 (r2.same s)
  ·exact p2.elim
theorem gq{tg iter:Expr}{body:List Stmt}{wi:TI}{fi:FA}{tb:TS}{i:Nat}(js:List Nat)(hp:PassesOwn (model X.prog X.w) X.A X.env X.xe)(gw:X.calm=true)(hi:XI K X tg iter wi fi)(hg:PG X tg (eG i))(hb:YB K X body tb g)
  (hs:∀x,foldedSetIterable iter X.env x=pure x:=by intro _;rfl):YS K X (.For tg iter body [] pos) (Yn wi (eG i) tb) (Qu js i fi g):=⟨Yo hp gw hi.pi hg hb.ps hs,gn hi.ev hb.ev⟩
theorem Zz{body:List Stmt}{tb:TS}(n:Nat)(hp:PassesOwn (model X.prog X.w) X.A X.env X.xe)(hc:XT K X c tc fc)(hb:YB K X body tb g):YS K X (.While c body [] pos) (Px tc tb) (lU fc g n):=⟨Yj hp hc.pt hb.ps,Zy hc.ev hb.ev⟩
end
end L2


namespace L2
open PySem PySem.Spec PyProof.Rows
inductive Step where
  | ix (k:Nat) | key (k:Key) | fld (C:Addr) (f:Str)
def kids:D→List D
 | .lst ds=>ds
 | .dk _ ds=>ds
 | .ins _ _ ds=>ds
 | _=>[]
def By:D→List D→D
 | .lst _,ds=>.lst ds
 | .dk ks _,ds=>.dk ks ds
 | .ins C nm _,ds=>.ins C nm ds
 | d,_=>d
def Jv:Step→D→Option Nat
 | .ix k,.lst ds=>some k
 | .key k,.dk ks _=>posK ks k
 | .fld C f,.ins C' nm _=>if C'=C then posK nm f else none
 | _,_=>none
def lK:List Step→D→Option D
 | [],d=>some d
 | s::p,d=>(Jv s d).bind λj=>((kids d)[j]?).bind (lK p)
def jR:List Step→D→D→D
 | [],_,d'=>d'
 | s::p,d,d'=>match Jv s d with
  | some j=>(match (kids d)[j]? with
   | some c=>By d ((kids d).set j (jR p c d'))
   | none=>d)
  | none=>d
def stepV(H:Hp)(s:Step)(v:V):Option V:=match v with
 | .ref a=>(match s,H a with
  | .ix k,some (.lst xs)=>xs[k]?
  | .key k,some (.dK kvs)=>tK kvs k
  | .fld C f,some (.ins C' _ fs)=>if C'=C then fs.lookup f else none
  | _,_=>none)
 | _=>none
def Es(H:Hp):List Step→V→Option V
 | [],v=>some v
 | s::p,v=>(stepV H s v).bind (Es H p)
theorem Qv{H H':Hp}(e:aV H H'){s:Step}{v w:V}(h:stepV H s v=some w):stepV H' s v=some w:=by
 cases v with
 | ref a=>
  unfold stepV at h ⊢
  dsimp only at h ⊢
  cases q:H a with
  | none=>rw[q]at h;cases s<;>cases h
  | some o=>rw[e a o q];rw[q]at h;exact h
 | _=>unfold stepV at h;cases h
theorem vM{H H':Hp}(e:aV H H'):∀{p:List Step} {v w:V},Es H p v=some w→Es H' p v=some w
 | [],v,w,h=>h
 | s::p,v,w,h=>by
  unfold Es at h ⊢
  obtain⟨u,h1,h2⟩:=bL h
  rw[Qv e h1]
  exact vM e h2
theorem Qw{nm:List Str}{xs:List V}{f:Str}(h:nm.length=xs.length):(nm.zip xs).lookup f=(posK nm f).bind λj=>xs[j]?:=by
 induction nm generalizing xs with
 | nil=>unfold posK;rfl
 | cons a nm ih=>
  cases xs with
  | nil=>simp at h
  | cons x xs=>
   have ih:=ih (xs:=xs) (by simpa using h)
   unfold posK
   rw[M4,M6]
   by_cases c:a=f
   ·subst c;simp
   ·have c2:(f==a)=false:=by
     rw[beq_eq_false_iff_ne];exact λz=>c z.symm
    rw[c2,if_neg c,ih]
    cases posK nm f<;>rfl
theorem Ow.kids{K:aC}{H:Hp}{d:D}{A:Fp}{v:V}{s:Step}{j:Nat}(h:Ow K H d A v)(q:Jv s d=some j):∃xs T Bt,(∀x,xs[j]?=some x→stepV H s v=some x)∧dI K H (kids d) Bt xs∧Is A (fY T Bt)∧Apart T Bt ∧
  ∀H' ds' B',ds'.length=(kids d).length→dI K H' ds' B' xs→(∀a,T a→H' a=H a)→Apart T B'→Ow K H' (By d ds') (fY T B') v:=by
 cases d with
 | lst ds=>
  unfold Ow at h
  obtain⟨a,xs,B,rfl,h2,h3,h4,h5⟩:=h
  cases s with
  | ix k=>
   unfold Jv at q
   cases q
   refine⟨xs,(·=a),B,λx hx=>?_,h5,h4,λx qx qb=>h3 (qx▸qb),λH' ds' B' hl o f ap=>?_⟩
   ·unfold stepV;dsimp only;rw[h2];exact hx
   ·show Ow K H' (.lst ds') _ _
    unfold Ow
    exact⟨a,xs,B',rfl,(f a rfl).trans h2,ap a rfl,λ_=>Iff.rfl,o⟩
  | _=>unfold Jv at q;cases q
 | dk ks ds=>
  unfold Ow at h
  obtain⟨a,xs,B,rfl,h2,h2',h3,h4,h5⟩:=h
  cases s with
  | key k=>
   have q:posK ks k=some j:=q
   refine⟨xs,(·=a),B,λx hx=>?_,h5,h4,λx qx qb=>h3 (qx▸qb),λH' ds' B' hl o f ap=>?_⟩
   ·unfold stepV;dsimp only;rw[h2];show tK (ks.zip xs) k=_;rw[vK h2',q];exact hx
   ·show Ow K H' (.dk ks ds') _ _
    unfold Ow
    exact⟨a,xs,B',rfl,(f a rfl).trans h2,h2',ap a rfl,λ_=>Iff.rfl,o⟩
  | _=>unfold Jv at q;cases q
 | ins C nm ds=>
  unfold Ow at h
  obtain⟨a,dx,xs,B,rfl,h2,h2',h3,h3',h3'',h4,h5⟩:=h
  cases s with
  | fld C0 k=>
   have q:(if C=C0 then posK nm k else none)=some j:=q
   by_cases hc:C=C0
   rotate_left
   ·rw[if_neg hc]at q;cases q
   rw[if_pos hc]at q
   refine⟨xs,(λx=>x=a∨x=dx),B,λx hx=>?_,h5,h4,λx qx qb=>qx.elim (λz=>h3' (z▸qb)) λz=>h3'' (z▸qb),λH' ds' B' hl o f ap=>?_⟩
   ·unfold stepV;dsimp only;rw[h2];show (if C=C0 then(nm.zip xs).lookup k else none)=_;rw[if_pos hc,Qw h3,q];exact hx
   ·show Ow K H' (.ins C nm ds') _ _
    unfold Ow
    exact⟨a,dx,xs,B',rfl,(f a (.inl rfl)).trans h2,(f dx (.inr rfl)).trans h2',h3,ap a (.inl rfl),ap dx (.inr rfl),λ_=>Iff.rfl,o⟩
  | _=>unfold Jv at q;cases q
 | _=>cases s<;>(unfold Jv at q;cases q)
theorem Ow.at{K:aC}{H:Hp}:∀{p:List Step} {d d1:D} {A:Fp} {v:V},Ow K H d A v→lK p d=some d1→∃w A1 C,Es H p v=some w∧Apart A1 C∧Is A (fY A1 C)∧Ow K H d1 A1 w ∧
    ∀H' d' A',Apart A' C→(∀a,C a→H' a=H a)→wR K H H'→Ow K H' d' A' w→Ow K H' (jR p d d') (fY A' C) v
  | [],d,d1,A,v,h,q=>by
    unfold lK at q
    cases q
    exact⟨v,A,nil,rfl,λ_ _ z=>z,λx=>⟨.inl,λz=>z.elim id False.elim⟩,h,λH' d' A' _ _ _ o=>o.congr λx=>⟨.inl,λz=>z.elim id False.elim⟩⟩
  | s::p,d,d1,A,v,h,q=>by
    unfold lK at q
    obtain⟨j,q1,q2⟩:=bL q
    obtain⟨c,q3,q4⟩:=bL q2
    obtain⟨xs,T,Bt,k1,k2,k3,k4,k5⟩:=h.kids q1
    obtain⟨y,B1,C1,f1,f2,f3,f4,f5⟩:=(cC.mp k2).focus q3
    obtain⟨w,A1,C2,g1,g2,g3,g4,g5⟩:=Ow.at f4 q4
    refine⟨w,A1,fY T (fY C1 C2),?_,?_,?_,g4,λH' d' A' ap fr tk o=>?_⟩
    · unfold Es
      rw[k1 y f1]
      exact g1
    · intro x qx qc
      have b1:B1 x:=(g3 x).mpr (.inl qx)
      rcases qc with qc | qc | qc
      · exact k4 x qc ((f3 x).mpr (.inl b1))
      · exact f2 x b1 qc
      · exact g2 x qx qc
    · intro x
      rw[k3 x]
      constructor
      · rintro(z | z)
        · exact .inr (.inl z)
        · rcases(f3 x).mp z with z | z
          · rcases(g3 x).mp z with z | z
            · exact .inl z
            · exact .inr (.inr (.inr z))
          · exact .inr (.inr (.inl z))
      · rintro(z | z | z | z)
        · exact .inr ((f3 x).mpr (.inl ((g3 x).mpr (.inl z))))
        · exact .inl z
        · exact .inr ((f3 x).mpr (.inr z))
        · exact .inr ((f3 x).mpr (.inl ((g3 x).mpr (.inr z))))
    · have o1:Ow K H' (jR p c d') (fY A' C2) y:=g5 H' d' A' (λx a b=>ap x a (.inr (.inr b))) (λa z=>fr a (.inr (.inr z))) tk o
      have ap1:Apart (fY A' C2) C1:=λx a b=>a.elim (λz=>ap x z (.inr (.inl b))) λz=>f2 x ((g3 x).mpr (.inr z)) b
      have o2:=f5 (Ow K H') (λe B z hb qq=>Ow.frame tk e B z qq λa za=>fr a (.inr (.inl (hb a za)))) (jR p c d') y (fY A' C2) ap1 o1
      rw[set_same f1]at o2
      have o3:=k5 H' ((L2.kids d).set j (jR p c d')) _ (by rw[D7]) (cC.mpr o2) (λa z=>fr a (.inl z)) (λx a b=>by
        rcases b with (b | b) | b
        · exact ap x b (.inl a)
        · exact k4 x a ((f3 x).mpr (.inl ((g3 x).mpr (.inr b))))
        · exact k4 x a ((f3 x).mpr (.inr b)))
      have e:jR (s::p) d d'=By d ((L2.kids d).set j (jR p c d')):=by
        show (match Jv s d with | some j=>_ | none=>_)=_
        rw[q1]
        show (match (L2.kids d)[j]? with | some c=>_ | none=>_)=_
        rw[q3]
      rw[e]
      refine o3.congr λx=>?_
      show (T x∨(A' x∨C2 x)∨C1 x)↔(A' x∨T x∨C1 x∨C2 x)
      constructor
      · rintro(z | (z | z) | z)
        · exact .inr (.inl z)
        · exact .inl z
        · exact .inr (.inr (.inr z))
        · exact .inr (.inr (.inl z))
      · rintro(z | z | z | z)
        · exact .inr (.inl (.inl z))
        · exact .inl z
        · exact .inr (.inr z)
        · exact .inr (.inl (.inr z))
section
variable{K:aC}{B H:Hp}{env:EN}{σ:St}
theorem Rel.at{i:Nat}{p:List Step}{d0 d:D}(h:Rel K B env σ H)(e:env[i]?=some (.own d0))(q:lK p d0=some d):∃v0 w A1 C,σ[i]?=some (some v0)∧Es H p v0=some w∧Ow K H d A1 w∧Apart A1 C∧(∀a,C a→rG H a) ∧
    ∀H' d' A',Apart A' C→(∀a,C a→H' a=H a)→wR K H H'→Ow K H' d' A' w→aV (out H (fY A1 C)) (out H' (fY A' C))→Rel K B (env.set i (.own (jR p d0 d'))) σ H':=by
  obtain⟨A,a,b⟩:=h
  have cl:=jO a
  obtain⟨y,A1,C,h1,h2,h3,h4,k⟩:=a.focus e
  obtain⟨v0,rfl,o⟩:=h4
  obtain⟨w,B1,C1,g1,g2,g3,g4,g5⟩:=o.at q
  refine⟨v0,w,B1,fY C1 C,h1,g1,g4,λx z1 z2=>?_,λx z=>?_,λH' d' A' ap fr tk o' sm=>?_⟩
  · exact z2.elim (g2 x z1) (h2 x ((g3 x).mpr (.inl z1)))
  · exact cl x ((h3 x).mpr (z.elim (λz=>.inl ((g3 x).mpr (.inr z))) .inr))
  · have o2:=g5 H' d' A' (λx z1 z2=>ap x z1 (.inl z2)) (λx z=>fr x (.inl z)) tk o'
    have ap2:Apart (fY A' C1) C:=λx z1 z2=>z1.elim (λz=>ap x z (.inr z2)) λz=>h2 x ((g3 x).mpr (.inr z)) z2
    have hA:Is A (fY B1 (fY C1 C)):=λx=>by
      rw[h3 x]
      constructor
      · rintro(z | z)
        · exact((g3 x).mp z).elim .inl λz=>.inr (.inl z)
        · exact .inr (.inr z)
      · rintro(z | z | z)
        · exact .inl ((g3 x).mpr (.inl z))
        · exact .inl ((g3 x).mpr (.inr z))
        · exact .inr z
    have g:aV (out H A) (out H' (fY (fY A' C1) C)):=λx u ex=>by
      obtain⟨e1,e2⟩:=cH.mp ex
      have:=sm x u (cH.mpr ⟨λz=>e1 ((hA x).mpr z),e2⟩)
      obtain⟨e3,e4⟩:=cH.mp this
      exact cH.mpr ⟨λz=>e3 (z.elim (λz=>z.elim .inl λz=>.inr (.inl z)) λz=>.inr (.inr z)),e4⟩
    have s:=k (iY K H' (out H' (fY (fY A' C1) C))) (λs D z hb qq=>by
      cases s with
      | no=>exact qq
      | fro d=>obtain⟨q1,v,q2,q3⟩:=qq;exact⟨q1,v,q2,g.rv _ _ q3⟩
      | inn v d=>exact⟨qq.1,Ow.frame tk _ _ _ qq.2 λx zx=>fr x (.inr (hb x zx))⟩
      | own d=>obtain⟨v,q1,q2⟩:=qq;exact⟨v,q1,Ow.frame tk _ _ _ q2 λx zx=>fr x (.inr (hb x zx))⟩) (.own (jR p d0 d')) (some v0) (fY A' C1) ap2 ⟨v0,rfl,o2⟩
    rw[set_same h1]at s
    exact⟨_,s,b.trans g⟩
theorem Rel.Jw{i:Nat}{p:List Step}{d0:D}{ds:List D}(h:Rel K B env σ H)(e:env[i]?=some (.own d0))(q:lK p d0=some (.lst ds)):∃v0 a xs Bs,σ[i]?=some (some v0)∧Es H p v0=some (.ref a)∧H a=some (.lst xs)∧¬Bs a∧dI K H ds Bs xs ∧
    ∀H2 ds' xs' Bn,aV H H2→dI K H2 ds' Bn xs'→(∀b,Bn b→Bs b∨H b=none)→Rel K B (env.set i (.own (jR p d0 (.lst ds')))) σ (upd H2 a (.lst xs')):=by
  obtain⟨v0,w,A1,C,h1,h2,h3,h4,h5,h6⟩:=h.at e q
  unfold Ow at h3
  obtain⟨a,xs,Bs,rfl,o2,o3,o4,o5⟩:=h3
  refine⟨v0,a,xs,Bs,h1,h2,o2,o3,o5,λH2 ds' xs' Bn s o hb=>?_⟩
  have ur:¬Bn a:=λz=>(hb a z).elim o3 λz=>by rw[o2]at z;cases z
  have hC:∀x,C x→¬x=a:=λx z y=>h4 x ((o4 x).mpr (.inl y)) z
  have BJ:H2 a=some (.lst xs):=s a _ o2
  refine h6 _ (.lst ds') (fY (·=a) Bn) (λx z1 z2=>?_) (λx z=>?_) (s.tk.trans (uJ (mO BJ))) ?_ (λx u ex=>?_)
  · rcases z1 with z1 | z1
    · exact hC x z2 z1
    · rcases hb x z1 with z | z
      · exact h4 x ((o4 x).mpr (.inr z)) z2
      · obtain⟨⟨u,eu⟩,_⟩:=h5 x z2
        rw[z]at eu;cases eu
  · obtain⟨⟨u,eu⟩,_⟩:=h5 x z
    rw[bY (hC x z),eu,s x u eu]
  · unfold Ow
    refine⟨a,xs',Bn,rfl,bO,ur,λ_=>Iff.rfl,dI.frame (uJ (mO BJ)) _ _ _ o λx zx=>bY λy=>ur (y▸zx)⟩
  · obtain⟨e1,e2⟩:=cH.mp ex
    have na:x≠a:=λy=>e1 (.inl ((o4 x).mpr (.inl y)))
    refine cH.mpr ⟨λz=>?_,by rw[bY na];exact s x u e2⟩
    rcases z with (z | z) | z
    · exact na z
    · rcases hb x z with z | z
      · exact e1 (.inl ((o4 x).mpr (.inr z)))
      · rw[z]at e2;cases e2
    · exact e1 (.inr z)
theorem Rel.aAq{i:Nat}{p:List Step}{d0:D}{ks:List Key}{ds:List D}(h:Rel K B env σ H)(e:env[i]?=some (.own d0))(q:lK p d0=some (.dk ks ds)):∃v0 a xs Bs,σ[i]?=some (some v0)∧Es H p v0=some (.ref a)∧H a=some (.dK (ks.zip xs))∧ks.length=xs.length∧¬Bs a∧dI K H ds Bs xs ∧
    ∀H2 ks' ds' xs' Bn,aV H H2→ks'.length=xs'.length→dI K H2 ds' Bn xs'→(∀b,Bn b→Bs b∨H b=none)→Rel K B (env.set i (.own (jR p d0 (.dk ks' ds')))) σ (upd H2 a (.dK (ks'.zip xs'))):=by
  obtain⟨v0,w,A1,C,h1,h2,h3,h4,h5,h6⟩:=h.at e q
  unfold Ow at h3
  obtain⟨a,xs,Bs,rfl,o2,o2',o3,o4,o5⟩:=h3
  refine⟨v0,a,xs,Bs,h1,h2,o2,o2',o3,o5,λH2 ks' ds' xs' Bn s hl o hb=>?_⟩
  have ur:¬Bn a:=λz=>(hb a z).elim o3 λz=>by rw[o2]at z;cases z
  have hC:∀x,C x→¬x=a:=λx z y=>h4 x ((o4 x).mpr (.inl y)) z
  have BJ:H2 a=some (.dK (ks.zip xs)):=s a _ o2
  refine h6 _ (.dk ks' ds') (fY (·=a) Bn) (λx z1 z2=>?_) (λx z=>?_) (s.tk.trans (uJ (Bh BJ))) ?_ (λx u ex=>?_)
  · rcases z1 with z1 | z1
    · exact hC x z2 z1
    · rcases hb x z1 with z | z
      · exact h4 x ((o4 x).mpr (.inr z)) z2
      · obtain⟨⟨u,eu⟩,_⟩:=h5 x z2
        rw[z]at eu;cases eu
  · obtain⟨⟨u,eu⟩,_⟩:=h5 x z
    rw[bY (hC x z),eu,s x u eu]
  · unfold Ow
    refine⟨a,xs',Bn,rfl,bO,hl,ur,λ_=>Iff.rfl,dI.frame (uJ (Bh BJ)) _ _ _ o λx zx=>bY λy=>ur (y▸zx)⟩
  · obtain⟨e1,e2⟩:=cH.mp ex
    have na:x≠a:=λy=>e1 (.inl ((o4 x).mpr (.inl y)))
    refine cH.mpr ⟨λz=>?_,by rw[bY na];exact s x u e2⟩
    rcases z with (z | z) | z
    · exact na z
    · rcases hb x z with z | z
      · exact e1 (.inl ((o4 x).mpr (.inr z)))
      · rw[z]at e2;cases e2
    · exact e1 (.inr z)
end
end L2


namespace L2
open PySem PySem.Spec PyProof.Rows
abbrev FP:=DE→Option (List Step)
def ie(K:aC)(t:TE)(i:Nat)(π:FP):Prop:=∀(σ:St)(H:Hp)(e:DE)(v0:V)(p:List Step)(v:V)(Q:VK),pY K H e σ→σ[i]?=some (some v0)→π e=some p→Es H p v0=some v→(∀H',aV H H'→Q v H')→t σ H Q
structure XP(K:aC)(X:Cx)(e:Expr)(t:TE)(i:Nat)(π:FP):Prop where
 hk:X.K=K
 pe:PE X e t
 ev:ie K t i π
theorem Mm{H:Hp}{s:Step}:∀{p:List Step} {v0 v:V},Es H (p++[s]) v0=some v→∃w,Es H p v0=some w∧stepV H s w=some v
 | [],v0,v,h=>by
  rw[Q1]at h
  unfold Es at h
  obtain⟨w,h1,h2⟩:=bL h
  unfold Es at h2
  cases h2
  exact⟨v0,rfl,h1⟩
 | s'::p,v0,v,h=>by
  rw[K8]at h
  unfold Es at h
  obtain⟨u,h1,h2⟩:=bL h
  obtain⟨w,h3,h4⟩:=Mm h2
  refine⟨w,?_,h4⟩
  unfold Es
  rw[h1]
  exact h3
theorem BK{H:Hp}{k:Nat}{w v:V}(h:stepV H (.ix k) w=some v):∃a xs,w=.ref a∧H a=some (.lst xs)∧xs[k]?=some v:=by
 cases w with
 | ref a=>
  unfold stepV at h
  dsimp only at h
  cases q:H a with
  | none=>rw[q]at h;cases h
  | some o=>
   rw[q]at h
   cases o with
   | lst xs=>exact⟨a,xs,rfl,q,h⟩
   | _=>cases h
 | _=>unfold stepV at h;cases h
def gU:FP:=λ_=>some []
def Ul(π:FP)(g:FE):FP:=λe=>(π e).bind λp=>(g e).bind λd=>match d with
 | .int k=>if 0≤k then some (p++[.ix k.toNat])else none
 | _=>none
section
variable{K:aC}{X:Cx}{e a b c:Expr}{es:List Expr}{t ta tb te:TE}{f g:FE}{tA:TA}{fs:FA}{pos:Pos}{i j:Nat}{π:FP}{st:Stmt}
theorem pA(h:PE X e (iK i))(hk:X.K=K:=by rfl):XP K X e (iK i) i gU:=⟨hk,h,λσ H e v0 p v Q re h1 h2 h3 k=>by
 cases h2
 unfold Es at h3
 cases h3
 exact⟨v0,h1,k H (aV.refl _)⟩⟩
theorem Ca(h:XP K X a ta i π)(hb:XR K X b tb g)(hs:zP b):XP K X (.Subscript a b pos) (Am (ZP K) ta tb) i (Ul π g):=⟨h.hk,Tp (Ue h.hk) h.pe hb.pe hs,λσ H e v0 p v Q re h1 h2 h3 k=>by
 unfold Ul at h2
 obtain⟨p0,q1,q2⟩:=bL h2
 obtain⟨d,q3,q4⟩:=bL q2
 split at q4
 ·rename_i n
  split at q4
  ·rename_i hn
   cases q4
   obtain⟨w,w1,w2⟩:=Mm h3
   obtain⟨ad,xs,rfl,w3,w4⟩:=BK w2
   refine h.ev σ H e v0 p0 _ _ re h1 q1 w1 λH1 s1=>hb.ev σ H1 H1 e _ _ (Zn.self K H1) (re.same s1) q3 λy H2 Z2 s2 t2 z2 ry=>?_
   unfold Rv at ry
   exact .inl ⟨ad,xs,n,v,rfl,ry,jC.of (s2 _ _ (s1 _ _ w3)),aAj hn w4,k H2 (s1.trans s2)⟩
  ·cases q4
 ·cases q4⟩
def xO(i:Nat)(π:FP)(f:FE):GS:=λenv=>match env[i]?,π (rE env),f (rE env)with
 | some (.own d0),some p,some d=>(match lK p d0 with
  | some (.lst ds)=>if ds.length<100000 then .next (env.set i (.own (jR p d0 (.lst (ds++[d])))))else .bad
  | _=>.bad)
 | _,_,_=>.bad
theorem Cd{H H1:Hp}{A:Fp}{ds:List D}{xs:List V}{N:Fp}(o:dI K H ds A xs)(fr:∀a,N a→H a=none):Apart A N:=λx q1 q2=>by
 obtain⟨⟨u,eu⟩,_⟩:=dI.cells _ _ _ o x q1
 rw[fr x q2]at eu;cases eu
theorem ig(h:ie K ta i π)(he:Bl K te f):VG K (pD (Pj K "list" qD ta (dM te kO))) (xO i π f):=λB E σ H env r p=>by
 unfold xO at p
 split at p
 ·rename_i d0 pp d q1 q2 q3
  split at p
  ·rename_i ds q4
   split at p
   ·rename_i hl
    obtain⟨v0,a,xs,Bs,k1,k2,k3,k4,k5,k6⟩:=r.Jw q1 q4
    refine h σ H (rE env) v0 pp _ _ r.r k1 q2 k2 λH1 s1=>⟨.inl ⟨rfl,xs,jC.of (s1 _ _ k3)⟩,?_⟩
    refine he σ H1 (rE env) d _ (r.r.same s1) q3 λy H2 s2 n=>?_
    obtain⟨N,o,fr⟩:=n.back s1
    have s12:=s1.trans s2
    refine⟨a,xs,y,rfl,rfl,s12 _ _ k3,Fw (by rw[(dI.rv _ _ _ k5).length];omega),p _ ?_⟩
    exact k6 H2 (ds++[d]) (xs++[y]) (fY Bs N) s12 (cC.mpr ((cC.mp (k5.same s12)).snoc o (Cd (H1:=H) k5 fr))) λb z=>z.imp id (fr b)
   ·exact p.elim
  ·exact p.elim
 ·exact p.elim
theorem Jx{m:Str}{apos cpos:Pos}(h:XP K X a ta i π)(he:XN K X e te f)(hp:PE X a ta→PE X e te→PS X (.Expr (.Call (.Attribute a m apos) [e] [] cpos) pos) (pD (Pj K "list" qD ta (dM te kO)))):YS K X (.Expr (.Call (.Attribute a m apos) [e] [] cpos) pos) (pD (Pj K "list" qD ta (dM te kO))) (xO i π f):=⟨hp h.pe he.pe,(ig h.ev he.ev).ds⟩
def jF(i:Nat)(π:FP)(g f:FE):GS:=λenv=>match env[i]?,π (rE env),g (rE env),f (rE env)with
 | some (.own d0),some p,some (.int k),some d=>(match lK p d0 with
  | some (.lst ds)=>(match Ek ds.length k with
   | some j=>.next (env.set i (.own (jR p d0 (.lst (ds.set j d)))))
   | none=>.bad)
  | _=>.bad)
 | _,_,_,_=>.bad
theorem Qx{n:Nat}{k:Int}{j:Nat}(h:Ek n k=some j):j<n:=by
 unfold Ek at h
 split at h
 ·split at h
  ·cases h;omega
  ·cases h
 ·split at h
  ·cases h;omega
  ·cases h
theorem PK(h:ie K ta i π)(hx:zQ K tb g)(he:Bl K te f):VG K (lG te (Il ta tb vG)) (jF i π g f):=λB E σ H env r p=>by
 unfold jF at p
 split at p
 ·rename_i d0 pp k d q1 q2 q3 uv
  split at p
  ·rename_i ds q4
   split at p
   ·rename_i j q5
    obtain⟨v0,a,xs,Bs,k1,k2,k3,k4,k5,k6⟩:=r.Jw q1 q4
    refine he σ H (rE env) d _ r.r uv λy H1 s1 n=>?_
    refine h σ H1 (rE env) v0 pp _ _ (r.r.same s1) k1 q2 (vM s1 k2) λH2 s2=>hx σ H2 H2 (rE env) _ _ (Zn.self K H2) (r.r.same (s1.trans s2)) q3 λy' H3 Z3 s3 t3 z3 ry=>?_
    unfold Rv at ry
    have zW:=s1.trans (s2.trans s3)
    obtain⟨N,o,fr⟩:=n.same (s2.trans s3)
    have hlen:=(dI.rv _ _ _ k5).length
    refine⟨a,xs,k,j,rfl,ry,zW _ _ k3,by rw[hlen];exact q5,p _ ?_⟩
    obtain⟨y0,A1,C,f1,f2,f3,f4,f5⟩:=(cC.mp (k5.same zW)).focus (A6 (Qx q5))
    have ap:Apart N C:=λx q1 q2=>Cd (H1:=H) k5 fr x ((f3 x).mpr (.inr q2)) q1
    exact k6 H3 (ds.set j d) (xs.set j y) (fY N C) zW (cC.mpr (f5 (Ow K H3) (λ_ _ _ _ qq=>qq) d y N ap o)) λb z=>z.elim (λz=>.inr (fr b z)) λz=>.inl ((f3 b).mpr (.inr z))
   ·exact p.elim
  ·exact p.elim
 ·exact p.elim
theorem lD{pos':Pos}(h:XP K X a ta i π)(hx:XR K X b tb g)(he:XN K X e te f)(hp:PE X a ta→PE X b tb→PE X e te→PS X (.Assign [.Subscript a b pos'] e pos) (lG te (Il ta tb vG))):YS K X (.Assign [.Subscript a b pos'] e pos) (lG te (Il ta tb vG)) (jF i π g f):=⟨hp h.pe hx.pe he.pe,(PK h.ev hx.ev he.ev).ds⟩
def Gi(i:Nat)(π:FP)(g f:FE):GS:=λenv=>match env[i]?,π (rE env),g (rE env),f (rE env)with
 | some (.own d0),some p,some k,some d=>(match lK p d0,Zm k with
  | some (.dk ks ds),some k=>if d.jA=true∧ks.length<100000 then .next (env.set i (.own (jR p d0 (.dk (Jo ks k) (putD ks ds k d)))))else .bad
  | _,_=>.bad)
 | _,_,_,_=>.bad
theorem Mp{H:Hp}{d:D}{v:V}(o:Ow K H d nil v)(k:Key):∀{ks:List Key} {ds:List D} {A:Fp} {xs:List V},ks.length=xs.length→dI K H ds A xs→∃A',(∀x,A' x→A x)∧dI K H (S8 (λk' d'=>if k'=k then d else d') ks ds) A' (S8 (λk' d'=>if k'=k then v else d') ks xs)
 | [],ds,A,xs,hl,h=>by
  cases xs with
  | nil=>exact⟨nil,λ_ z=>z.elim,by rw[R1,R1];unfold dI;exact⟨λ_ z=>z,rfl⟩⟩
  | cons x xs=>simp at hl
 | k0::ks,[],A,xs,hl,h=>by unfold dI at h;rw[h.2]at hl;simp at hl
 | k0::ks,d0::ds,A,xs,hl,h=>by
  unfold dI at h
  obtain⟨y,yt,A1,A2,rfl,h2,h3,h4,h5⟩:=h
  obtain⟨A',a1,a2⟩:=Mp o k (by simpa using hl) h5
  by_cases c:k0=k
  ·refine⟨A',λx q=>(h3 x).mpr (.inr (a1 x q)),?_⟩
   rw[K2,K2,if_pos c,if_pos c]
   unfold dI
   exact⟨v,_,nil,A',rfl,λ_ z=>z.elim,λx=>⟨.inr,λz=>z.elim False.elim id⟩,o,a2⟩
  ·refine⟨fY A1 A',λx q=>(h3 x).mpr (q.imp id (a1 x)),?_⟩
   rw[K2,K2,if_neg c,if_neg c]
   unfold dI
   exact⟨y,_,A1,A',rfl,λx z1 z2=>h2 x z1 (a1 x z2),λ_=>Iff.rfl,h4,a2⟩
theorem PL(h:ie K ta i π)(hx:zQ K tb g)(he:zQ K te f):VG K (Tt ta tb te) (Gi i π g f):=λB E σ H env r p=>by
 unfold Gi at p
 split at p
 ·rename_i d0 pp kd d q1 q2 q3 uv
  split at p
  ·rename_i ks ds k q4 q5
   split at p
   ·rename_i hc
    obtain⟨v0,a,xs,Bs,k1,k2,k3,yd,k4,k5,k6⟩:=r.aAq q1 q4
    refine he σ H H (rE env) d _ (Zn.self K H) r.r uv λy H1 Z1 s1 t1 z1 ry=>?_
    refine h σ H1 (rE env) v0 pp _ _ (r.r.same s1) k1 q2 (vM s1 k2) λH2 s2=>hx σ H2 H2 (rE env) _ _ (Zn.self K H2) (r.r.same (s1.trans s2)) q3 λy' H3 Z3 s3 t3 z3 ry'=>?_
    have zW:=s1.trans (s2.trans s3)
    have o:Ow K H3 d nil y:=uE d y hc.1 ((z1.sm.trans (s2.trans s3)).rv _ _ ry)
    have ek:=Ud q5 (z3.sm.rv _ _ ry')
    refine⟨a,_,rfl,.inl ⟨ks.zip xs,k,zW _ _ k3,ek,Fw (by rw[N6];omega),rfl⟩,p _ ?_⟩
    rw[Zk yd]
    have ow3:=k5.same zW
    have hl3:=(dI.rv _ _ _ k5).length
    by_cases c:(posK ks k).isSome=true
    ·obtain⟨A',a1,a2⟩:=Mp o k yd ow3
     refine k6 H3 (Jo ks k) (putD ks ds k d) (putD ks xs k y) A' zW (Mi yd) ?_ λb z=>.inl (a1 b z)
     unfold putD
     rw[if_pos c,if_pos c]
     exact a2
    ·refine k6 H3 (Jo ks k) (putD ks ds k d) (putD ks xs k y) (fY Bs nil) zW (Mi yd) ?_ λb z=>z.elim .inl False.elim
     unfold putD
     rw[if_neg c,if_neg c]
     exact cC.mpr ((cC.mp ow3).snoc o λ_ _ z=>z)
   ·exact p.elim
  ·exact p.elim
 ·exact p.elim
theorem PN{pos':Pos}(h:XP K X a ta i π)(hx:XR K X b tb g)(he:XR K X e te f)(hp:PE X a ta→PE X b tb→PE X e te→PS X (.Assign [.Subscript a b pos'] e pos) (Tt ta tb te)):YS K X (.Assign [.Subscript a b pos'] e pos) (Tt ta tb te) (Gi i π g f):=⟨hp h.pe hx.pe he.pe,(PL h.ev hx.ev he.ev).ds⟩
theorem xP{α β:Type}{R:α→Fp→β→Prop}:∀{ds:List α} {A:Fp} {ys:List β} (k:Nat),gJ R ds A ys→∃A',(∀x,A' x→A x)∧gJ R (ds.eraseIdx k) A' (ys.eraseIdx k)
 | [],A,ys,k,h=>⟨A,λ_ z=>z,by rw[h.2];exact⟨h.1,rfl⟩⟩
 | d::ds,A,ys,0,⟨y,yt,A1,A2,h1,h2,h3,h4,h5⟩=>⟨A2,λx z=>(h3 x).mpr (.inr z),by rw[h1];exact h5⟩
 | d::ds,A,ys,k+1,⟨y,yt,A1,A2,h1,h2,h3,h4,h5⟩=>by
  obtain⟨A',a1,a2⟩:=xP k h5
  refine⟨fY A1 A',λx z=>(h3 x).mpr (z.imp id (a1 x)),?_⟩
  rw[h1,J9,J9]
  exact⟨y,_,A1,A',rfl,λx z1 z2=>h2 x z1 (a1 x z2),λ_=>Iff.rfl,h4,a2⟩
def sE(i j:Nat)(f:FE):GS:=λenv=>match env[i]?,env[j]?,f (rE env)with
 | some (.own (.lst ds)),some (.own (.lst es)),some (.int k)=>if i≠j∧ds.length<100000∧0≤k∧k<es.length∧es.length≤100000 then(match es[k.toNat]? with
   | some d=>if d.jA=true then .next ((env.set j (.own (.lst (es.eraseIdx k.toNat)))).set i (.own (.lst (ds++[d]))))else .bad
   | none=>.bad)else .bad
 | _,_,_=>.bad
theorem Wg(he:zQ K te f):DS K (pD (Pj K "list" qD (iK i) (dM (Pj K "list" uC (iK j) (dM te kO)) kO))) (sE i j f):=λB E σ H env r p=>by
 unfold sE at p
 split at p
 ·rename_i ds es k q1 q2 q3
  split at p
  ·rename_i hc
   obtain⟨c1,c2,c3,c4,c5⟩:=hc
   split at p
   ·rename_i d q4
    split at p
    ·rename_i im
     obtain⟨w0,b,ys,Cs,m1,m2,m3,m4,m5,m6⟩:=r.Jw (p:=[]) q2 rfl
     obtain⟨v0,a,xs,Bs,k1,k2,k3,k4,k5,k6⟩:=r.Jw (p:=[]) q1 rfl
     have e1:v0=.ref a:=by unfold Es at k2;exact E1 k2
     have e2:w0=.ref b:=by unfold Es at m2;exact E1 m2
     subst e1 e2
     refine⟨_,k1,.inl ⟨rfl,xs,jC.of k3⟩,⟨_,m1,.inl ⟨rfl,ys,jC.of m3⟩,?_⟩⟩
     refine he σ H H (rE env) _ _ (Zn.self K H) r.r q3 λy H1 Z1 s1 t1 z1 ry=>?_
     unfold Rv at ry
     have hly:=(dI.rv _ _ _ m5).length
     have hlx:=(dI.rv _ _ _ k5).length
     obtain⟨x',hx',rx'⟩:=(dI.rv _ _ _ m5).get q4
     refine⟨b,ys,k,k.toNat,x',rfl,by rw[ry],s1 _ _ m3,by omega,by omega,seqIndex_of c3 (by rw[hly];exact c4),hx',?_⟩
     have o1:=m5.same s1
     obtain⟨A',a1,a2⟩:=xP k.toNat (cC.mp o1)
     have r1:=m6 H1 (es.eraseIdx k.toNat) (ys.eraseIdx k.toNat) A' s1 (cC.mpr a2) λx z=>.inl (a1 x z)
     have r1':Rel K B (env.set j (.own (.lst (es.eraseIdx k.toNat)))) σ (upd H1 b (.lst (ys.eraseIdx k.toNat))):=r1
     have ye:(env.set j (.own (.lst (es.eraseIdx k.toNat))))[i]?=some (.own (.lst ds)):=by rw[J8,if_neg (Ne.symm c1)];exact q1
     obtain⟨v0',a',xs',Bs',n1,n2,n3,n4,n5,n6⟩:=r1'.Jw (p:=[]) ye rfl
     rw[k1]at n1
     cases n1
     have e3:a'=a:=by unfold Es at n2;cases n2;rfl
     subst e3
     have ne:a'≠b:=by
      intro z
      subst z
      obtain⟨A0,sA,_⟩:=r
      obtain⟨y1,A1,C,f1,f2,f3,f4,f5⟩:=sA.focus q1
      obtain⟨v1,ev1,o1⟩:=f4
      have g1:=f5 (iY K H (out H A0)) (λ_ _ _ _ qq=>qq) (.own (.lst ds)) (some v1) A1 f2 ⟨v1,rfl,o1⟩
      rw[k1]at f1
      cases f1
      cases ev1
      unfold Ow at o1
      obtain⟨p1,_,_,ep1,_,_,ip1,_⟩:=o1
      cases ep1
      have other:∀{l:EN} {A:Fp} {ys:St} (i j:Nat),gJ (iY K H (out H A0)) l A ys→i≠j→∀s s',l[i]?=some s→l[j]?=some s'→∃y y' A1 A2,ys[i]?=some y∧ys[j]?=some y'∧iY K H (out H A0) s A1 y∧iY K H (out H A0) s' A2 y'∧Apart A1 A2:=by
       intro l
       induction l with
       | nil=>intro A ys i j _ _ s s' h1 _;simp at h1
       | cons d l ih=>
        rintro A ys i j ⟨y,yt,B1,B2,rfl,h2,h3,h4,h5⟩ hij s s' h6 h7
        cases i with
        | zero=>
         cases j with
         | zero=>exact absurd rfl hij
         | succ j=>
          simp at h6
          subst h6
          obtain⟨y2,A3,C3,w1,w2,w3,w4,_⟩:=h5.focus (i:=j) (d:=s') (by simpa using h7)
          exact⟨y,y2,B1,A3,rfl,by simpa using w1,h4,w4,λx z1 z2=>h2 x z1 ((w3 x).mpr (.inl z2))⟩
        | succ i=>
         cases j with
         | zero=>
          simp at h7
          subst h7
          obtain⟨y2,A3,C3,w1,w2,w3,w4,_⟩:=h5.focus (i:=i) (d:=s) (by simpa using h6)
          exact⟨y2,y,A3,B1,by simpa using w1,rfl,w4,h4,λx z1 z2=>h2 x z2 ((w3 x).mpr (.inl z1))⟩
         | succ j=>
          obtain⟨y2,y3,A3,A4,w1,w2,w3,w4,w5⟩:=ih i j h5 (λz=>hij (by rw[z])) s s' (by simpa using h6) (by simpa using h7)
          exact⟨y2,y3,A3,A4,by simpa using w1,by simpa using w2,w3,w4,w5⟩
      obtain⟨y2,y3,A3,A4,w1,w2,w3,w4,w5⟩:=other i j sA c1 _ _ q1 q2
      rw[k1]at w1;cases w1
      rw[m1]at w2;cases w2
      obtain⟨_,ea,oa⟩:=w3
      obtain⟨_,eb,ob⟩:=w4
      cases ea
      cases eb
      unfold Ow at oa ob
      obtain⟨p1,_,_,e1,_,_,i1,_⟩:=oa
      obtain⟨p2,_,_,e2,_,_,i2,_⟩:=ob
      cases e1
      cases e2
      exact w5 _ ((i1 _).mpr (.inl rfl)) ((i2 _).mpr (.inl rfl))
     have n3':H1 a'=some (.lst xs'):=by rw[bY ne]at n3;exact n3
     have exx:xs'=xs:=by have:=s1 _ _ k3;rw[n3']at this;cases this;rfl
     subst exx
     have imo:Ow K (upd H1 b (.lst (ys.eraseIdx k.toNat))) d nil x':=Ow.frame (uJ (mO (s1 _ _ m3))) _ _ _ (uE d x' im (s1.rv _ _ rx')) λ_ z=>z.elim
     refine⟨a',xs',x',rfl,rfl,n3,Fw (by omega),p _ _ ?_⟩
     exact n6 _ (ds++[d]) (xs'++[x']) (fY Bs' nil) (aV.refl _) (cC.mpr ((cC.mp n5).snoc imo λ_ _ z=>z)) λx z=>z.elim .inl False.elim
    ·exact p.elim
   ·exact p.elim
  ·exact p.elim
 ·exact p.elim
end
end L2


namespace L2
open PySem PySem.Spec PyProof.Rows
def Qy(K:aC)(B:Hp)(R:Fp)(env:EN)(σ:St)(H:Hp):Prop:=∃A,gJ (iY K H (out H (fY A R))) env A σ∧Apart A R∧aV B (out H (fY A R))
section
variable{K:aC}{B H H':Hp}{env:EN}{σ:St}{R R' A1:Fp}
theorem Rel.x(h:Rel K B env σ H)(s:aV H H')(f:∀a,R a→H a=none):Qy K B R env σ H':=by
 obtain⟨A,a,b⟩:=h
 have cl:=jO a
 have g:aV (out H A) (out H' (fY A R)):=gC s λx q=>q.imp id (f x)
 refine⟨A,a.mono λe C z _ q=>q.same s g,λx q1 q2=>?_,b.trans g⟩
 obtain⟨⟨u,eu⟩,_⟩:=cl x q1
 rw[f x q2]at eu;cases eu
theorem Qy.own{i:Nat}{d:D}{v:V}(h:Qy K B R env σ H)(e:Is R (fY A1 R'))(ap:Apart A1 R')(o:Ow K H d A1 v)(hi:i<env.length):Qy K B R' (env.set i (.own d)) (σ.set i (some v)) H:=by
 obtain⟨A,a,aR,b⟩:=h
 obtain⟨y,A0,C,h1,h2,h3,h4,k⟩:=a.focus (A6 hi)
 have g:aV (out H (fY A R)) (out H (fY (fY A1 C) R')):=gC (aV.refl _) λx q=>by
  rcases q with (q | q) | q
  ·exact .inl (.inr ((e x).mpr (.inl q)))
  ·exact .inl (.inl ((h3 x).mpr (.inr q)))
  ·exact .inl (.inr ((e x).mpr (.inr q)))
 refine⟨fY A1 C,k _ (λs D z _ q=>q.same (aV.refl _) g) (.own d) (some v) A1 (λx q1 q2=>aR x ((h3 x).mpr (.inr q2)) ((e x).mpr (.inl q1))) ⟨v,rfl,o⟩,λx q1 q2=>?_,b.trans g⟩
 rcases q1 with q1 | q1
 ·exact ap x q1 q2
 ·exact aR x ((h3 x).mpr (.inr q1)) ((e x).mpr (.inr q2))
theorem Qy.done(h:Qy K B R env σ H)(e:None R):Rel K B env σ H:=by
 obtain⟨A,a,aR,b⟩:=h
 have g:aV (out H (fY A R)) (out H A):=gC (aV.refl _) λx q=>.inl (.inl q)
 exact⟨A,a.mono λs D z _ q=>q.same (aV.refl _) g,b.trans g⟩
end
def uK:List Nat→SQ
 | []=>YK
 | i::is=>Te (eG i) (uK is)
def mG:EN→List Nat→List D→EN
 | env,i::is,d::ds=>mG (env.set i (.own d)) is ds
 | env,_,_=>env
theorem Mq{K:aC}{B H:Hp}{Q:St→Hp→Prop}:∀{is:List Nat} {ds:List D} {xs:List V} {R:Fp} {env:EN} {σ:St},Qy K B R env σ H→dI K H ds R xs→is.length=ds.length→(∀i∈is,i<env.length) →
  (∀σ',Rel K B (mG env is ds) σ' H→Q σ' H)→uK is xs σ H Q
 | [],ds,xs,R,env,σ,r,o,hl,hi,k=>by
  cases ds with
  | cons d ds=>simp at hl
  | nil=>
   unfold dI at o
   unfold uK
   exact⟨o.2,k σ (by unfold mG;exact r.done o.1)⟩
 | i::is,ds,xs,R,env,σ,r,o,hl,hi,k=>by
  cases ds with
  | nil=>simp at hl
  | cons d ds=>
   unfold dI at o
   obtain⟨y,yt,A1,A2,rfl,h2,h3,h4,h5⟩:=o
   unfold uK
   refine⟨y,yt,rfl,?_⟩
   have hi0:=hi i E5
   exact Mq (r.own h3 h2 h4 hi0) h5 (by simpa using hl) (λj hj=>by rw[D7];exact hi j (D5 _ hj)) λσ' r'=>k σ' (by unfold mG;exact r')
def oJ(is:List Nat)(f:FE):GS:=λenv=>match f (rE env)with
 | some (.tup ds)=>if is.length=ds.length∧is.all (λi=>decide (i<env.length))=true then .next (mG env is ds)else .bad
 | _=>.bad
section
variable{K:aC}{X:Cx}{e a b c:Expr}{es:List Expr}{t ta tb te:TE}{f g:FE}{tA:TA}{fs:FA}{pos:Pos}{i j:Nat}{π:FP}{st:Stmt}
theorem Wh{is:List Nat}{n:Nat}(h:Bl K te f)(hn:n=is.length):DS K (lG te (Yi K n (uK is))) (oJ is f):=λB E σ H env r p=>by
 unfold oJ at p
 split at p
 ·rename_i ds q
  split at p
  ·rename_i hc
   refine h σ H (rE env) _ _ r.r q λv H' s ⟨N,o,fr⟩=>?_
   unfold Ow at o
   obtain⟨ad,xs,rfl,o1,o2⟩:=o
   refine⟨ad,xs,rfl,o1,by rw[(dI.rv _ _ _ o2).length,hn,hc.1],?_⟩
   exact Mq (r.x s fr) o2 hc.1 (λi hi=>of_decide_eq_true (F3.mp hc.2 i hi)) λσ' r'=>p σ' H' r'
  ·exact p.elim
 ·exact p.elim
theorem Gj{is:List Nat}{n:Nat}{tg:Expr}(h:XN K X e te f)(hp:PE X e te→PS X (.Assign [tg] e pos) (lG te (Yi K n (uK is))))(hn:n=is.length:=by rfl):YS K X (.Assign [tg] e pos) (lG te (Yi K n (uK is))) (oJ is f):=⟨hp h.pe,Wh h.ev hn⟩
def nG:EN→List Nat→Option (List D)
 | _,[]=>some []
 | env,i::is=>(match env[i]? with
  | some (.own d)=>(nG env is).map (d::·)
  | _=>none)
theorem Ce:∀{is:List Nat} {env:EN} {i:Nat} {s:SD},i∉is→nG (env.set i s) is=nG env is
 | [],env,i,s,h=>by unfold nG;rfl
 | j::is,env,i,s,h=>by
  have hj:i≠j:=λz=>h (z▸E5)
  unfold nG
  rw[J8,if_neg hj,Ce λz=>h (D5 _ z)]
theorem Mr{H Z:Hp}:∀{is:List Nat} {ds:List D} {env:EN} {A:Fp} {σ:St},is.Nodup→nG env is=some ds→gJ (iY K H Z) env A σ→∃xs A',(∀x,A' x→A x)∧dI K H ds A' xs∧xs.length=is.length∧∀(k i:Nat),is[k]?=some i→∃x,xs[k]?=some x∧σ[i]?=some (some x)
 | [],ds,env,A,σ,nd,q,h=>by
  unfold nG at q
  cases q
  exact⟨[],nil,λ_ z=>z.elim,by unfold dI;exact⟨λ_ z=>z,rfl⟩,rfl,λk i e=>by simp at e⟩
 | i::is,ds,env,A,σ,nd,q,h=>by
  unfold nG at q
  split at q
  ·rename_i d q1
   obtain⟨ds',q2,rfl⟩:=lZ q
   obtain⟨n1,n2⟩:=L7.mp nd
   obtain⟨y,A1,C,h1,h2,h3,h4,k⟩:=h.focus q1
   obtain⟨v,rfl,o⟩:=h4
   have h':=k (iY K H Z) (λ_ _ _ _ qq=>qq) .no none nil (λ_ z=>z.elim) (λ_ z=>z)
   obtain⟨xs,A',a1,a2,a3,a4⟩:=Mr (env:=env.set i .no) n2 (by rw[Ce n1];exact q2) h'
   have hC:∀x,A' x→C x:=λx z=>(a1 x z).elim False.elim id
   refine⟨v::xs,fY A1 A',λx z=>(h3 x).mpr (z.imp id (hC x)),?_,by simp[a3],λk j e=>?_⟩
   ·unfold dI
    exact⟨v,xs,A1,A',rfl,λx z1 z2=>h2 x z1 (hC x z2),λ_=>Iff.rfl,o,a2⟩
   ·cases k with
    | zero=>simp at e;subst e;exact⟨v,rfl,h1⟩
    | succ k=>
     have e:is[k]?=some j:=by simpa using e
     obtain⟨x,b1,b2⟩:=a4 k j e
     refine⟨x,by simpa using b1,?_⟩
     have hj:i≠j:=λz=>n1 (z▸D2 e)
     rw[J8,if_neg hj]at b2
     exact b2
  ·cases q
def Ms:List Nat→TA
 | []=>kO
 | i::is=>dM (iK i) (Ms is)
theorem Um{H:Hp}{σ:St}{Q:List V→Hp→Prop}:∀{is:List Nat} {xs:List V},xs.length=is.length→(∀(k i:Nat),is[k]?=some i→∃x,xs[k]?=some x∧σ[i]?=some (some x))→Q xs H→Ms is σ H Q
 | [],xs,hl,_,q=>by
  cases xs with
  | nil=>exact q
  | cons x xs=>simp at hl
 | i::is,xs,hl,h,q=>by
  cases xs with
  | nil=>simp at hl
  | cons x xs=>
   obtain⟨x',b1,b2⟩:=h 0 i rfl
   cases b1
   exact⟨x,b2,Um (by simpa using hl) (λk j e=>by
    obtain⟨y,c1,c2⟩:=h (k+1) j (by simpa using e)
    exact⟨y,by simpa using c1,c2⟩) q⟩
def zG(is:List Nat):GS:=λenv=>match nG env is with
 | some ds=>if decide is.Nodup=true∧is.length≤100 then .ret (.tup ds)else .bad
 | none=>.bad
theorem PQ{is:List Nat}:DS K (Ei (Vq (Ms is))) (zG is):=λB E σ H env r p=>by
 unfold zG at p
 split at p
 ·rename_i ds q
  split at p
  ·rename_i hc
   obtain⟨A,a,b⟩:=r
   obtain⟨xs,A',a1,a2,a3,a4⟩:=Mr (of_decide_eq_true hc.1) q a
   refine Um a3 a4 ⟨tY (by omega),λl hl=>?_⟩
   refine p _ _ A' (λx u ex=>?_) ?_
   ·obtain⟨e1,e2⟩:=cH.mp (b x u ex)
    refine cH.mpr ⟨λz=>e1 (a1 x z),?_⟩
    rw[bY (gO e2 hl)]
    exact e2
   ·unfold Ow
    exact⟨l,xs,rfl,pZ.of bO,a2.same (bZ hl _)⟩
  ·exact p.elim
 ·exact p.elim
theorem Uo{is:List Nat}(h:PE X e (Vq (Ms is))):YS K X (.Return (some e) pos) (Ei (Vq (Ms is))) (zG is):=⟨wK h,PQ⟩
inductive yf(K:aC)(H:Hp):V→Value→Prop where
 | bl (x:Bool):yf K H (.bl x) (.type "bool")
 | int (i:Int):yf K H (.int i) (.type "int")
 | lst {a:Addr} {xs:List V} (e:jC K H a xs):yf K H (.ref a) (.type "list")
 | tup {a:Addr} {xs:List V} (e:pZ K H a xs):yf K H (.ref a) (.type "tuple")
structure iZ(mg:Str→Option Value)(x:Str)(i:Int):Prop where
 ex:∃t,mg x=some (.int i t)
structure aA3(K:aC)(mg:Str→Option Value)(x:Str)(ns:List Int):Prop where
 ex:∃a,mg x=some (.ref a)∧∀H:Hp,pZ K H a (ns.map V.int)
theorem kI{x:Str}{i:Int}(G:iZ X.mg x i)(hg:Gl X x)(hd:(x==("__debug__" : Str))=false:=by decide) (hk:X.K=K:=by rfl):XN K X (.Name x pos) (tC (.int i)) (fC (.int i)):=by
 obtain⟨t,h⟩:=G.ex
 exact⟨hk,JH hg h ⟨t,rfl⟩ hd,Zg i⟩
def dTup(ns:List Int):D:=.tup (ns.map D.int)
end
def iB(n m:Nat)(g:GS):List D→Option D:=λds=>if ds.length=m then(match g (ds.map SD.fro++D9 (n-m) SD.no)with
  | .ret d=>some d
  | .next _=>some .non
  | _=>none)else none
theorem Mt{K:aC}{H Z:Hp}{k:Nat}:∀{ds:List D} {vs:List V},dY K Z ds vs→gJ (iY K H Z) (ds.map SD.fro++D9 k SD.no) nil (vs.map some++D9 k none)
 | [],vs,h=>by
  unfold dY at h
  subst h
  simp only[G0,Q1]
  induction k with
  | zero=>exact⟨λ_ z=>z,rfl⟩
  | succ k ih=>
   rw[L6,L6]
   exact⟨none,_,nil,nil,rfl,λ_ z=>z.elim,λx=>⟨.inl,λz=>z.elim id id⟩,λ_ z=>z,ih⟩
 | d::ds,vs,h=>by
  unfold dY at h
  obtain⟨y,ys,rfl,h1,h2⟩:=h
  rw[D4,D4,K8,K8]
  exact⟨some y,_,nil,nil,rfl,λ_ z=>z.elim,λx=>⟨.inl,λz=>z.elim id id⟩,⟨λ_ z=>z,y,rfl,h1⟩,Mt h2⟩
theorem Gk{K:aC}{H:Hp}{k:Nat}{ds:List D}{vs:List V}(h:dY K H ds vs):Rel K H (ds.map SD.fro++D9 k SD.no) (vs.map some++D9 k none) H:=by
 have g:aV H (out H nil):=λx u e=>cH.mpr ⟨λz=>z,e⟩
 exact⟨nil,Mt (g.Xy _ _ h),g⟩
theorem Raw.jT{P:Program}{w:World}{K:aC}{mg:Str→Option Value}{base:Heap}{x:Str}{st:Stmt}{N ps:List Str}{k:Nat}{g:GS}(R:Raw K mg x st)(S:bN N ps (aP st))
  (hb:∀(kV doc pm:Value)(an:Option Addr)(cdv ct:Value)(us:List Value),us.length=ps.length→bindArgs (F6 x x (iU st) (fM st) (aP st) .none kV doc pm an cdv ct) ⟨us,[]⟩=pure (ps.zip us))
  (hbody:∀(f:Addr)(cdv:Value)(A:Around)(outer:List Env)(s:Shared)(H:Hp)(E:XK),mY k (A.deeper (envOfC x (aP st) s.heap.objs.size f cdv)) →
   ∃t,YB K (Ip Xx P w K mg base N x (aP st) f cdv A outer s H E).YH (fM st) t g):gH P w K mg base x (k+1) ps.length (gK K ps.length (iB N.length ps.length g)):=by
 refine R.cal S (λvs H Q E h=>?_) hb (λf cdv A outer s H vs Q E hr h=>?_)
 ·obtain⟨ds,d,h1,h2,_⟩:=h
  rw[h2.length];exact h1
 obtain⟨ds,d,h1,h2,h3,kk⟩:=h
 obtain⟨t,yb⟩:=hbody f cdv A outer s H E hr
 refine⟨t,yb.ps,yb.ev H _ _ H (ds.map SD.fro++D9 (N.length-ps.length) SD.no) ?_ ?_⟩
 ·have hl:vs.length=ps.length:=by rw[h2.length];exact h1
  have:=Gk (k:=N.length-ps.length) h2
  unfold start
  rw[hl]
  exact this
 ·unfold iB at h3
  rw[if_pos h1]at h3
  cases q:g (ds.map SD.fro++D9 (N.length-ps.length) SD.no)with
  | ret d'=>
   rw[q]at h3
   cases h3
   refine λv H' A' s' o=>kk v H' (s'.trans (mZ _ _)) ⟨A',o,λa qa=>?_⟩
   cases e:H a with
   | none=>rfl
   | some u=>exact absurd qa (cH.mp (s' a u e)).1
  | next env'=>
   rw[q]at h3
   cases h3
   refine λσ' H' ⟨A',_,s'⟩=>kk .non H' (s'.trans (mZ _ _)) (.jA rfl (by unfold Rv;rfl))
  | brk env'=>rw[q]at h3;cases h3
  | cont env'=>rw[q]at h3;cases h3
  | bad=>rw[q]at h3;cases h3
  | rete d e=>rw[q]at h3;cases h3
end L2


namespace L2
open PySem PySem.Spec PyProof.Rows
section
variable{K:aC}{X:Cx}{e a b c:Expr}{es:List Expr}{t ta tb te:TE}{f g:FE}{tA:TA}{fs:FA}{pos:Pos}{i j:Nat}{π:FP}{st:Stmt}{gb:GS}{tc:TT}{fc:FT}
def mH(f:FE):FE:=λe=>(f e).bind λd=>match d with | .int i=>some (.int (-i)) | _=>none
theorem gA(ha:XR K X a ta f):XN K X (.UnaryOp .USub a pos) (tUn (rU λi=>.int (-i)) ta) (mH f):=dm ha
theorem qG{tg elt iter:Expr}{ifs:List Expr}{scope:Scope}{spos py:Pos}{y:Str}{wi:TI}{fi:FA}{fe:FE}(N:List Str)(fr:List Nat)(hcalm:X.calm=true)(B:gZ X.env.scope scope X.N N 1 fr)(hN:X.N.Nodup)(hy:X.N[i]?=some y)(hx:Loc X.env.scope y)(hi:XI K X tg iter wi fi)
  (hg:∀cl fp s H C,PG (eY X scope N cl fp s H C) tg (eG 0)) (hc:∀cl fp s H C,yc K (eY X scope N cl fp s H C) ifs tc fc) (he:∀cl fp s H C,XN K (eY X scope N cl fp s H C) elt te fe)
  (hsw:swapsWith (.ListComp elt [⟨tg,iter,ifs,0⟩] scope pos) (some (.Name y py)) spos.line X.env=pure true:=by rfl)
  (hs:∀x,foldedSetIterable iter X.env x=pure x:=by intro _;rfl) (hf:X.fn y=true∨X.env.scope.names.lookup y=some .local:=by first | exact .inl rfl | exact .inr rfl | assumption) :
  YS K X (.Assign [.Name y py] (.ListComp elt [⟨tg,iter,ifs,0⟩] scope pos) spos) (lG (Bb wi 1 fr (eG 0) tc te) (eG i)) (bW i (dJ fi fr fc fe)):=
 ⟨MJ N 1 fr hcalm B hN hy hx hi.pi hg (λcl fp s H C=>(hc cl fp s H C).pts) (λcl fp s H C=>(he cl fp s H C).pe) hsw hs hf,Zx (Uj hi.ev (hc [] [] X.s₀ X.H₀ 0).ev (he [] [] X.s₀ X.H₀ 0).ev)⟩
def EvJ(K:aC)(wi:TI)(fi:FA):Prop:=∀(σ:St)(H:Hp)(e:DE)(ds:List D)(R:It→Hp→Prop),pY K H e σ→fi e=some ds →
 (∀J H' P vs,aV H H'→jw J P vs→(∀H2,P H2)→(∀Z,dY K Z ds vs)→R J H')→wi σ H R
structure XJ(K:aC)(X:Cx)(tg iter:Expr)(wi:TI)(fi:FA):Prop where
 pi:PI X tg iter wi
 ev:EvJ K wi fi
theorem jP{tg:Expr}{p:Pos}(hg:Gl X "range") (hm:X.mg "range" = none) (ha:XA K X [a] tA fs) (hs:starEach [a] X.env=[(false,eval a X.env)]:=by rfl):XJ K X tg (.Call (.Name "range" p) [a] [] pos) (Yl tA) (jE fs):=⟨Fb hg hm ha.pa hs,λσ H e ds R re q k=>by
 unfold jE at q
 obtain⟨es,q1,q2⟩:=bL q
 split at q2
 ·rename_i n
  split at q2
  ·rename_i hl
   cases q2
   have hl:=Ju hl
   refine ha.ev σ H H e _ _ (Zn.self K H) re q1 λvs H1 Z1 s1 t1 z1 rs=>?_
   obtain⟨v,rfl,r⟩:=oY rs
   unfold Rv at r
   subst r
   exact⟨n,rfl,by omega,by omega,k _ H1 _ _ s1 wQ (λ_=>True.intro) λZ=>xJ 0 n.toNat⟩
  ·cases q2
 ·cases q2⟩
theorem uw{tg:Expr}{p:Pos}(hp:PA X [a,b] tA→PI X tg (.Call (.Name "range" p) [a,b] [] pos) (Ym tA)) (ha:XA K X [a,b] tA fs):XI K X tg (.Call (.Name "range" p) [a,b] [] pos) (Ym tA) (Gh fs):=⟨ha.hk,hp ha.pa,λσ H Z e ds R z re q k=>by
 unfold Gh at q
 obtain⟨es,q1,q2⟩:=bL q
 split at q2
 ·rename_i i j
  split at q2
  ·rename_i hl
   cases q2
   have hl1:=Ju hl.1
   have hl2:=Ju hl.2
   refine ha.ev σ H Z e _ _ z re q1 λvs H1 Z1 s1 t1 z1 rs=>?_
   obtain⟨v,w,rfl,r,r'⟩:=dq rs
   unfold Rv at r r'
   subst r r'
   exact⟨i,j,rfl,⟨by omega,by omega,by omega,by omega⟩,k _ H1 Z1 _ _ s1 t1 z1 wQ (λ_ _=>True.intro) (xJ i (j-i).toNat)⟩
  ·cases q2
 ·cases q2⟩
def lX(i:Nat)(fi:FA)(g:GS):GS:=λenv=>match fi (rE env)with
 | some xs=>xM i g xs env
 | none=>.bad
theorem PX{wi:TI}{fi:FA}{tb:TS}(hi:EvJ K wi fi)(h:DS K tb gb):DS K (Yn wi (eG i) tb) (lX i fi gb):=λB E σ H env r p=>by
 unfold lX at p
 split at p
 ·rename_i xs q
  refine hi σ H (rE env) xs _ r.r q λJ H1 P vs s hJ hP rvs=>?_
  have hl:=(rvs H).length
  refine Tw hJ (λk σ2 H2=>∃mF,Rel K B mF σ2 H2∧Er K B E (xM i gb (xs.drop k) mF)) ⟨env,r.same s,by simpa using p⟩ (λk σ2 H2 _ _=>hP H2) ?_ ?_
  ·rintro k x σ2 H2 hx ⟨mF,r2,p2⟩
   have hk:k<xs.length:=by
    obtain⟨h1,_⟩:=C9.mp hx
    omega
   rw[K6 hk]at p2
   unfold xM at p2
   split at p2
   ·rename_i hlen
    obtain⟨A2,a2,b2⟩:=r2
    obtain⟨x',hx',rx⟩:=(rvs (out H2 A2)).get (A6 hk)
    rw[hx]at hx'
    cases hx'
    have r3:Rel K B (mF.set i (.fro xs[k])) (σ2.set i (some x)) H2:=Uk a2 b2 hlen (aV.refl _) (aV.refl _) (Qt a2) rx
    refine h B _ _ H2 _ r3 ?_
    split at p2
    ·rename_i env' q2;rw[q2];exact λσ' H' r'=>⟨env',r',p2⟩
    ·rename_i env' q2;rw[q2];exact λσ' H' r'=>⟨env',r',p2⟩
    ·rename_i env' q2;rw[q2];exact p2
    ·rename_i n1 n2 n3
     cases q2:gb (mF.set i (.fro xs[k]))with
     | next e=>exact absurd q2 (n1 e)
     | cont e=>exact absurd q2 (n2 e)
     | brk e=>exact absurd q2 (n3 e)
     | ret d=>rw[q2]at p2;exact p2
     | bad=>rw[q2]at p2;exact p2
     | rete d e=>rw[q2]at p2;exact p2
   ·exact p2.elim
  ·rintro σ2 H2 ⟨mF,r2,p2⟩
   rw[hl,U0]at p2
   exact p2 σ2 H2 r2
 ·exact p.elim
theorem oK{tg iter:Expr}{body:List Stmt}{wi:TI}{fi:FA}{tb:TS}(hp:PassesOwn (model X.prog X.w) X.A X.env X.xe)(gw:X.calm=true)(hi:XJ K X tg iter wi fi)(hg:PG X tg (eG i))(hb:YB K X body tb gb)
  (hs:∀x,foldedSetIterable iter X.env x=pure x:=by intro _;rfl):YS K X (.For tg iter body [] pos) (Yn wi (eG i) tb) (lX i fi gb):=⟨Yo hp gw hi.pi hg hb.ps hs,PX hi.ev hb.ev⟩
theorem Wi{m m':Str}{apos cpos VH VJ:Pos}(he:XR K X e te f)(hp:PE X e te→PS X (.Expr (.Call (.Attribute a m apos) [.Call (.Attribute b m' VH) [e] [] VJ] [] cpos) pos) (pD (Pj K "list" qD (iK i) (dM (Pj K "list" uC (iK j) (dM te kO)) kO)))):YS K X (.Expr (.Call (.Attribute a m apos) [.Call (.Attribute b m' VH) [e] [] VJ] [] cpos) pos) (pD (Pj K "list" qD (iK i) (dM (Pj K "list" uC (iK j) (dM te kO)) kO))) (sE i j f):=⟨hp he.pe,Wg he.ev⟩
end
def spL(K:aC):Sp:=λvs H Q _=>∃(a:Addr)(ns:List Int),vs=[.ref a]∧jC K H a (ns.map V.int)∧ns.length≤63∧∀H',Q (.bl true) H'
theorem IK.okL{P:Program}{w:World}{K:aC}{mg:Str→Option Value}{base:Heap}{x:Str}{st:Stmt}{N:List Str}{k:Nat}{g:GS}{f:Addr}{fd:FuncData}(F:IK K x x st f fd)(S:bN N ["script"] (aP st))
  (hbody:∀(cdv:Value)(A:Around)(outer:List Env)(s:Shared)(H:Hp)(E:XK),mY k (A.deeper (envOfC x (aP st) s.heap.objs.size f cdv)) →
   ∃t,YB K (Ip Xx P w K mg base N x (aP st) f cdv A outer s H E).YH (fM st) t g)
  (ik:∀ns:List Int,ns.length≤63→iB N.length 1 g [.lst (ns.map D.int)]=some (.bl true)):wL P w K mg base Xx (k+1) f fd ["script"] (spL K):=by
 refine F.ok S (λvs H Q E h=>?_) (λcdv A outer s H vs Q E hr h=>?_)
 ·obtain⟨a,ns,rfl,_⟩:=h
  rfl
 obtain⟨a,ns,rfl,hS,hl,q⟩:=h
 obtain⟨t,yb⟩:=hbody cdv A outer s H E hr
 have h3:=ik ns hl
 have rv:dY K H [.lst (ns.map D.int)] [.ref a]:=by
  unfold dY
  exact⟨_,_,rfl,by unfold Rv;exact⟨a,_,rfl,hS,Bw.mpr rfl⟩,by unfold dY;rfl⟩
 refine⟨t,yb.ps,yb.ev H _ _ H ([D.lst (ns.map D.int)].map SD.fro++D9 (N.length-1) SD.no) (Gk rv) ?_⟩
 unfold iB at h3
 rw[if_pos (show [D.lst (ns.map D.int)].length=1 from rfl)]at h3
 cases qq:g ([D.lst (ns.map D.int)].map SD.fro++D9 (N.length-1) SD.no)with
 | ret d'=>
  rw[qq]at h3
  cases h3
  refine λv H' A' s' o=>?_
  have:=Ow.rv _ _ _ o
  unfold Rv at this
  subst this
  exact q H'
 | next env'=>rw[qq]at h3;cases h3
 | brk env'=>rw[qq]at h3;cases h3
 | cont env'=>rw[qq]at h3;cases h3
 | bad=>rw[qq]at h3;cases h3
 | rete d e=>rw[qq]at h3;cases h3
theorem Qz{K:aC}{st:Stmt}{f:Addr}{fd:FuncData}(F:IK K "law" "law" st f fd) (hb:∀(kV doc pm:Value)(an:Option Addr)(cdv ct:Value)(u:Value),bindArgs (F6 "law" "law" (iU st) (fM st) (aP st) .none kV doc pm an cdv ct) ⟨[u],[]⟩=pure [(("script" : Str),u)]):∀(s:Shared)(u:Value),BindsTo s fd ⟨[u],[]⟩ [("script", u)]:=by
 obtain⟨oc,od,kV,doc,pm,an,cdv,ct,osl,rfl,lk,hcd⟩:=F.ex
 exact λs u=>.of_eq (hb kV doc pm an cdv ct u)
theorem nH{K:aC}{h:Heap}{mg:Str→Option Value}{x:Str}{i:Int}{t:Tok}(X:K.In h)(G:h.Ns mainGlobals mg)(a:S7 K mainGlobals x=some (some (.int i t))):iZ mg x i:=⟨t,V6 X G a⟩
end L2


namespace L2
open PySem PySem.Spec PyProof.Rows
section
variable{K:aC}{X:Cx}{e a b c:Expr}{es:List Expr}{t ta tb te:TE}{f g:FE}{tA:TA}{fs:FA}{pos:Pos}{i j:Nat}{π:FP}{st:Stmt}
variable{lo hi:Option Expr}{tl th:TO}{fl fh:FO}{p2:Pos}
end
end L2


namespace L2
open PySem PySem.Spec PyProof.Rows
def Led(b:Bool)(t:SetTable):Prop:=t.led=b∧(t.plain=true→t.place.toList.Pairwise (·<·)∧t.dummies=#[])
end L2


namespace L2
open PySem PySem.Spec PyProof.Rows
section
variable{prog:Program}{w:World}{A:Around}{E:Value→Shared→Prop}{s:Shared}{b:Bool}
def aBT(prog:Program)(w:World)(b:Bool)(h:Heap)(a:Addr)(S:Int→Bool)(n:Nat):Prop:=
 ∃o es ep t,h.get? a=some o∧o.ExactSet∧o.data=.set es ep t∧ElemsOf (intKind prog w) es.toList∧(∀k,S k=true↔∃e∈es.toList,(intKind prog w).is k e.2=true)∧es.size<scanBound∧t.fits es.size=true∧es.size=n∧Led b t
end
section
variable{prog:Program}{w:World}{A:Around}{R:Result→Shared→Prop}{I:Addr}{fp wr:List Addr}{G:Array GenState→Array GenState→Prop}{n:Nat}{P:Nat→Value→Prop}{St:Nat→Shared→Prop}{b:Bool}
end
end L2


namespace L2
open PySem PySem.Spec PyProof.Rows
section
variable{prog:Program}{w:World}{A:Around}{E:Value→Shared→Prop}{s:Shared}
end
end L2


namespace L2
open PySem PySem.Spec PyProof.Rows
def SIt(h:Heap)(I:Addr)(f:Value)(i:Nat)(a:Addr)(n ep:Nat):Prop:=∃o,h.get? I=some o∧o.cls=.type "set_iterator" ∧ o.data=.fields #[f,.int (i:Int) 0,.ref a,.int (n:Int) 0,.int (ep:Int) 0]
def SAt(h:Heap)(a:Addr)(es:Array (Int×Value))(ep:Nat)(t:SetTable):Prop:=∃o,h.get? a=some o∧o.cls=.type "set" ∧ o.data=.set es ep t∧t.fits es.size=true
section
variable{prog:Program}{w:World}{A:Around}{E:Value→Shared→Prop}{s:Shared}{I a T:Addr}{f:Value}{i n ep:Nat}{es:Array (Int×Value)}{t:SetTable}
end
end L2


namespace L2
open PySem PySem.Spec PyProof.Rows
section
variable{prog:Program}{w:World}{A:Around}{E:Value→Shared→Prop}{s:Shared}{I a T:Addr}{f:Value}{i n ep:Nat}{es:Array (Int×Value)}{t:SetTable}
end
end L2


namespace L2
open PySem PySem.Spec PySem.Calls PyProof.Rows PyProof.V
section
variable{prog:Program}{w:World}{A:Around}{E:Value→Shared→Prop}{s:Shared}{I a T:Addr}{n:Nat}{S:Int→Bool}
end
end L2


namespace L2
open PySem PySem.Spec PySem.Calls PyProof.Rows PyProof.V
section
variable{X:Cx}{e:Expr}{t:TE}{x y:Str}{p p2 pos pos2:Pos}
end
end L2


namespace L2
open PySem PySem.Spec PySem.Calls PyProof.Rows PyProof.V
section
variable{prog:Program}{w:World}{A:Around}{E:Value→Shared→Prop}{s:Shared}{I l:Addr}
end
section
variable{K:aC}{X:Cx}{e:Expr}{t:TE}{f:FE}{x y:Str}{p p2 pos pos2:Pos}
end
end L2


namespace L2
open PySem PySem.Spec PySem.Calls PyProof.Rows PyProof.V PySem.W Att
section
variable{K:aC}{X:Cx}{e a b c:Expr}{es:List Expr}{t ta tb te:TE}{f g:FE}{pos:Pos}
def VL(i j:Int):Prop:=Builtin.Int.intBits i≤4000000∧Builtin.Int.intBits j≤4000000
instance (i j:Int):Decidable (VL i j):=by unfold VL;exact inferInstance
variable{lo hi:Option Expr}{tl th:TO}{fl fh:FO}{p2:Pos}
end
end L2


namespace L2
open PySem PySem.Spec PySem.Calls PyProof.Rows PyProof.V
section
variable{K:aC}{X:Cx}
def VM:List V→Hp→VK→Prop:=λxs H Q=>∃c,xs=[.bl c]∧Q (.int (if c then 1 else 0)) H
theorem QB:lH X (.type "int") VM:=by
 intro pins s σ H xs us Q I r h
 obtain⟨c,rfl,q⟩:=h
 obtain⟨u,rfl,rx⟩:=vals1 r
 cases rx
 exact call_int_bool ⟨.int _,H,I.kept (t':=s.toks+1) λ_ _ e=>e,⟨_,rfl⟩,q⟩
def Up:List D→Option D
 | [.bl c]=>some (.int (if c then 1 else 0))
 | _=>none
theorem QC:tZ K VM Up:=λvs H ds d Q rs q k=>by
 unfold Up at q
 split at q
 ·cases q
  obtain⟨v,rfl,r⟩:=oY rs
  unfold Rv at r
  subst r
  exact⟨_,rfl,k _ H (aV.refl _) (.jA rfl (by unfold Rv;rfl))⟩
 ·cases q
end
end L2


namespace L2
open PySem PySem.Spec PySem.Calls PyProof.Rows PyProof.V
section
variable{X:Cx}{pins:List (Addr×Obj)}{σ:St}{H:Hp}{s:Shared}{h':Heap}
theorem Inv.turns{t':Nat}{ch:List Addr}(I:Inv X pins σ H s)(hf:∀b∈ch,vC X pins H b)(k:∀b o,b∉ch→s.heap.get? b=some o→h'.get? b=some o):Inv X pins σ H {s with heap:=h',toks:=t'}:=by
 have mq:∀b u,H b=some u→b∉ch:=λb u e z=>by
  have:=(hf b z).1
  rw[this]at e
  cases e
 refine I.step (g':=s.gens) (d':=s.drawn) (ch:=ch) (λb hb=>⟨(hf b hb).2.2.2.1,(hf b hb).2.1,(hf b hb).2.2.2.2.1,(hf b hb).2.2.2.2.2⟩) (λb o _ _ hc e _=>k b o hc e) (λb o _ _ hc e _=>⟨o.slots,k b o hc e⟩) (λ_ _ _ _ n=>n)
  (λb o hc e=>⟨o,k b o hc e⟩) (λ_ _ e=>e) (λ_ _ _ e=>e) (λb ps e=>⟨#[],by rw[e];simp⟩) (λm hm=>?_) (λb u e=>?_) I.bare
 ·obtain⟨o,es,ep,ho,r⟩:=hm
  exact⟨o,es,ep,k _ o (λz=>(hf _ z).2.1 rfl) ho,r⟩
 ·refine(I.hok b u e).stay (λc v hc q=>k c v ?_ q) (λ_ q=>q) λ_ _ q=>q
  rcases hc with z | z
  ·rw[z];exact mq b u e
  ·exact mq c _ z
theorem vC.upd{b p:Addr}{o:HO}(h:vC X pins H b)(ne:b≠p):vC X pins (upd H p o) b:=⟨by rw[bY ne];exact h.1,h.2⟩
end
section
variable{K:aC}{X:Cx}{e a b c:Expr}{es:List Expr}{t ta tb te:TE}{f g fe:FE}{tc:TT}{fc:FT}{pos p p2:Pos}{x:Str}
theorem QD{H:Hp}{e:DE}{σ:St}{fr:List Nat}{d d':D}{x y:V}(re:pY K H e σ)(r:Rv K H d x)(r':Rv K H d' y):pY K H (some d::some d'::kE e fr) (some x::some y::En σ fr):=λi w h=>by
 cases i with
 | zero=>simp at h;subst h;exact⟨x,rfl,r⟩
 | succ i=>
  rw[P9]at h ⊢
  exact Ui re r' i w h
abbrev Uq(K:aC):TG:=Yi K 2 (Te (eG 0) (Te (eG 1) YK))
theorem QF{scope:Scope}{N:List Str}{y z:Str}{py pz tpos:Pos}{tk:Nat}(hc:X.calm=true)(hN:N.Nodup)(h0:N[0]?=some y)(h1:N[1]?=some z)(hy:(iQ scope X.env.scope).names.lookup y=some .local)(hz:(iQ scope X.env.scope).names.lookup z=some .local) :
  ∀cl fp s H C,PG (eY X scope N cl fp s H C) (.Tuple [.Name y py,.Name z pz] tk tpos) (Uq X.K):=λ_ _ _ _ _=>Pu hc (mX (fK hN h0 (B4 hy) (B3 hy)) (mX (fK hN h1 (B4 hz) (B3 hz)) Ik))
end
end L2


namespace L2
open PySem PySem.Spec PySem.Calls PyProof.Rows PyProof.V
section
variable{K:aC}{B H:Hp}{env:EN}{σ:St}{i:Nat}{v:V}{d:D}
end
section
variable{K:aC}{X:Cx}{st:Stmt}{sts:List Stmt}{t u tb:TS}{g g1 g2:GS}{e a b c:Expr}{es:List Expr}{te ta t0:TE}{f f0 fa fb:FE}{gk:FE}{tA:TA}{fs:FA}{tc:TT}{fc:FT}{pos:Pos}{i:Nat}{π:FP}
end
end L2


namespace L2
open PySem PySem.Spec PySem.Calls PyProof.Rows PyProof.V
section
variable{α β:Type}{R:α→Fp→β→Prop}
theorem gJ.BL:∀{ds:List α} {A:Fp} {ys:List β} {d:α} {y:β},gJ R (ds++[d]) A (ys++[y])→∃A0 A1,gJ R ds A0 ys∧R d A1 y∧Apart A0 A1∧Is A (fY A0 A1)
  | [],A,ys,d,y,h=>by
    obtain⟨y0,yt,A1,A2,h1,h2,h3,h4,h5,h6⟩:=h
    subst h6
    cases ys with
    | nil=>
      cases h1
      exact⟨nil,A1,⟨λ_ z=>z,rfl⟩,h4,λ_ z=>z.elim,λx=>⟨λq=>((h3 x).mp q).elim .inr λz=>absurd z (h5 x),λq=>q.elim False.elim λz=>(h3 x).mpr (.inl z)⟩⟩
    | cons z zs=>
      injection h1 with _ h1
      cases zs<;>cases h1
  | d0::ds,A,ys,d,y,h=>by
    obtain⟨y0,yt,A1,A2,h1,h2,h3,h4,h5⟩:=h
    have hl:=h5.len
    cases ys with
    | nil=>
      injection h1 with _ h1
      subst h1
      have hl:0=(ds++[d]).length:=hl
      rw[B5]at hl
      simp at hl
    | cons z zs=>
      injection h1 with e1 e2
      subst e1 e2
      obtain⟨B0,B1,k1,k2,k3,k4⟩:=gJ.BL h5
      refine⟨fY A1 B0,B1,⟨z,zs,A1,B0,rfl,λx q q'=>h2 x q ((k4 x).mpr (.inl q')),λx=>Iff.rfl,h4,k1⟩,k2,λx q q'=>?_,λx=>?_⟩
      · rcases q with q | q
        · exact h2 x q ((k4 x).mpr (.inr q'))
        · exact k3 x q q'
      · rw[h3 x]
        constructor
        · rintro(q | q)
          · exact .inl (.inl q)
          · exact((k4 x).mp q).elim (λz=>.inl (.inr z)) .inr
        · rintro((q | q) | q)
          · exact .inl q
          · exact .inr ((k4 x).mpr (.inl q))
          · exact .inr ((k4 x).mpr (.inr q))
end
section
variable{K:aC}{B H H':Hp}{env:EN}{σ:St}{i:Nat}{v:V}{d:D}
theorem Rel.give(h:Rel K B env σ H)(e:env[i]?=some (.own d)):∃v,σ[i]?=some (some v)∧Rel K B (env.set i .no++[.own d]) (σ++[some v]) H:=by
 obtain⟨A,a,b⟩:=h
 obtain⟨y,A1,C,h1,h2,h3,h4,k⟩:=a.focus e
 obtain⟨v,rfl,o⟩:=h4
 have eA:A=fY A1 C:=funext λx=>propext (h3 x)
 subst eA
 have s:=k _ (λ_ _ _ _ q=>q) .no (some v) nil (λ_ z=>z.elim) (λ_ z=>z)
 rw[set_same h1]at s
 have s2:=gJ.snoc (d:=SD.own d) (y:=some v) (A1:=A1) s ⟨v,rfl,o⟩ (λx q q'=>q.elim False.elim (h2 x q'))
 have eA2:(fY (fY nil C) A1)=fY A1 C:=funext λx=>propext ⟨λq=>q.elim (λq=>q.elim False.elim .inr) .inl,λq=>q.elim .inr λq=>.inl (.inr q)⟩
 rw[eA2]at s2
 exact⟨v,h1,_,s2,b⟩
end
section
variable{K:aC}{X:Cx}{st:Stmt}{sts:List Stmt}{t u tb:TS}{g g1 g2:GS}{e a b c o:Expr}{es:List Expr}{te ta t0 tv:TE}{f f0 fa fb:FE}{gk:FE}{tA:TA}{fs:FA}{tc:TT}{fc:FT}{pos apos:Pos}{i:Nat}{π:FP}
structure aBV(K:aC)(C:Addr)(nm:List Str):Prop where
 cl:xu K C
 no:∀f∈nm,ZG K C f
end
section
variable{K:aC}{B H:Hp}{env:EN}{σ:St}
end
section
variable{K:aC}{X:Cx}{st:Stmt}{sts:List Stmt}{t u tb:TS}{g g1 g2:GS}{e a b c o:Expr}{es:List Expr}{te ta t0 tv:TE}{f f0 fa fb:FE}{gk:FE}{tA:TA}{fs:FA}{tc:TT}{fc:FT}{pos apos:Pos}{i:Nat}{π:FP}
end
end L2


namespace L2
open PySem PySem.Spec PySem.Calls PyProof.Rows PyProof.V
section
variable{K:aC}{B H H':Hp}{env:EN}{σ:St}{i:Nat}{p:List Step}{d0 d:D}
end
abbrev GM:=EN→Option (D×EN)
def EvM(K:aC)(t:TE)(g:GM):Prop:=∀(B:Hp)(σ:St)(H:Hp)(env:EN)(d:D)(env':EN)(Q:VK),Rel K B env σ H→g env=some (d,env')→(∀v H',Rel K B (env'++[.own d]) (σ++[some v]) H'→Q v H')→t σ H Q
structure XM(K:aC)(X:Cx)(e:Expr)(t:TE)(g:GM):Prop where
 hk:X.K=K
 pe:PE X e t
 ev:EvM K t g
abbrev GB:=EN→Option (Bool×EN)
def ux(K:aC)(t:TT)(g:GB):Prop:=∀(B:Hp)(σ:St)(H:Hp)(env:EN)(b:Bool)(env':EN)(Q:Bool→Hp→Prop),Rel K B env σ H→g env=some (b,env')→(∀H',Rel K B env' σ H'→Q b H')→t σ H Q
structure XTM(K:aC)(X:Cx)(e:Expr)(t:TT)(g:GB):Prop where
 hk:X.K=K
 pt:PT X e t
 ev:ux K t g
structure XWM(K:aC)(X:Cx)(e:Expr)(t:TT)(g:GB):Prop where
 hk:X.K=K
 pw:PW X e t
 ev:ux K t g
abbrev FA2:=DE→DE→Option (List D)
def aAs(K:aC)(t:TA)(fs:FA2):Prop:=∀(A1:Fp)(σ:St)(H:Hp)(eF eZ:DE)(ds:List D)(Q:List V→Hp→Prop),(∀x,A1 x→rG H x)→pY K H eF σ→pY K (out H A1) eZ σ→fs eF eZ=some ds →
 (∀vs H',aV H H'→dY K (out H' A1) ds vs→Q vs H')→t σ H Q
structure XAB(K:aC)(X:Cx)(es:List Expr)(t:TA)(fs:FA2):Prop where
 hk:X.K=K
 pa:PA X es t
 ev:aAs K t fs
section
variable{K:aC}{X:Cx}{st:Stmt}{sts:List Stmt}{t u tb:TS}{g:GM}{g1 g2:GS}{e a b c o:Expr}{es rest:List Expr}{te ta t0 tv:TE}{f f0 fa fb:FE}{tA:TA}{fs:FA2}{tc td:TT}{fc:FT}{gb gc:GB}{pos apos:Pos}{i:Nat}{π:FP}
structure aBX(P:Program)(w:World)(K:aC)(mg:Str→Option Value)(base:Heap)(C:Addr)(m:Str)(k n:Nat)(df:Bool)(sp:Sp):Prop where
 ex:∃f fd ps,ps.length=n∧wL P w K mg base Xx k f fd ps sp∧Binds K fd ps []∧(df=true→Binds K fd ps [Value.none])∧Meth K C m f
structure aBY(P:Program)(w:World)(K:aC)(mg:Str→Option Value)(base:Heap)(x:Str)(C:Addr)(k n:Nat)(sp:Sp):Prop where
 ex:∃f fd ps,ps.length=n∧wL P w K mg base Xx k f fd ps sp∧Binds K fd ps []∧Mk K C f∧mg x=some (.ref C)
end
end L2


namespace L2
open PySem PySem.Spec PySem.Calls PyProof.Rows PyProof.V
def aAt(K:aC)(dN:Bool)(dV:Value):Prop:=match dN with
 | false=>dV=.none
 | true=>∃T o n,dV=.ref T∧K.lookup T=some o∧o.data=.seq #[.none] n
structure uy(K:aC)(f:Addr)(m q:Str)(st:Stmt)(dN:Bool):Prop where
 ex:∃(oc:Value)(od:Option Addr)(dV kV doc pm:Value)(an:Option Addr)(cdv ct:Value)(osl:Array (Option Value)),
  K.lookup f=some ⟨oc,od,.func (F6 m q (iU st) (fM st) (aP st) dV kV doc pm an cdv ct),osl⟩∧L0 K cdv q=true∧aAt K dN dV
structure aBZ(K:aC)(C:Addr)(m q:Str)(st:Stmt)(dN:Bool):Prop where
 ex:∃f,uy K f m q st dN∧Meth K C m f
structure aB0(K:aC)(mg:Str→Option Value)(x:Str)(C:Addr)(q:Str)(st:Stmt):Prop where
 ex:∃f,uy K f "__init__" q st false∧Mk K C f∧mg x=some (.ref C)
def HB(x q:Str)(st:Stmt)(ps:List Str):Prop:=∀(kV doc pm:Value)(an:Option Addr)(cdv ct:Value)(us:List Value),us.length=ps.length→bindArgs (F6 x q (iU st) (fM st) (aP st) .none kV doc pm an cdv ct) ⟨us,[]⟩=pure (ps.zip us)
def HBD(x q:Str)(st:Stmt)(ps:List Str):Prop:=∀(T:Addr)(kV doc pm:Value)(an:Option Addr)(cdv ct:Value)(us:List Value),(us.length=ps.length→∃k,bindArgs (F6 x q (iU st) (fM st) (aP st) (.ref T) kV doc pm an cdv ct) ⟨us,[]⟩=seqItems? (Value.ref T) >>= k∧k (some #[Value.none])=pure (ps.zip us)) ∧
 (us.length+1=ps.length→∃k,bindArgs (F6 x q (iU st) (fM st) (aP st) (.ref T) kV doc pm an cdv ct) ⟨us,[]⟩=seqItems? (Value.ref T) >>= k∧k (some #[Value.none])=pure (ps.zip (us++[Value.none])))
def HBs(dN:Bool)(x q:Str)(st:Stmt)(ps:List Str):Prop:=match dN with
 | false=>HB x q st ps
 | true=>HBD x q st ps
section
variable{P:Program}{w:World}{K:aC}{mg:Str→Option Value}{base:Heap}
end
section
variable{K:aC}{X:Cx}{st:Stmt}{g g1 g2 gb:GS}{e a b c o:Expr}{es rest:List Expr}{te ta tb tc t0 tv:TE}{f f0 fa fb fc:FE}{tA:TA}{fs:FA}{pos apos:Pos}{i j:Nat}{π:FP}{tbs:TS}
def Ra(φ φ':D→D→Option D)(f g h:FE):FT:=λe=>(f e).bind λa=>(g e).bind λb=>(φ a b).bind λr=>match r with
  | .bl true=>(h e).bind λc=>(φ' b c).bind λr2=>match r2 with | .bl k=>some k | _=>none
  | .bl false=>some false
  | _=>none
theorem BP{op op':CmpOp}{r r':R2}{φ φ':D→D→Option D}(ho:pF X (compareOp op) r)(ho':pF X (compareOp op') r')(hd:Pn K r φ)(hd':Pn K r' φ')(ha:XR K X a ta fa)(hb:XR K X b tb fb)(hc:XR K X c tc fc)(hm:lastMarks [op,op'] [b,c]=false:=by with_unfolding_all rfl):XT K X (.Compare a [op,op'] [b,c] pos) (Lr (Im r r' ta tb tc)) (Ra φ φ' fa fb fc):=⟨ha.hk,Ys ho ho' ha.pe hb.pe hc.pe hm,λσ H e k Q re q kk=>by
 obtain⟨d1,q1,q⟩:=bL q
 obtain⟨d2,q2,q⟩:=bL q
 obtain⟨d3,q3,q⟩:=bL q
 refine ha.ev σ H H e d1 _ (Zn.self K H) re q1 λx H1 Z1 s1 t1 z1 rx=>hb.ev σ H1 H1 e d2 _ (Zn.self K H1) (re.same s1) q2 λy H2 Z2 s2 t2 z2 ry=>?_
 refine hd x y H2 d1 d2 d3 _ (s2.rv _ _ (z1.sm.rv _ _ rx)) (z2.sm.rv _ _ ry) q3 λz H3 s3 n=>?_
 have rz:=n.rv
 split at q
 ·obtain⟨d4,q4,q⟩:=bL q
  obtain⟨d5,q5,q⟩:=bL q
  unfold Rv at rz
  refine⟨true,rz,?_⟩
  rw[if_pos rfl]
  refine hc.ev σ H3 H3 e d4 _ (Zn.self K H3) (re.same (s1.trans (s2.trans s3))) q4 λw H4 Z4 s4 t4 z4 Xw=>?_
  refine hd' y w H4 d2 d4 d5 _ ((s3.trans s4).rv _ _ (z2.sm.rv _ _ ry)) (z4.sm.rv _ _ Xw) q5 λv H5 s5 n5=>?_
  have r5:=n5.rv
  split at q
  ·cases q
   unfold Rv at r5
   exact⟨_,r5,kk H5 (s1.trans (s2.trans (s3.trans (s4.trans s5))))⟩
  ·cases q
 ·cases q
  unfold Rv at rz
  refine⟨false,rz,?_⟩
  rw[if_neg (by decide)]
  exact⟨_,rfl,kk H3 (s1.trans (s2.trans s3))⟩
 ·cases q⟩
end
end L2


namespace L2
open PySem PySem.Spec PySem.Calls PyProof.Rows PyProof.V
section
variable{K:aC}{B H:Hp}{env:EN}{σ:St}
end
abbrev FK:=DE→Option (List Key)
def EvK(K:aC)(t:TE)(fk:FK):Prop:=∀(σ:St)(H:Hp)(e:DE)(k:List Key)(Q:VK),pY K H e σ→fk e=some k→(∀b H',aV H H'→H' b=some (.tup (k.map kV))→Q (.ref b) H')→t σ H Q
structure XKt(K:aC)(X:Cx)(e:Expr)(t:TE)(fk:FK):Prop where
 hk:X.K=K
 pe:PE X e t
 ev:EvK K t fk
section
variable{K:aC}{X:Cx}{st:Stmt}{e a b c o:Expr}{es rest:List Expr}{te ta tb tc t0 tv:TE}{f fa fb:FE}{g:FK}{gd:FE}{tA:TA}{fs:FA}{pos apos:Pos}{i j:Nat}{π:FP}{tbs:TS}
def aAu(K:aC)(t:TA)(fs:FA)(i:Nat):Prop:=∀(σ:St)(H:Hp)(e:DE)(ds:List D)(v:V)(Q:List V→Hp→Prop),pY K H e σ→fs e=some ds→σ[i]?=some (some v)→(∀vs H',aV H H'→Ep K H H' ds vs→Q (vs++[v]) H')→t σ H Q
structure XBm(K:aC)(X:Cx)(es:List Expr)(t:TA)(fs:FA)(i:Nat):Prop where
 hk:X.K=K
 pa:PA X es t
 ev:aAu K t fs i
end
end L2


namespace L2
open PySem PySem.Spec PySem.Calls PyProof.Rows PyProof.V
section
variable{K:aC}{X:Cx}{st:Stmt}{e a b c o:Expr}{es rest:List Expr}{te ta tb tc t0 tv:TE}{f fa fb g:FE}{gk:FK}{gd:FE}{tA:TA}{fs:FA}{pos apos:Pos}{i j:Nat}{π:FP}{tbs:TS}{gm:GM}
end
end L2
namespace L2
open PySem PySem.Spec PySem.Calls PyProof.Rows PyProof.V
end L2


namespace L2
open PySem PySem.Spec PySem.Calls PyProof.Rows PyProof.V
section
variable{K:aC}{X:Cx}{e stx:Expr}{te ts:TE}{f g:FE}{pos p2:Pos}
end
end L2


namespace L2
open PySem PySem.Spec PySem.Calls PyProof.Rows PyProof.V
abbrev FE2:=DE→DE→Option D
def EvZ(K:aC)(t:TE)(f:FE2):Prop:=∀{N:Fp}(σ:St)(H Z:Hp)(eF eZ:DE)(d:D)(Q:VK),Zn K N Z H→pY K H eF σ→pY K Z eZ σ→f eF eZ=some d →
 (∀v H' Z',aV H H'→aV Z Z'→Zn K N Z' H'→Rv K Z' d v→Q v H')→t σ H Q
def aAv(K:aC)(t:TA)(f:FA2):Prop:=∀{N:Fp}(σ:St)(H Z:Hp)(eF eZ:DE)(ds:List D)(Q:List V→Hp→Prop),Zn K N Z H→pY K H eF σ→pY K Z eZ σ→f eF eZ=some ds →
 (∀vs H' Z',aV H H'→aV Z Z'→Zn K N Z' H'→dY K Z' ds vs→Q vs H')→t σ H Q
structure XZ(K:aC)(X:Cx)(e:Expr)(t:TE)(f:FE2):Prop where
 hk:X.K=K
 pe:PE X e t
 ev:EvZ K t f
structure XZA(K:aC)(X:Cx)(es:List Expr)(t:TA)(f:FA2):Prop where
 hk:X.K=K
 pa:PA X es t
 ev:aAv K t f
section
variable{K:aC}{X:Cx}{e a b:Expr}{es:List Expr}{te ta tb:TE}{f:FE}{g h:FE2}{tA:TA}{fs:FA2}{pos:Pos}{i:Nat}
end
end L2


namespace L2
open PySem PySem.Spec PySem.Calls PyProof.Rows PyProof.V
inductive Ar where
  | ch (i:Nat) | rd (f:FE) | nw (f:FE)
def yg:List Ar→List Nat
 | []=>[]
 | .ch i::as=>i::yg as
 | .rd _::as=>yg as
 | .nw _::as=>yg as
def yh:List Ar→DE→DE→Option (List D)
 | [],_,_=>some []
 | .ch _::as,eF,eZ=>yh as eF eZ
 | .rd f::as,eF,eZ=>(f eZ).bind λd=>(yh as eF eZ).map λr=>d::r
 | .nw f::as,eF,eZ=>(f eF).bind λd=>(yh as eF eZ).map λr=>d::r
def Ur(K:aC)(Z:Hp)(σ:St):List Ar→List D→List V→Prop
 | [],ds,vs=>ds=[]∧vs=[]
 | .ch i::as,ds,vs=>∃v r,vs=v::r∧σ[i]?=some (some v)∧Ur K Z σ as ds r
 | .rd _::as,ds,vs=>∃d dr v r,ds=d::dr∧vs=v::r∧Rv K Z d v∧Ur K Z σ as dr r
 | .nw _::as,ds,vs=>∃d dr v r,ds=d::dr∧vs=v::r∧Rv K Z d v∧Ur K Z σ as dr r
def VsA(σ:St):List Nat→List V→Prop
 | [],vs=>vs=[]
 | j::js,vs=>∃v r,vs=v::r∧σ[j]?=some (some v)∧VsA σ js r
section
variable{K:aC}{X:Cx}{e:Expr}{es:List Expr}{te:TE}{f:FE}{tA:TA}{as:List Ar}{pos:Pos}{i:Nat}
def aAw(K:aC)(t:TA)(as:List Ar):Prop:=∀(A1:Fp)(σ:St)(H:Hp)(eF eZ:DE)(ds:List D)(cv:List V)(Q:List V→Hp→Prop),(∀x,A1 x→rG H x)→pY K H eF σ→pY K (out H A1) eZ σ→VsA σ (yg as) cv→yh as eF eZ=some ds →
 (∀vs H',aV H H'→Ur K (out H' A1) σ as ds vs→Q vs H')→t σ H Q
structure XAC(K:aC)(X:Cx)(es:List Expr)(t:TA)(as:List Ar):Prop where
 hk:X.K=K
 pa:PA X es t
 ev:aAw K t as
end
section
variable{K:aC}{H H' Z Z' B:Hp}{σ:St}
end
section
variable{K:aC}{X:Cx}{e:Expr}{es:List Expr}{tA:TA}{as:List Ar}{pos pf:Pos}
end
section
variable{P:Program}{w:World}{K:aC}{mg:Str→Option Value}{base:Heap}
end
section
variable{K:aC}{X:Cx}{a b:Expr}{rest:List Expr}{ta tb:TE}{g h:GM}{f:FE}{pos:Pos}
end
end L2


namespace L2
open PySem PySem.Spec PySem.Calls PyProof.Rows PyProof.V
section
variable{prog:Program}{w:World}{A:Around}{R:Result→Shared→Prop}{I:Addr}{fp wr:List Addr}{n:Nat}{P:Nat→Value→Prop}{St:Nat→Heap→Prop}{kw:List (Str×Value)}
end
section
variable{prog:Program}{w:World}{A:Around}{E:Value→Shared→Prop}{s:Shared}
end
section
variable{K:aC}{X:Cx}{e e2:Expr}{te t2:TE}{f g:FE}{x:Str}{p pos kp:Pos}
end
end L2


namespace L2
open PySem PySem.Spec PySem.Calls PyProof.Rows PyProof.V
section
variable{X:Cx}
def zX:V→List V→Hp→VK→Prop:=λx vs H Q=>∃l xs i y,x=.ref l∧vs=[.int i,y]∧H l=some (.lst xs)∧0≤i∧i.toNat≤xs.length∧xs.length<sizeLine∧Q .non (upd H l (.lst (xs.take i.toNat++y::xs.drop i.toNat)))
theorem Wj:MtM X "list.insert" zX:=by
 intro pins s σ H x vs v us Q I rx rv h
 obtain⟨l,xs,i,y,rfl,rfl,hH,h0,h1,hz,q⟩:=h
 cases rx
 obtain⟨u1,u2,rfl,ru1,ru2⟩:=rv.two
 obtain⟨t,rfl⟩:=ru1
 obtain⟨z,its,n,r,hl,e⟩:=I.ZZ hH
 have hsl:sizeLine<2 ^ 62:=by decide
 refine call_meets F.slot_list_insert ⟨_,e,rfl⟩ F.entry_list_insert (F.args_list_insert_3 _ _ _) (AutoSeq1.list_insert_list_int_val_1 l its.toArray n i t u2 (by rw[fitsIndex_both (by omega) (by omega)];decide) (by rw[A9];omega)) ⟨e,?_⟩
 refine⟨.non,_,I.ZX (its':=its.take i.toNat++u2::its.drop i.toNat) hH e ?_ ((r.take _).append (.cons ru2 (r.drop _))) ?_,rfl,q⟩
 ·show (its.toArray.extract 0 (if i<0 then(i+(its.toArray.size:Int)).toNat else min i.toNat its.toArray.size)).push u2++its.toArray.extract (if i<0 then(i+(its.toArray.size:Int)).toNat else min i.toNat its.toArray.size)=_
  rw[if_neg (by omega),A9,show min i.toNat its.length=i.toNat by omega]
  apply Array.ext'
  simp
  exact M5 (by rw[J0];omega)
 ·rw[B5,G2,K7,J0]
  omega
end
section
variable{K:aC}{X:Cx}{a b e:Expr}{ta tb te:TE}{f g:FE}{i:Nat}{π:FP}{pos apos cpos:Pos}{m:Str}
end
end L2


namespace L2
open PySem PySem.Spec PySem.Calls PyProof.Rows PyProof.V
def il(ks:List Key)(vs:List V):List (V×V):=(ks.zip vs).map λkv=>(kV kv.1,kv.2)
def aAx(K:aC)(t:List (TE×TE))(ks:List Key)(is:List Nat)(fs:FA):Prop:=∀(σ:St)(H:Hp)(e:DE)(ds:List D)(xs:List V)(Q:List (V×V)→Hp→Prop),pY K H e σ→fs e=some ds→xs.length=is.length →
 (∀(k i:Nat),is[k]?=some i→∃x,xs[k]?=some x∧σ[i]?=some (some x))→(∀vs H',aV H H'→Ep K H H' ds vs→Q (il ks (xs++vs)) H')→Jb t σ H Q
structure XDm(K:aC)(X:Cx)(p:Pos)(keys:List (Option Expr))(vals:List Expr)(t:List (TE×TE))(ks:List Key)(is:List Nat)(fs:FA):Prop where
 hk:X.K=K
 pps:qz X p keys vals t
 ev:aAx K t ks is fs
section
variable{K:aC}{X:Cx}{st:Stmt}{e:Expr}{vals:List Expr}{keys:List (Option Expr)}{te:TE}{f:FE}{fs:FA}{pos p p1:Pos}{i j:Nat}{t:List (TE×TE)}{ks:List Key}{is:List Nat}{x:Str}
end
section
variable{X:Cx}{K:aC}{x y:Str}{p p2 pos pos2:Pos}{a b:Expr}{t:TA}{fs:FA}
end
end L2


namespace L2
open PySem PySem.Spec PySem.Calls PyProof.Rows PyProof.V
section
variable{K:aC}{X:Cx}{a e:Expr}{ta te:TE}{f:FE}{π:FP}{i:Nat}{m:Str}{apos cpos pos:Pos}
end
end L2


namespace L2
open PySem PySem.Spec PySem.Calls PyProof.Rows PyProof.V
section
variable{K:aC}{X:Cx}{a b e:Expr}{es:List Expr}{ta tb te t:TE}{f g:FE}{tA:TA}{fs:FA}{pos apos cpos p2:Pos}{m:Str}
structure aA7(mg:Str→Option Value)(x:Str)(i:Str):Prop where
 ex:∃t,mg x=some (.str i t)
def VN(i j:Int):Prop:=0<j∧j.natAbs.log2<9000
instance:∀i j,Decidable (VN i j):=λi j=>by unfold VN;exact inferInstance
end
section
variable{P:Program}{w:World}{K:aC}{tg:Expr}
end
section
variable{K:aC}{X:Cx}{tg e l:Expr}{t tl:TE}{f:FE}
end
end L2


namespace L2
open PySem PySem.Spec PySem.Calls PyProof.Rows PyProof.V
section
variable{K:aC}{X:Cx}{a b c e:Expr}{ta tb tc te t:TE}{f g fa fb fc:FE}{pos apos cpos:Pos}{m:Str}
def Rb(φ φ':D→D→Option D)(f g h:FE):FE:=λe=>(Ra φ φ' f g h e).map .bl
theorem Mu{op op':CmpOp}{r r':R2}{φ φ':D→D→Option D}(ho:pF X (compareOp op) r)(ho':pF X (compareOp op') r')(hd:Pn K r φ)(hd':Pn K r' φ')(ha:XR K X a ta fa)(hb:XR K X b tb fb)(hc:XR K X c tc fc)(hm:lastMarks [op,op'] [b,c]=false:=by with_unfolding_all rfl):XN K X (.Compare a [op,op'] [b,c] pos) (Im r r' ta tb tc) (Rb φ φ' fa fb fc):=⟨ha.hk,Yr ho ho' ha.pe hb.pe hc.pe hm,λσ H e k Q re q kk=>by
 obtain⟨k,q0,rfl⟩:=lZ q
 clear q
 obtain⟨d1,q1,q⟩:=bL q0
 clear q0
 obtain⟨d2,q2,q⟩:=bL q
 obtain⟨d3,q3,q⟩:=bL q
 refine ha.ev σ H H e d1 _ (Zn.self K H) re q1 λx H1 Z1 s1 t1 z1 rx=>hb.ev σ H1 H1 e d2 _ (Zn.self K H1) (re.same s1) q2 λy H2 Z2 s2 t2 z2 ry=>?_
 refine hd x y H2 d1 d2 d3 _ (s2.rv _ _ (z1.sm.rv _ _ rx)) (z2.sm.rv _ _ ry) q3 λz H3 s3 n=>?_
 have rz:=n.rv
 split at q
 ·obtain⟨d4,q4,q⟩:=bL q
  obtain⟨d5,q5,q⟩:=bL q
  unfold Rv at rz
  refine⟨true,rz,?_⟩
  rw[if_pos rfl]
  refine hc.ev σ H3 H3 e d4 _ (Zn.self K H3) (re.same (s1.trans (s2.trans s3))) q4 λw H4 Z4 s4 t4 z4 Xw=>?_
  refine hd' y w H4 d2 d4 d5 _ ((s3.trans s4).rv _ _ (z2.sm.rv _ _ ry)) (z4.sm.rv _ _ Xw) q5 λv H5 s5 n5=>?_
  have r5:=n5.rv
  split at q
  ·cases q
   exact kk v H5 (s1.trans (s2.trans (s3.trans (s4.trans s5)))) (.jA rfl r5)
  ·cases q
 ·cases q
  unfold Rv at rz
  refine⟨false,rz,?_⟩
  rw[if_neg (by decide)]
  exact kk _ H3 (s1.trans (s2.trans s3)) (.jA rfl (by unfold Rv;rfl))
 ·cases q⟩
end
end L2


namespace L2
open PySem PySem.Spec PySem.Calls PyProof.Rows PyProof.V
section
variable{K:aC}{B H H':Hp}{env:EN}{σ:St}{i j:Nat}{v:V}{d:D}
theorem Rel.iu(h:Rel K B (env++[.own d]) (σ++[some v]) H):∃H0,Rel K B env σ H0∧aV H0 H∧Eh K H0 H d v:=by
 obtain⟨A,a,b⟩:=h
 obtain⟨A0,A1,k1,⟨v',e,o⟩,k3,k4⟩:=a.BL
 cases e
 have cl:=Ow.cells _ _ _ o
 have tk:wR K H (out H A1):=λp xs q=>by
  have np:(∃u,H p=some (.tup xs)∨H p=some (.wI u (.tup xs)))→¬A1 p:=λz z2=>by
   obtain⟨u,z⟩:=z
   rcases z with z | z
   ·exact(cl p z2).2.1 _ z
   ·exact(cl p z2).2.2 _ _ z
  rcases q with (q | ⟨u,q⟩) | q
  ·exact .inl (.inl (by rw[Jf (np ⟨default,.inl q⟩)];exact q))
  ·exact .inl (.inr ⟨u,by rw[Jf (np ⟨u,.inr q⟩)];exact q⟩)
  ·exact .inr q
 have g:aV (out H A) (out (out H A1) A0):=λx u ex=>by
  obtain⟨e1,e2⟩:=cH.mp ex
  exact cH.mpr ⟨λz=>e1 ((k4 x).mpr (.inl z)),cH.mpr ⟨λz=>e1 ((k4 x).mpr (.inr z)),e2⟩⟩
 refine⟨out H A1,⟨A0,k1.mono λs D z hb qq=>?_,b.trans g⟩,mZ _ _,A1,o,λx z=>?_⟩
 ·have fr:∀x,D x→out H A1 x=H x:=λx zx=>Jf λz=>k3 x (hb x zx) z
  cases s with
  | no=>exact qq
  | fro d=>obtain⟨q1,v,q2,q3⟩:=qq;exact⟨q1,v,q2,g.rv _ _ q3⟩
  | inn v d=>exact⟨qq.1,Ow.frame tk _ _ _ qq.2 fr⟩
  | own d=>obtain⟨v,q1,q2⟩:=qq;exact⟨v,q1,Ow.frame tk _ _ _ q2 fr⟩
 ·unfold out
  rw[if_pos z]
end
end L2


namespace L2
open PySem PySem.Spec PySem.Calls PyProof.Rows PyProof.V
abbrev uz(h:Heap)(l:List Env):Heap:=U3 h (frs l)
structure Fl(l:List Env)(s1:Shared)(e:Addr)(cls:Value)(s':Shared):Prop where
 fly:∃a0,Heap.FlyingW (uz s1.heap l) l e cls a0 s'.heap
 up:s1.heap.UpToSlots s'.heap
 os:s'.os=s1.os
 bare:AllBare s'.gens
def yj(P:Program)(w:World):Vr:=λouter H s E ev s'=>∃e cls H' s1,ev=.ref e∧s1.os=s.os∧AllBare s1.gens∧Un (frs outer) [] H H' s.heap s1.heap∧tV P w H' s1.heap∧Fl outer s1 e cls s'∧E cls none H'
section
variable{P:Program}{w:World}{l:List Env}{s1 s':Shared}{e:Addr}{cls:Value}{H:Hp}{base:Heap}
end
section
variable{X:Cx}{pins:List (Addr×Obj)}{σ:St}{H:Hp}{s s1 s':Shared}{e:Addr}{cls ev:Value}{E:XK}
end
section
variable{P:Program}{w:World}{env:Env}{outer:List Env}{L e:Addr}{cls a0:Value}{s0 s1:Shared}{H0 H:Hp}{E:XK}{base h':Heap}{s2:Shared}
end
section
variable{P:Program}{w:World}{K:aC}{mg:Str→Option Value}{base:Heap}{N:List Str}{qual:Str}{scope:Scope}{f:Addr}{cd:Value}{A:Around}{outer:List Env}{s0:Shared}{H0:Hp}{E:XK}
end
end L2


namespace L2
open PySem PySem.Spec PySem.Calls PyProof.Rows PyProof.V
abbrev GZ:=EN→Option Nat
def DZ(K:aC)(κ:Nat→Addr)(E:XK)(t:TS)(z:GZ):Prop:=∀(B:Hp)(D:Ends)(σ:St)(H:Hp)(env:EN)(i:Nat),Rel K B env σ H→z env=some i→(∀H',aV B H'→E (.ref (κ i)) none H')→t D σ H
structure YZ(K:aC)(κ:Nat→Addr)(X:Cx)(E:XK)(st:Stmt)(t:TS)(z:GZ):Prop where
 ps:PS X st t
 ev:DZ K κ E t z
structure YZB(K:aC)(κ:Nat→Addr)(X:Cx)(E:XK)(st:List Stmt)(t:TS)(z:GZ):Prop where
 ps:Lk X st t
 ev:DZ K κ E t z
structure aB6(P:Program)(w:World)(K:aC)(mg:Str→Option Value)(base:Heap)(x:Str)(k:Nat)(n:Nat)(sp:Sp):Prop where
 ex:∃f fd ps,ps.length=n∧wL P w K mg base (yj P w) k f fd ps sp∧Binds K fd ps []∧G7 K (.ref f)=true∧mg x=some (.ref f)
structure aA8(P:Program)(w:World)(K:aC)(mg:Str→Option Value)(base:Heap)(C:Addr)(m:Str)(k n:Nat)(df:Bool)(sp:Sp):Prop where
 ex:∃f fd ps,ps.length=n∧wL P w K mg base (yj P w) k f fd ps sp∧Binds K fd ps []∧(df=true→Binds K fd ps [Value.none])∧Meth K C m f
section
variable{K:aC}{κ:Nat→Addr}{X:Cx}{E:XK}{st:Stmt}{sts rest:List Stmt}{t u:TS}{z z1 z2:GZ}{g:GS}{c e o:Expr}{es:List Expr}{te ta:TE}{tA:TA}{tc:TT}{fc:FT}{f:FE}{fs:FA}{pos apos:Pos}{m:Str}
def PE1(X:Cx)(pins:List (Addr×Obj))(σ:St)(e:Expr)(t:TE):Prop:=∀(s:Shared)(H:Hp)(Q:VK),Inv X pins σ H s→t σ H Q→wpAny (model X.prog X.w) X.A (eval e X.env) (EP X pins σ Q) X.xe s
def PS1(X:Cx)(pins:List (Addr×Obj))(σ:St)(st:Stmt)(t:TS):Prop:=∀(s:Shared)(H:Hp)(D:Ends),Inv X pins σ H s→t D σ H→wpAny (model X.prog X.w) X.A (exec st X.env) (SP X pins D) X.xe s
def VP(CX:Vr)(X:Cx)(pins:List (Addr×Obj))(σ:St)(E:XK):Prop:=∀(H:Hp)(s:Shared)(e:Value)(s':Shared),Inv X pins σ H s→CX X.stack H s E e s'→X.xe e s'
structure XRz(K:aC)(κ:Nat→Addr)(X:Cx)(E:XK)(e:Expr)(t:TE)(z:DE→Option Nat):Prop where
 pe:∀(pins:List (Addr×Obj))(σ:St),VP (yj X.prog X.w) X pins σ E→PE1 X pins σ e t
 ev:∀(σ:St)(H:Hp)(de:DE)(i:Nat)(Q:VK),pY K H de σ→z de=some i→(∀H',aV H H'→E (.ref (κ i)) none H')→t σ H Q
end
section
variable{P:Program}{w:World}{K:aC}{mg:Str→Option Value}{base:Heap}{κ:Nat→Addr}
end
section
variable{K:aC}{κ:Nat→Addr}{X:Cx}{E:XK}{z:GZ}{g:GS}{pos:Pos}
end
end L2


namespace L2
open PySem PySem.Spec PySem.Calls PyProof.Rows PyProof.V
abbrev vd:List Value:=[.type "ValueError", .type "Exception", .type "BaseException", .type "object"]
structure ExF(K:aC)(mg:Str→Option Value)(x:Str)(C:Addr):Prop where
 mg:mg x=some (.ref C)
 ok:PySem.W.excIn K C vd "ValueError.__new__" = true
section
variable{P:Program}{w:World}{K:aC}{mg:Str→Option Value}{base:Heap}{N:List Str}{qual:Str}{scope:Scope}{f:Addr}{cd:Value}{A:Around}{outer:List Env}{s0:Shared}{H0:Hp}{E:XK}{κ:Nat→Addr}
 {x:Str} {C:Addr} {np cpos pos:Pos} {e:Expr} {es:List Expr} {tA:TA}
end
abbrev Cx.tr(X:Cx)(pn:List (Addr×Obj))(Ex:Value→Shared→Prop):Cx:={X with pn:=pn,xe:=Ex}
abbrev Cx.hand(X:Cx)(pn:List (Addr×Obj))(e:Addr):Cx:={X with pn:=pn,A:=X.A.mark (some (.ref e)),calm:=false,xe:=λ_ _=>False}
section
variable{X:Cx}{pins Ye pn:List (Addr×Obj)}{σ:St}{H:Hp}{s s':Shared}{Ex:Value→Shared→Prop}{e:Addr}{D:Ends}{fl:Flow}
end
abbrev vf:=Nat→Nat→Bool
section
variable{K:aC}{κ:Nat→Addr}{X:Cx}{sub:vf}{n nj:Nat}{z:GZ}{g:GS}{st:Stmt}{pos:Pos}
def gAs(k:Nat)(g:GS):GS:=λenv=>if k<env.length then(match g (env.set k .no)with
 | .next env'=>if k<env'.length then .next (env'.set k .no)else .bad
 | _=>.bad)else .bad
structure YE(K:aC)(X:Cx)(k:Nat)(e:Addr)(sts:List Stmt)(t:TS)(g:GS):Prop where
 ps:Lk X sts t
 ev:∀(B:Hp)(D:Ends)(σ:St)(H:Hp)(env:EN),Rel K B env σ H→σ[k]?=some (some (.ref e))→Er K B D (g env)→t D σ H
inductive HK(K:aC)(κ:Nat→Addr)(X:Cx)(n i:Nat):List ExceptHandler→List (Nat×GS)→Prop
 | nil:HK K κ X n i [] []
 | cons {x:Str} {np hp:Pos} {b₀:Stmt} {suite:List Stmt} {rest:List ExceptHandler} {j:Nat} {gh:GS} {r:List (Nat×GS)} (hm:X.mg x=some (.ref (κ j))) (hg:Gl X x) (hd:(x==("__debug__" : Str))=false)
   (hs:∀(pn:List (Addr×Obj))(e:Addr),∃t,YB K (X.hand pn e) (b₀::suite) t gh) (hr:HK K κ X n i rest r):HK K κ X n i (.ExceptHandler (some (.Name x np)) none (b₀::suite) hp::rest) ((j,gh)::r)
 | as {x nm:Str} {np hp:Pos} {b₀:Stmt} {suite:List Stmt} {rest:List ExceptHandler} {j k:Nat} {gh:GS} {r:List (Nat×GS)} (hm:X.mg x=some (.ref (κ j))) (hg:Gl X x) (hd:(x==("__debug__" : Str))=false) (hN:X.N.Nodup) (hk:X.N[k]?=some nm) (hl:X.env.scope.names.lookup nm=some .local)
   (hs:∀(pn:List (Addr×Obj))(e:Addr)(oe:Obj),i<n→oe.cls=.ref (κ i)→(e,oe)∈pn→∃t,YE K (X.hand pn e) k e (b₀::suite) t gh) (hr:HK K κ X n i rest r):HK K κ X n i (.ExceptHandler (some (.Name x np)) (some nm) (b₀::suite) hp::rest) ((j,gAs k gh)::r)
structure ZS(K:aC)(κ:Nat→Addr)(X:Cx)(E:XK)(st:Stmt)(t:TS)(z:GZ):Prop where
 ps:∀(pins:List (Addr×Obj))(σ:St),VP (yj X.prog X.w) X pins σ E→PS1 X pins σ st t
 ev:∀(B:Hp)(D:Ends)(σ:St)(H:Hp)(env:EN)(i:Nat),Rel K B env σ H→z env=some i→(∀H',aV H H'→E (.ref (κ i)) none H')→t D σ H
end
end L2


namespace L2
open PySem PySem.Spec PySem.Calls PyProof.Rows PyProof.V
section
variable{K:aC}{X:Cx}{κ:Nat→Addr}{pos p:Pos}
structure XE(K:aC)(X:Cx)(k:Nat)(ea:Addr)(e:Expr)(t:TE)(d:D):Prop where
 pe:PE X e t
 ev:∀(σ:St)(H:Hp)(Q:VK),σ[k]?=some (some (.ref ea))→(∀v H',aV H H'→Eh K H H' d v→Q v H')→t σ H Q
end
section
variable{K:aC}{X:Cx}{g:GS}{pos:Pos}
end
end L2


namespace L2
open PySem PySem.Spec PySem.Calls PyProof.Rows PyProof.V
section
variable{K:aC}{X:Cx}{pos p0:Pos}
end
end L2


namespace L2
open PySem PySem.Spec PySem.Calls PyProof.Rows PyProof.V Builtin Builtin.ObjectAttr Builtin.Getset_descriptor
section
variable{P:Program}{w:World}{A:Around}{E:Value→Shared→Prop}{s:Shared}{K:aC}{x D:Addr}{ox:Obj}{od:Option Obj}
structure aCa(K:aC)(D:Addr):Prop where
 ga:J2 K (.ref D) "__getattribute__" = some (some (.builtin "BaseException.__getattribute__"))
 gt:J2 K (.ref D) "__getattr__" = some none
 cl:J2 K (.ref D) "__class__" = some (some (.builtin "object.__class__"))
 sp:O6 K (.builtin "object.__class__") "__get__" = some (some (.builtin "getset_descriptor.__get__"))
 tk:U5 K (.builtin "object.__class__")=some true
 mr:V4 K D (.type "object")=some true
 bx:PySem.W.subIn K (.ref D) (.type "BaseException")=some true
 ct:(PySem.W.clsIn K D).isSome=true
end
section
variable{K:aC}{X:Cx}{κ:Nat→Addr}{pos p:Pos}
structure XEn(K:aC)(X:Cx)(k:Nat)(ea:Addr)(e:Expr)(t:TE)(f:FE):Prop where
 hk:X.K=K
 pe:PE X e t
 ev:∀(σ:St)(H:Hp)(de:DE)(d:D)(Q:VK),pY K H de σ→σ[k]?=some (some (.ref ea))→f de=some d→(∀v H',aV H H'→Eh K H H' d v→Q v H')→t σ H Q
structure XEB(K:aC)(X:Cx)(k:Nat)(ea:Addr)(es:List Expr)(t:TA)(fs:FA):Prop where
 hk:X.K=K
 pa:PA X es t
 ev:∀(σ:St)(H:Hp)(de:DE)(ds:List D)(Q:List V→Hp→Prop),pY K H de σ→σ[k]?=some (some (.ref ea))→fs de=some ds→(∀vs H',aV H H'→Ep K H H' ds vs→Q vs H')→t σ H Q
end
end L2


namespace L2
open PySem PySem.Spec PySem.Calls PyProof.Rows PyProof.V
section
variable{P:Program}{w:World}{K:aC}{mg:Str→Option Value}{base:Heap}{κ:Nat→Addr}
end
section
variable{K:aC}{κ:Nat→Addr}{X:Cx}{E:XK}{pos:Pos}
end
end L2


namespace L2
open PySem PySem.Spec PySem.Calls PyProof.Rows PyProof.V
def Wk:D→Option String
  | .int _=>some "int" | .bl _=>some "bool" | .str _=>some "str" | .non=>some "NoneType" | .lst _=>some "list" | .tup _=>some "tuple" | .dk _ _=>some "dict"
  | _=>none
abbrev Mv:List String:=["int", "bool", "str", "list", "tuple"]
def nZ(t T:String):Bool:=t==T||(t == "bool" && T == "int")
theorem qH{K:aC}:∀t∈["int", "bool", "str", "NoneType", "list", "tuple", "dict"],∀T∈Mv,V2 K (.type t) (.type T)=some (nZ t T):=by
 intro t ht T hT
 simp only[E9,J1,or_false]at ht hT
 rcases ht with rfl | rfl | rfl | rfl | rfl | rfl | rfl<;>rcases hT with rfl | rfl | rfl | rfl | rfl<;>with_unfolding_all rfl
section
variable{K:aC}{X:Cx}{e:Expr}{t:TE}{f:FE}{pos:Pos}
def QG(T:String)(d:D):Option D:=if T∈Mv then(Wk d).map λt=>.bl (nZ t T)else none
def qX(T:String)(f:FE):FE:=λe=>(f e).bind (QG T)
def vg(K:aC)(T:String):List V→Hp→VK→Prop:=λxs H Q=>T∈Mv∧∃x d t,xs=[x,.ty T]∧Rv K H d x∧Wk d=some t∧Q (.bl (nZ t T)) H
theorem iw{T:String}(hk:X.K=K):lH X (.builtin "isinstance") (vg K T):=by
 subst hk
 intro pins s σ H xs us Q I r h
 obtain⟨hT,x,d,t,rfl,rv,ht,q⟩:=h
 obtain⟨u,w',rfl,rx,rt⟩:=vals2 r
 cases rt
 have fin:∀tk,EP X pins σ Q (.bool (nZ t T)) {s with toks:=tk}:=λtk=>⟨.bl _,H,I.tok _,rfl,q⟩
 cases d with
 | non=>cases ht;unfold Rv at rv;subst rv;exact rW I rx .non (qH _ (by decide) T hT) fin
 | bl b=>cases ht;unfold Rv at rv;subst rv;exact rW I rx (.bl b) (qH _ (by decide) T hT) fin
 | int i=>cases ht;unfold Rv at rv;subst rv;exact rW I rx (.int i) (qH _ (by decide) T hT) fin
 | str y=>cases ht;unfold Rv at rv;subst rv;exact rW I rx (.str y) (qH _ (by decide) T hT) fin
 | lst ds=>
  cases ht
  unfold Rv at rv
  obtain⟨a,xs,rfl,e2,_⟩:=rv
  cases(show u=Value.ref a from rx)
  obtain⟨its,_,pl,_⟩:=I.list e2
  obtain⟨o,n,h1,h2,_⟩:=pl
  exact F0 O7 I.Ew ⟨o,h1,h2⟩ (qH _ (by decide) T hT) (λz=>nomatch z) fin
 | tup ds=>
  cases ht
  unfold Rv at rv
  obtain⟨a,xs,rfl,e2,_⟩:=rv
  cases(show u=Value.ref a from rx)
  obtain⟨its,_,pl,_⟩:=I.tuple e2
  obtain⟨o,h1,h2,_⟩:=pl
  exact F0 S4 I.Ew ⟨o,h1,h2⟩ (qH _ (by decide) T hT) (λz=>nomatch z) fin
 | dk ks ds=>
  cases ht
  unfold Rv at rv
  obtain⟨a,xs,rfl,e2,_⟩:=rv
  cases(show u=Value.ref a from rx)
  obtain⟨_,_,vs,_,p⟩:=Tr I.hok e2
  obtain⟨o,es,ep,h1,h2,_⟩:=p
  exact F0 O8 I.Ew ⟨o,h1,h2.1⟩ (qH _ (by decide) T hT) (λz=>nomatch z) fin
 | dt ks ds=>cases ht
 | ins C nm ds=>cases ht
theorem pB{T:String}{p:Pos}{eT:Expr}(h:XR K X e t f)(hT:PE X eT (tC (.ty T)))(hg:Gl X "isinstance") (hm:X.mg "isinstance" = none) (hst:starEach (e::[eT]) X.env=(false,eval e X.env)::starEach [eT] X.env:=by rfl) (hst2:starEach [eT] X.env=(false,eval eT X.env)::starEach [] X.env:=by rfl)
  (hpl:(backTo pos (starEach [eT] X.env)).any (·.1)=false:=by rfl):XN K X (.Call (.Name "isinstance" p) [e,eT] [] pos) (TQ (vg K T) (dM t (dM (tC (.ty T)) kO))) (qX T f):=
 ⟨h.hk,Lx (iw h.hk) hg hm PyProof.Rows.boot_isinstance (cP h.pe (cP hT gP hst2) hst) (by decide) (by decide) hst hpl,λσ H e d Q re q k=>by
  unfold qX at q
  obtain⟨d0,q1,q2⟩:=bL q
  unfold QG at q2
  split at q2
  ·rename_i hT'
   obtain⟨ty,q3,rfl⟩:=lZ q2
   refine h.ev σ H H e d0 _ (Zn.self K H) re q1 λv H1 Z1 s1 t1 z1 rv=>?_
   exact⟨hT',v,d0,ty,rfl,z1.sm.rv _ _ rv,q3,k _ H1 s1 (.jA rfl (by unfold Rv;rfl))⟩
  ·cases q2⟩
end
end L2


set_option maxHeartbeats 1000000
namespace L2
open PySem PySem.Spec PySem.Calls PyProof.Rows PyProof.V
section
variable{K:aC}{X:Cx}{e:Expr}{t:TE}{f:FE}{pos p2:Pos}
def vh(z:Str)(lo hi:Option Int):Prop:=(∀i∈lo.toList,0≤i)∧(∀j∈hi.toList,0≤j)∧HT.wG z.length 0 lo≤HT.wG z.length z.length hi∧z.length≤100000
instance:∀z lo hi,Decidable (vh z lo hi):=λz lo hi=>by unfold vh;exact inferInstance
end
end L2


namespace L2
open PySem PySem.Spec PySem.Calls PyProof.Rows PyProof.V
section
variable{K:aC}{X:Cx}{pos:Pos}
variable{κ:Nat→Addr}{sub:vf}{n nj:Nat}
end
end L2


namespace L2
open PySem PySem.Spec PySem.Calls PyProof.Rows PyProof.V
section
variable{K:aC}{X:Cx}
end
end L2


namespace L2
open PySem PySem.Spec PySem.Calls PyProof.Rows PyProof.V
section
variable{K:aC}{X:Cx}{a e0 eM:Expr}{es:List Expr}{t0 tM:TE}{f0:FE}{gM:GM}{tA:TA}{fs:FA}{pos:Pos}{i:Nat}
end
end L2


namespace L2
open PySem PySem.Spec PySem.Calls PyProof.Rows PyProof.V
def Itz(K:aC)(a b:Addr):It:=
 ⟨λi H=>∃xs ys x y,jC K H a xs∧jC K H b ys∧xs[i]?=some x∧ys[i]?=some y,λi H x H'=>∃p v u,x=.ref p∧H p=none∧(∀xs,jC K H a xs→xs[i]?=some v)∧(∀ys,jC K H b ys→ys[i]?=some u)∧H'=upd H p (.tup [v,u]),λi H=>∃xs ys,jC K H a xs∧jC K H b ys∧(xs.length≤i∨ys.length≤i)⟩
theorem BR{P:Program}{w:World}{K:aC}{es:List Expr}{kk:Nat}{pos:Pos}(z TI TO i1 i2 a b:Addr)(D:ZipApart z TI TO i1 i2 a b):Turn P w K (.Tuple es kk pos) (Itz K a b) [z,TO,i1,i2,TI] z (λi h=>IsZip h z TI TO .none∧IsPair h TI (.ref i1) (.ref i2)∧(∃u v,IsPair h TO u v)∧h.IsListIter i1 a i∧h.IsListIter i2 b i) where
  mem:=by simp
  obj:=λi h st c hc=>by
    obtain⟨h1,h2,⟨u,v,h3⟩,⟨o4,h4,c4,d4⟩,⟨o5,h5,c5,d5⟩⟩:=st
    simp only[E9,J1,or_false]at hc
    rcases hc with rfl | rfl | rfl | rfl | rfl
    · exact⟨_,h1,λv z=>by cases z⟩
    · exact⟨_,h3,λv z=>by cases z⟩
    · exact⟨o4,h4,λv z=>by rw[d4]at z;cases z⟩
    · exact⟨o5,h5,λv z=>by rw[d5]at z;cases z⟩
    · exact⟨_,h2,λv z=>by cases z⟩
  keep:=λi h h' st k=>⟨k z (by simp) _ st.1,k TI (by simp) _ st.2.1,let ⟨u,v,q⟩:=st.2.2.1;⟨u,v,k TO (by simp) _ q⟩,st.2.2.2.1.at λo q=>k i1 (by simp) o q,st.2.2.2.2.at λo q=>k i2 (by simp) o q⟩
  item:=by
    intro X hP hw hK hc i pins s σ H E I hf st hg
    subst hP hw hK
    obtain⟨h1,h2,⟨u0,v0,h3⟩,h4,h5⟩:=st
    obtain⟨xs,ys,x,y,kh,kj,hx,hy⟩:=hg
    obtain⟨its,rv,p,_⟩:=I.list kh
    obtain⟨itb,yl,pb,_⟩:=I.list kj
    obtain⟨u,hu,ru⟩:=rv.get hx
    obtain⟨v,hv,rvv⟩:=yl.get hy
    have lt:∀c∈[z,TO,i1,i2,TI],c<s.heap.objs.size:=λc hc=>by
      simp only[E9,J1,or_false]at hc
      rcases hc with rfl | rfl | rfl | rfl | rfl
      · exact Heap.lt_size h1
      · exact Heap.lt_size h3
      · obtain⟨_,q,_⟩:=h4;exact Heap.lt_size q
      · obtain⟨_,q,_⟩:=h5;exact Heap.lt_size q
      · exact Heap.lt_size h2
    refine wpAny_pyNext_zip_item D h1 h2 h3 h4 h5 p.isList pb.isList (x:=u) (y:=v) (by simpa using hu) (by simpa using hv) λh' a1 a2 a3 a4 tup sz kp=>?_
    have hs:H s.heap.objs.size=none:=I.hok.fresh (B7 _)
    have I1:=I.laid (t':=s.toks) (a:=s.heap.objs.size) (o:=.tup [x,y]) (h':=s.heap.push {cls:=.type "tuple", data:=.seq #[u,v]}) (λb o q=>Heap.get?_push_of_some _ q) (B7 _)
      ⟨P4 (Vw (by simp)),[u,v],.cons ru (.cons rvv .nil),⟨_,Heap.get?_push_size _ rfl,rfl,_,rfl⟩⟩
    have f1:∀c∈[z,TO,i1,i2,TI],vC X pins (L2.upd H s.heap.objs.size (.tup [x,y])) c:=λc hc=>(hf c hc).upd (E7 (lt c hc))
    have I2:=I1.turns (h':=h') (ch:=[z,TO,i1,i2]) (t':=s.toks) (λc hc=>f1 c (by simp only[E9,J1,or_false]at hc ⊢;rcases hc with q | q | q | q<;>simp[q])) λc o nc q=>by
      simp only[E9,J1,or_false,not_or]at nc
      rcases Heap.get?_push_cases q with ⟨q1,q2⟩ | q0
      · rw[q1,q2]
        exact tup
      · exact kp c o nc.1 nc.2.1 nc.2.2.1 nc.2.2.2 q0
    have aAy:IsPair h' TI (.ref i1) (.ref i2):=kp TI _ D.TIz D.TITO D.TIi1 D.TIi2 h2
    refine⟨_,rfl,wpAny_letOwnedTupleGo_zip (s:={s with heap:=h'}) a1 λh3 e3 sb=>?_⟩
    refine⟨.ref s.heap.objs.size,_,I2.turns (ch:=[z]) (t':=s.toks) (λc hc=>f1 c (by rw[F2.mp hc];simp)) (λc o nc q=>sb.extBut c o (λq=>nc (by simp[q])) q),rfl,⟨_,x,y,rfl,hs,λws hw=>by rw[I.vB hw kh];exact hx,λws hw=>by rw[I.vB hw kj];exact hy,rfl⟩,⟨e3,sb.extBut TI _ D.TIz aAy,⟨_,_,sb.extBut TO _ D.TOz a2⟩,a3.at λo q=>sb.extBut i1 o D.i1z q,a4.at λo q=>sb.extBut i2 o D.i2z q⟩,λc hc=>(f1 c hc).1⟩
  done:=by
    intro X hP hw hK hc i pins s σ H E I hf st hg
    subst hP hw hK
    obtain⟨h1,h2,⟨u0,v0,h3⟩,h4,h5⟩:=st
    obtain⟨xs,ys,kh,kj,hl⟩:=hg
    obtain⟨its,rv,p,_⟩:=I.list kh
    obtain⟨itb,yl,pb,_⟩:=I.list kj
    have l1:=rv.length
    have l2:=yl.length
    refine wpAny_pyNext_zip_end (I.ok.hd hc) D h1 h2 h3 h4 h5 p.isList pb.isList ?_ λh' kp=>⟨rfl,I.turns (ch:=[z,TO,i1,i2]) (t':=s.toks) (λc hc=>hf c (by simp only[E9,J1,or_false]at hc ⊢;rcases hc with q | q | q | q<;>simp[q])) λc o nc q=>?_⟩
    · rcases hl with q | q
      · left;simp;omega
      · right;simp;omega
    · simp only[E9,J1,or_false,not_or]at nc
      exact kp c o nc.1 nc.2.1 nc.2.2.1 nc.2.2.2 q
  self:=λ_ _ _ _ _ st h=>wpAny_pyIter_zip st.1 h
section
variable{K:aC}{X:Cx}{e1 e2:Expr}{t1 t2 te:TE}{f g fe:FE}{tc:TT}{fc:FT}{pos p p2:Pos}{x:Str}
def iy(K:aC)(t1 t2:TE):TI:=λσ H R=>t1 σ H λv H1=>t2 σ H1 λu H2=>∃a b,v=.ref a∧u=.ref b∧(∃xs,jC K H2 a xs)∧(∃ys,jC K H2 b ys)∧R (Itz K a b) H2
theorem iz{ym:List Expr}{tk:Nat}{tpos:Pos}(ha:PE X e1 t1)(hb:PE X e2 t2)(hg:Gl X x)(hm:X.mg x=none)(hv:bootBuiltins x=some (.type "zip")) (hn:x ≠ "__name__" := by decide) (hdb:(x==("__debug__" : Str))=false:=by decide) (he:starEach [e1,e2] X.env=[(false,eval e1 X.env),(false,eval e2 X.env)]:=by rfl) (he1:starEach (e1::[e2]) X.env=(false,eval e1 X.env)::starEach [e2] X.env:=by rfl) (hpl:(backTo pos (starEach [e2] X.env)).any (·.1)=false:=by rfl):PI X (.Tuple ym tk tpos) (.Call (.Name x p) [e1,e2] [] pos) (iy X.K t1 t2):=by
 intro pins s σ H R I h
 refine wpAny_Call_Name_kw (wJ I hg hm hv ?_ hn hdb)
 refine K3 ?_ he1 hpl
 rw[he]
 refine Calls.spliced_cons (gG (ha pins s σ H _ I h) λu s1 ⟨v,H1,I1,r1,q1⟩=>Calls.spliced_cons (gG (hb pins s1 σ H1 _ I1 q1) λu2 s2 ⟨v2,H2,I2,r2,q2⟩=>Calls.spliced_nil ?_))
 obtain⟨a,b,e1,e2,⟨xs,kh⟩,⟨ys,kj⟩,q⟩:=q2
 subst e1 e2
 cases r1
 cases r2
 obtain⟨its,rv,pl,_⟩:=I2.list kh
 obtain⟨itb,yl,plb,_⟩:=I2.list kj
 have la:a<s2.heap.objs.size:=by obtain⟨o,q,_⟩:=pl.isList;exact Heap.lt_size q
 have lb:b<s2.heap.objs.size:=by obtain⟨o,q,_⟩:=plb.isList;exact Heap.lt_size q
 refine call_zip_2 pl.isList plb.isList λh' hz hTI hTO hi1 hi2 sz kp=>wpAny_pyIter_zip hz ?_
 refine⟨s2.heap.objs.size+4,[s2.heap.objs.size+4,s2.heap.objs.size+3,s2.heap.objs.size,s2.heap.objs.size+1,s2.heap.objs.size+2],_,_,H2,rfl,I2.kept (t':=s2.toks) kp,BR _ _ _ _ _ _ _ (zipApart_new la lb),⟨hz,hTI,⟨_,_,hTO⟩,hi1,hi2⟩,λc hc=>?_,q⟩
 have lc:s2.heap.objs.size≤c:=by
  simp only[E9,J1,or_false]at hc
  rcases hc with rfl | rfl | rfl | rfl | rfl
  ·exact M8 _ _
  ·exact M8 _ _
  ·exact B7 _
  ·exact M8 _ _
  ·exact M8 _ _
 exact I2.JM lc (I2.hok.fresh lc)
def rJ(c:D→D→Option Bool)(el:D→D→Option D):List (D×D)→Option (List D)
 | []=>some []
 | (x,y)::r=>(c x y).bind λb=>if b=true then(el x y).bind λz=>(rJ c el r).map (z::·)else rJ c el r
def xQ(f g:FE)(fr:List Nat)(fc:FT)(fe:FE):FE:=λe=>(f e).bind λd=>(g e).bind λd'=>match d,d' with
 | .lst xs,.lst ys=>if xs.length≤100000 then(rJ (λx y=>fc (some x::some y::kE e fr)) (λx y=>fe (some x::some y::kE e fr)) (xs.zip ys)).map D.lst else none
 | _,_=>none
theorem BV{fr:List Nat}(h:zQ K t1 f)(h':zQ K t2 g)(hc:Pk K tc fc)(he:Bl K te fe):Bl K (Bb (iy K t1 t2) 2 fr (Uq K) tc te) (xQ f g fr fc fe):=by
 intro σ H e d Q re q k
 unfold xQ at q
 obtain⟨d0,q1,qa⟩:=bL q
 obtain⟨d1,ye,qb⟩:=bL qa
 clear q qa
 split at qb
 ·rename_i xs ys'
  split at qb
  ·rename_i hlen
   obtain⟨ds,q2,rfl⟩:=lZ qb
   refine h σ H H e _ _ (Zn.self K H) re q1 λv H0 Z0 s0 t0 z0 rv0=>h' σ H0 H0 e _ _ (Zn.self K H0) (re.same s0) ye λw H1 Z1 s01 t1 z1 rw0=>?_
   have s1:aV H H1:=s0.trans s01
   have rv1:=s01.rv _ _ (z0.sm.rv _ _ rv0)
   have rw1:=z1.sm.rv _ _ rw0
   unfold Rv at rv1 rw1
   obtain⟨pa,vs,rfl,sq,rvs⟩:=rv1
   obtain⟨pb,us,rfl,sqb,rus⟩:=rw1
   refine⟨pa,pb,rfl,rfl,⟨vs,sq⟩,⟨us,sqb⟩,?_⟩
   intro D0 hD
   have hl:=rvs.length
   have hlb:=rus.length
   have hHD:H D0=none:=s1.free hD
   generalize hcc:(λx y=>fc (some x::some y::kE e fr))=cc at q2
   generalize hel:(λx y=>fe (some x::some y::kE e fr))=el at q2
   have sqS:∀{H2:Hp},aV H1 H2→jC K H2 pa vs:=λ{H2} s2=>by
    rcases sq with z | z
    ·exact .inl (s2.rd z)
    ·exact .inr z
   have sqT:∀{H2:Hp},aV H1 H2→jC K H2 pb us:=λ{H2} s2=>by
    rcases sqb with z | z
    ·exact .inl (s2.rd z)
    ·exact .inr z
   have hzl:(xs.zip ys').length=min vs.length us.length:=by rw[N6,hl,hlb]
   generalize hn:min vs.length us.length=n at hzl
   refine⟨λi m ys H2=>∃Wf PJ A,m=n-i∧i≤n∧ds=Wf++PJ∧rJ cc el ((xs.zip ys').drop i)=some PJ∧aV H1 H2∧H2 D0=some (.lst ys)∧dI K H2 Wf A ys∧(∀a,A a→H1 a=none∧a≠D0)∧ys.length≤i,
    ⟨n,[],ds,nil,by simp,K9 _,rfl,by simpa using q2,bZ hD _,bO,by unfold dI;exact⟨λ_ z=>z,rfl⟩,λ_ z=>z.elim,B7 _⟩,?_⟩
   rintro i m ys H2 ⟨Wf,PJ,A,rfl,hi',hds,hcl,s2,hD2,ow,fr2,hyl⟩
   refine⟨hD2,?_⟩
   by_cases hlt:i<n
   ·have i1:i<vs.length:=by omega
    have i2:i<us.length:=by omega
    refine .inr ⟨⟨vs,us,vs[i],us[i],sqS s2,sqT s2,A6 i1,A6 i2⟩,λxv H' y=>?_⟩
    obtain⟨pp,v,u,rfl,hpn,hv',hu',rfl⟩:=y
    have hv:=hv' vs (sqS s2)
    have hu:=hu' us (sqT s2)
    have sT:aV H2 (upd H2 pp (.tup [v,u])):=bZ hpn _
    have hxi:i<xs.length:=by omega
    have hyi:i<ys'.length:=by omega
    have hxs:(xs.zip ys').drop i=(xs[i],ys'[i])::(xs.zip ys').drop (i+1):=by
     rw[K6 (by omega),P6]
    obtain⟨x',hx',rx⟩:=rvs.get (A6 hxi)
    rw[hv]at hx'
    cases hx'
    obtain⟨y',hy',ry⟩:=rus.get (A6 hyi)
    rw[hu]at hy'
    cases hy'
    rw[hxs]at hcl
    unfold rJ at hcl
    obtain⟨bb,c1,c2⟩:=bL hcl
    refine⟨pp,[v,u],rfl,pZ.of bO,rfl,_,_,rfl,_,_,rfl,rfl,?_⟩
    show Kp 2 σ fr (some v::some u::En σ fr)∧_
    refine⟨⟨by simp[blk],λj w hw=>?_⟩,?_⟩
    ·cases j with
     | zero=>simp[blk]at hw
     | succ j=>
      cases j with
      | zero=>simp[blk,L6]at hw
      | succ j=>simpa[blk,L6]using hw
    have s12:=s2.trans sT
    have uh:pY K (upd H2 pp (.tup [v,u])) (some xs[i]::some ys'[i]::kE e fr) (some v::some u::En σ fr):=QD (re.same (s1.trans s12)) (s12.rv _ _ rx) (s12.rv _ _ ry)
    refine hc _ _ _ bb _ uh (by rw[←hcc]at c1;exact c1) λH3 s3=>?_
    have zW:=s12.trans s3
    have yo:=sT.trans s3
    have gf:=yo _ _ hD2
    cases bb with
    | false=>
     rw[if_neg (by decide)]at c2 ⊢
     exact⟨n-(i+1),by omega,Wf,PJ,A,rfl,by omega,hds,c2,zW,gf,ow.same yo,fr2,by omega⟩
    | true=>
     rw[if_pos rfl]at c2 ⊢
     obtain⟨dy,c3,c4⟩:=bL c2
     obtain⟨ds3,c5,rfl⟩:=lZ c4
     refine he _ H3 _ dy _ (uh.same s3) (by rw[←hel]at c3;exact c3) λyv H4 s4 n4=>?_
     have um:=s4 _ _ gf
     refine⟨um,Fw (by omega),n-(i+1),by omega,Wf++[dy],ds3,?_⟩
     obtain⟨B,oB,fB⟩:=n4
     have hB:∀a,B a→H1 a=none∧a≠D0:=λa qa=>⟨zW.free (fB a qa),λz=>by have q0:=fB a qa;rw[z,gf]at q0;cases q0⟩
     refine⟨fY A B,rfl,by omega,by rw[hds];simp,c5,λb o eb=>?_,bO,?_,λa qa=>qa.elim (fr2 a) (hB a),by rw[B5];simp;exact hyl⟩
     ·rw[bY (gO eb hD)]
      exact(zW.trans s4) b o eb
     ·have o4:=(ow.same yo).same s4
      have ap:Apart A B:=λa qa qb=>by
       obtain⟨⟨u,eu⟩,_⟩:=dI.cells _ _ _ (ow.same yo) a qa
       rw[fB a qb]at eu;cases eu
      have all:dI K H4 (Wf++[dy]) (fY A B) (ys++[yv]):=cC.mpr ((cC.mp o4).snoc oB ap)
      exact dI.frame (uJ (mO um)) _ _ _ all λa qa=>bY (qa.elim (λz=>(fr2 a z).2) λz=>(hB a z).2)
   ·have ei:i=n:=by omega
    subst ei
    have:(xs.zip ys').drop i=[]:=Q4 (by omega)
    rw[this]at hcl
    unfold rJ at hcl
    cases hcl
    rw[N4]at hds
    subst hds
    refine .inl ⟨⟨vs,us,sqS s2,sqT s2,by omega⟩,k _ H2 (s1.trans s2) ⟨fY (·=D0) A,?_,λa qa=>qa.elim (λz=>by cases z;exact hHD) λz=>s1.free (fr2 a z).1⟩⟩
    unfold Ow
    exact⟨D0,ys,A,rfl,hD2,λz=>(fr2 D0 z).2 rfl,λ_=>Iff.rfl,ow⟩
  ·cases qb
 ·cases qb
theorem BW{ym:List Expr}{tk:Nat}{tpos:Pos}{elt:Expr}{ifs:List Expr}{scope:Scope}(N:List Str)(fr:List Nat)(hcalm:X.calm=true)(B:gZ X.env.scope scope X.N N 2 fr)(h:XR K X e1 t1 f)(h2:XR K X e2 t2 g)(hg0:Gl X x)(hm:X.mg x=none)(hv:bootBuiltins x=some (.type "zip"))
  (hg:∀cl fp s H C,PG (eY X scope N cl fp s H C) (.Tuple ym tk tpos) (Uq X.K)) (hc:∀cl fp s H C,yc K (eY X scope N cl fp s H C) ifs tc fc) (he:∀cl fp s H C,XN K (eY X scope N cl fp s H C) elt te fe)
  (hn:x ≠ "__name__" := by decide) (hdb:(x==("__debug__" : Str))=false:=by decide) (hst:starEach [e1,e2] X.env=[(false,eval e1 X.env),(false,eval e2 X.env)]:=by rfl) (aAB:starEach (e1::[e2]) X.env=(false,eval e1 X.env)::starEach [e2] X.env:=by rfl) (hpl:(backTo p2 (starEach [e2] X.env)).any (·.1)=false:=by rfl) (hs:∀y,foldedSetIterable (.Call (.Name x p) [e1,e2] [] p2) X.env y=pure y:=by intro _;rfl) :
  XN K X (.ListComp elt [⟨.Tuple ym tk tpos,.Call (.Name x p) [e1,e2] [] p2,ifs,0⟩] scope pos) (Bb (iy K t1 t2) 2 fr (Uq K) tc te) (xQ f g fr fc fe):=
 ⟨h.hk,by
  have hk:=h.hk
  subst hk
  exact Tv N 2 fr hcalm B (iz h.pe h2.pe hg0 hm hv hn hdb hst aAB hpl) hg (λcl fp s H C=>(hc cl fp s H C).pts) (λcl fp s H C=>(he cl fp s H C).pe) hs,
  BV h.ev h2.ev (hc [] [] X.s₀ X.H₀ 0).ev (he [] [] X.s₀ X.H₀ 0).ev⟩
end
end L2


namespace L2
open PySem PySem.Spec PySem.Calls PyProof.Rows PyProof.V
inductive Ap where
  | ch (i:Nat) (π:FP) | rd (f:FE) | nw (f:FE)
def yp:List Ap→DE→Option (List (Nat×List Step))
 | [],_=>some []
 | .ch i π::as,e=>(π e).bind λp=>(yp as e).map λr=>(i,p)::r
 | .rd _::as,e=>yp as e
 | .nw _::as,e=>yp as e
def yq:List Ap→DE→DE→Option (List D)
 | [],_,_=>some []
 | .ch _ _::as,eF,eZ=>yq as eF eZ
 | .rd f::as,eF,eZ=>(f eZ).bind λd=>(yq as eF eZ).map λr=>d::r
 | .nw f::as,eF,eZ=>(f eF).bind λd=>(yq as eF eZ).map λr=>d::r
def Us(K:aC)(Z:Hp):List Ap→List V→List D→List V→Prop
 | [],cv,ds,vs=>cv=[]∧ds=[]∧vs=[]
 | .ch _ _::as,cv,ds,vs=>∃v cr r,cv=v::cr∧vs=v::r∧Us K Z as cr ds r
 | .rd _::as,cv,ds,vs=>∃d dr v r,ds=d::dr∧vs=v::r∧Rv K Z d v∧Us K Z as cv dr r
 | .nw _::as,cv,ds,vs=>∃d dr v r,ds=d::dr∧vs=v::r∧Rv K Z d v∧Us K Z as cv dr r
def VsP(σ:St)(H:Hp):List (Nat×List Step)→List V→Prop
 | [],vs=>vs=[]
 | (j,p)::js,vs=>∃v0 v r,vs=v::r∧σ[j]?=some (some v0)∧Es H p v0=some v∧VsP σ H js r
section
variable{K:aC}{X:Cx}{e:Expr}{es:List Expr}{te:TE}{f:FE}{tA:TA}{as:List Ap}{pos:Pos}{i:Nat}{π:FP}
def aAC(K:aC)(t:TA)(as:List Ap):Prop:=∀(A1:Fp)(σ:St)(H:Hp)(eF eZ:DE)(ds:List D)(ps:List (Nat×List Step))(cv:List V)(Q:List V→Hp→Prop),(∀x,A1 x→rG H x)→pY K H eF σ→pY K (out H A1) eZ σ→yp as eF=some ps→VsP σ H ps cv→yq as eF eZ=some ds →
 (∀vs H',aV H H'→Us K (out H' A1) as cv ds vs→Q vs H')→t σ H Q
structure XAP(K:aC)(X:Cx)(es:List Expr)(t:TA)(as:List Ap):Prop where
 hk:X.K=K
 pa:PA X es t
 ev:aAC K t as
end
section
variable{K:aC}{H H' Z Z' B:Hp}{σ:St}
end
section
variable{K:aC}{X:Cx}{e:Expr}{es:List Expr}{tA:TA}{as:List Ap}{pos pf:Pos}
end
section
variable{K:aC}{X:Cx}{a b e:Expr}{ta tb te:TE}{g:FE}{gm:GM}{i:Nat}{π:FP}{pos pos':Pos}
end
end L2


namespace L2
open PySem PySem.Spec PySem.Calls PyProof.Rows PyProof.V
section
variable{K:aC}{te:TE}{f:FE}{i:Nat}{c:Int}
end
end L2


namespace L2
open PySem PySem.Spec PySem.Calls PyProof.Rows PyProof.V HT
section
variable{X:Cx}{K:aC}{e:Expr}{t:TE}{f:FE}{x y:Str}{p p2 pos pos2:Pos}
end
end L2


namespace L2
open PySem PySem.Spec PySem.Calls PyProof.Rows PyProof.V
def vm(base:Heap)(l:List Env)(e:Addr)(cls a0:Value)(h:Heap):Prop:=base.StaysIn h∧base.get? e=none∧h.FunFrames base l∧∃fl,h.TracedAtW base e cls a0 fl
section
variable{M:Model}{A:Around}{E:Value→Shared→Prop}{s:Shared}{base:Heap}{env:Env}{outer l:List Env}{L e:Addr}{cls a0:Value}
end
structure Hl(l:List Env)(s1:Shared)(e:Addr)(cls:Value)(s':Shared):Prop where
 held:∃a0,vm (uz s1.heap l) l e cls a0 s'.heap
 up:s1.heap.UpToSlots s'.heap
 os:s'.os=s1.os
 bare:AllBare s'.gens
section
variable{P:Program}{w:World}{K:aC}{mg:Str→Option Value}{base:Heap}{N:List Str}{qual:Str}{scope:Scope}{f:Addr}{cd:Value}{A:Around}{outer:List Env}{s0:Shared}{H0:Hp}{E:XK}
end
section
variable{X:Cx}{EE:XK}
end
section
variable{K:aC}{κ:Nat→Addr}{X:Cx}{E:XK}
end
section
variable{K:aC}{κ:Nat→Addr}{X:Cx}{E:XK}{a e:Expr}{ta tz:TE}{f:FE}{z:DE→Option Nat}{pos:Pos}
end
end L2


namespace L2
open PySem PySem.Spec PySem.Calls PyProof.Rows PyProof.V
section
variable{K:aC}{te:TE}{f:FE}{tc:TT}{c:FT}{i j:Nat}
end
end L2


namespace L2
open PySem PySem.Spec PySem.Calls PyProof.Rows PyProof.V
section
variable{M:Model}{A:Around}{E:Value→Shared→Prop}{s:Shared}
end
structure km(wH scope:Scope)(oN N:List Str)(k:Nat)(fr:List Nat):Prop where
 kind:scope.kind=.function
 loc:∀y∈scope.names,y.2=.local→scope.names.lookup y.1=some .local
 free:∀y∈scope.names,y.2=.free→wH.names.lookup y.1=some .cell∨wH.names.lookup y.1=some .free
 len:N.length=k+fr.length
 slots:∀j∈C5 fr.length,oN[fr.getD j 0]?=N[k+j]?
 from_:∀x∈N.drop k,(x,NameKind.free)∈scope.names∧((iQ scope wH).names.lookup x=some .cell∨(iQ scope wH).names.lookup x=some .free)
 apart:∀y∈scope.names,y.2=.free→(y.1,NameKind.cell)∉scope.names
def aAD(wH scope:Scope)(oN N:List Str)(k:Nat)(fr:List Nat):Bool:=
 decide (scope.kind=.function)&&decide (∀y∈scope.names,y.2=.local→scope.names.lookup y.1=some .local) &&
 decide (∀y∈scope.names,y.2=.free→wH.names.lookup y.1=some .cell∨wH.names.lookup y.1=some .free)&&decide (N.length=k+fr.length) &&
 decide (∀j∈C5 fr.length,oN[fr.getD j 0]?=N[k+j]?) &&
 decide (∀x∈N.drop k,(x,NameKind.free)∈scope.names∧((iQ scope wH).names.lookup x=some .cell∨(iQ scope wH).names.lookup x=some .free)) &&
 decide (∀y∈scope.names,y.2=.free→(y.1,NameKind.cell)∉scope.names)
section
variable{X:Cx}
end
section
variable{K:aC}{X:Cx}{tc:TT}{fc:FT}{pos:Pos}
end
end L2


namespace L2
open PySem PySem.Spec PySem.Calls PyProof.Rows PyProof.V
section
variable{prog:Program}{w:World}{A:Around}{E:Value→Shared→Prop}{s:Shared}{it d:Addr}{i ep:Nat}{es:Array DictEntry}{od:Obj}
end
section
variable{X:Cx}
end
end L2


namespace L2
open PySem PySem.Spec PySem.Calls PyProof.Rows PyProof.V
section
variable{K:aC}{B H:Hp}{env:EN}{σ:St}
end
section
variable{K:aC}{t h:Nat}{tb:TS}{tb':Int→TS}{body:Int→GS}
end
section
variable{K:aC}{t h j:Nat}{tA:TA}{fs:FA}
end
section
variable{K:aC}{X:Cx}{t h j c i:Nat}{π:FP}{ta tb0:TE}{g:FE}{tA:TA}{fs:FA}{tg o o2 hn cn two a b val:Expr}{es:List Expr}{st1 st2:Stmt}{pos pos' p1 p2 p3 p4:Pos}{x1:Nat}
end
end L2


namespace L2
open PySem PySem.W PyProof.Rows
section
variable{N:Nat}(key:Nat→Int)
end
end L2


namespace L2
open PySem PySem.W PySem.Spec PyProof.Rows
def Prs(h:Heap):List Value→List (Int×Int)→Prop
 | [],ps=>ps=[]
 | v::vs,ps=>∃p qs,ps=p::qs∧(∃a t u,v=.ref a∧IsTup h a #[.int p.1 t,.int p.2 u])∧Prs h vs qs
section
variable{prog:Program}{w:World}{A:Around}{E:Value→Shared→Prop}{s:Shared}{vs:List Value}{ps:List (Int×Int)}
end
end L2


namespace L2
open PySem PySem.W PySem.Spec PyProof.Rows
section
variable{X:Cx}{pins:List (Addr×Obj)}{σ:List (Option V)}{H H':Hp}{s:Shared}{h':Heap}
end
section
variable{K:aC}{X:Cx}{pins:List (Addr×Obj)}{σ:St}{H:Hp}{s:Shared}
end
end L2


namespace L2
open PySem PySem.W PySem.Spec PyProof.Rows
section
variable{K:aC}{X:Cx}{pins:List (Addr×Obj)}{σ:St}{H:Hp}{s:Shared}
end
structure M0(X:Cx)(o:Expr)(m:Str)(apos:Pos)(cpos:Pos):Prop where
 base:attributeBase o m X.env (eval o X.env)=eval o X.env
 few:((backTo cpos (starEach [] X.env)).all (λx=>!x.1)&&(backToKw cpos (keywordEach [] X.env)).all (λx=>x.1.isSome)
  && decide (([]:List Expr).length+([]:List Keyword).length+(if([]:List Keyword).isEmpty then 0 else 1)<30))=true
 line:(apos.endLine==cpos.line)=true
 trees:backTo cpos (starEach [] X.env)=[]
section
variable{K:aC}{X:Cx}{o:Expr}{t:TE}{f:FE}{x:Str}{p pos apos cpos:Pos}
end
end L2


namespace L2
open PySem PySem.W PySem.Spec PyProof.Rows
section
variable{prog:Program}{w:World}{A:Around}{R:Result→Shared→Prop}{I:Addr}{fp wr:List Addr}{G:Array GenState→Array GenState→Prop}{n:Nat}{P:Nat→Value→Prop}{St:Nat→Shared→Prop}
variable{E:Value→Shared→Prop}{s:Shared}
end
end L2


namespace L2
open PySem PySem.W PySem.Spec PyProof.Rows
mutual
def slf:D→Nat→Bool
 | .int _,_=>true
 | .str _,_=>true
 | .lst ds,n+1=>jb ds n
 | .tup ds,n+1=>jb ds n
 | _,_=>false
def jb:List D→Nat→Bool
 | [],_=>true
 | d::ds,n=>slf d n&&jb ds n
end
section
open SeqAt
variable{X:Cx}{pins:List (Addr×Obj)}{σ:St}{H:Hp}{s:Shared}
end
section
open SeqAt
variable{K:aC}{X:Cx}
end
section
variable{K:aC}{X:Cx}
end
end L2


namespace L2
open PySem PySem.W PySem.Spec PyProof.Rows
section
variable{K:aC}{X:Cx}{e a b c:Expr}{ta tb te:TE}{f g:FE}{pos:Pos}{i j:Nat}{π:FP}{tc:TT}{fc:FT}
end
end L2


namespace L2
open PySem PySem.W PySem.Spec PyProof.Rows
section
open SeqAt
variable{K:aC}{X:Cx}
end
end L2


namespace L2
open PySem PySem.W PySem.Spec PyProof.Rows
section
variable{K:aC}{X:Cx}{a b c:Expr}{ta tb tc:TE}{fa fb fc:FE}{pos:Pos}
end
end L2


namespace L2
open PySem PySem.W PySem.Spec PyProof.Rows
def lcg(M x:Nat):Nat:=(x*5+1)%M
def itr(M:Nat):Nat→Nat→Nat
 | 0,x=>x
 | n+1,x=>itr M n (lcg M x)
def Full(M:Nat):Prop:=0<M∧itr M M 0=0∧∀y,y<M→∃k,k<M∧itr M k 0=y
abbrev frN(owner:Array (Option Nat))(j:Nat):Prop:=(owner.getD j (some 0)).isNone=true
def aCk(mask:Nat)(owner:Array (Option Nat))(sl:List Nat):Prop:=owner.size=mask+1∧sl.Nodup∧(∀j∈sl,j≤mask)∧∀j,j≤mask→owner[j]?=some (posK sl j)
end L2


namespace L2
open PySem PySem.W PySem.Spec PyProof.Rows
section
variable{prog:Program}{w:World}{A:Around}{E:Value→Shared→Prop}{s:Shared}{b:Bool}
def aCl(prog:Program)(w:World)(b:Bool)(h:Heap)(a:Addr)(S:Int→Bool)(n:Nat)(P:SetTable→Prop):Prop:=
 ∃o es ep t,h.get? a=some o∧o.ExactSet∧o.data=.set es ep t∧ElemsOf (intKind prog w) es.toList∧(∀k,S k=true↔∃e∈es.toList,(intKind prog w).is k e.2=true)∧es.size<scanBound∧t.fits es.size=true∧es.size=n∧Led b t∧P t
end
end L2


namespace L2
open PySem PySem.W PySem.Spec PyProof.Rows
section
variable{prog:Program}{w:World}{A:Around}{E:Value→Shared→Prop}{s:Shared}
end
section
variable{X:Cx}{ea eb:Expr}{ta tb:TE}{x y:Str}{p p2 p3 pos pos2 aAF aAG:Pos}
end
end L2


namespace L2
open PySem PySem.W PySem.Spec PyProof.Rows
section
variable{K:aC}{X:Cx}{ea eb:Expr}{ta tb te:TE}{fa fb f g:FE}{x y:Str}{p p2 p3 pos pos2 aAF aAG:Pos}{i t:Nat}
end
end L2


namespace L2
open PySem PySem.Spec PySem.Calls PyProof.Rows PyProof.V
section
variable{K:aC}{X:Cx}{a b e:Expr}{ta tb te:TE}{f g:FE}{π:FP}{i j:Nat}{m:Str}{pos apos cpos:Pos}
def BX(a i:D):Option D:=match a,i with
 | .lst ds,.int i=>Av ds i
 | _,_=>none
theorem Ut(ha:XN K X a ta f)(hb:XR K X b tb g)(hs:zP b):XN K X (.Subscript a b pos) (Am (ZP K) ta tb) (f2 BX f g):=
 ⟨ha.hk,Tp (Ue ha.hk) ha.pe hb.pe hs,λσ H e d Q re q k=>by
  obtain⟨da,db,q1,q2,q3⟩:=zR q
  refine ha.ev σ H e da _ re q1 λx H1 s1 n1=>hb.ev σ H1 H1 e db _ (Zn.self K H1) (re.same s1) q2 λy H2 Z2 s2 t2 z2 ry=>?_
  unfold BX at q3
  split at q3
  ·rename_i ds i
   unfold Rv at ry
   obtain⟨A,o,fr⟩:=n1.same s2
   unfold Ow at o
   obtain⟨p,xs,B,rfl,h1,h2,h3,h4⟩:=o
   unfold Av at q3
   obtain⟨j,j1,j2⟩:=bL q3
   obtain⟨v,A1,C,g1,g2,g3,g4,_⟩:=(cC.mp h4).focus j2
   refine .inl ⟨p,xs,i,v,rfl,ry,jC.of h1,?_,k v H2 (s1.trans s2) ⟨A1,g4,λx z=>fr x ((h3 x).mpr (.inr ((g3 x).mpr (.inl z))))⟩⟩
   unfold Av
   rw[(dI.rv _ _ _ h4).length,j1]
   exact g1
  ·cases q3⟩
def qI(i:Nat):GS:=λenv=>match env[i]? with
 | some (.own (.lst ds))=>.ret (.tup ds)
 | _=>.bad
theorem xR{p:Pos}(h:PE X a (iK i))(hk:X.K=K)(hg:Gl X "tuple") (hm:X.mg "tuple" = none) (he:starEach [a] X.env=(false,eval a X.env)::starEach [] X.env:=by rfl):YS K X (.Return (some (.Call (.Name "tuple" p) [a] [] cpos)) pos) (Ei (TQ (Jp K) (dM (iK i) kO))) (qI i):=
 ⟨wK (wM (Bv hk) hg hm K0 (cP h gP he) (by decide) (by decide) he rfl),λB E σ H env r p=>by
  unfold qI at p
  obtain⟨A,a,b⟩:=r
  split at p
  ·rename_i ds q
   obtain⟨y,A1,C,h1,h2,h3,h4,_⟩:=a.focus q
   obtain⟨v,rfl,o⟩:=h4
   unfold Ow at o
   obtain⟨p0,xs,B0,rfl,k1,k2,k3,k4⟩:=o
   refine⟨_,h1,p0,xs,rfl,.inl ⟨jC.of k1,λl hl=>?_⟩⟩
   refine p (.ref l) _ B0 (b.trans (gC (bZ hl _) λx z=>.inl ((h3 x).mpr (.inl ((k3 x).mpr (.inr z)))))) ?_
   unfold Ow
   exact⟨l,xs,rfl,pZ.of bO,k4.same (bZ hl _)⟩
  ·exact p.elim⟩
def Gm(i:Nat)(π:FP)(g f:FE):GS:=λenv=>match env[i]?,π (rE env),g (rE env),f (rE env)with
 | some (.own d0),some p,some (.int k),some d=>(match lK p d0 with
  | some (.lst ds)=>if k=0∧ds.length<1000 then .next (env.set i (.own (jR p d0 (.lst (d::ds)))))else .bad
  | _=>.bad)
 | _,_,_,_=>.bad
theorem QH(h:ie K ta i π)(hx:zQ K tb g)(he:Bl K te f):VG K (pD (Pj K "list" zX ta (dM tb (dM te kO)))) (Gm i π g f):=λB E σ H env r p=>by
 unfold Gm at p
 split at p
 ·rename_i d0 pp k d q1 q2 q3 uv
  split at p
  ·rename_i ds q4
   split at p
   ·rename_i hc
    obtain⟨c0,c2⟩:=hc
    subst c0
    obtain⟨v0,a,xs,Bs,k1,k2,k3,k4,k5,k6⟩:=r.Jw q1 q4
    have hlen:=(dI.rv _ _ _ k5).length
    refine h σ H (rE env) v0 pp _ _ r.r k1 q2 k2 λH1 s1=>⟨.inl ⟨rfl,_,jC.of (s1 _ _ k3)⟩,?_⟩
    refine hx σ H1 H1 (rE env) _ _ (Zn.self K H1) (r.r.same s1) q3 λu H2 Z2 s2 t2 z2 ru=>he σ H2 (rE env) d _ (r.r.same (s1.trans s2)) uv λy H3 s3 n=>?_
    unfold Rv at ru
    subst ru
    have zW:=s1.trans (s2.trans s3)
    obtain⟨N,o,fr⟩:=n.back (s1.trans s2)
    refine⟨a,xs,0,y,rfl,rfl,zW _ _ k3,Q5 _,K9 _,Fw (by omega),p _ ?_⟩
    have e:xs.take (G5 0)++y::xs.drop (G5 0)=y::xs:=by simp
    rw[e]
    refine k6 H3 (d::ds) (y::xs) (fY N Bs) zW ?_ λb z=>z.elim (λz=>.inr (fr b z)) .inl
    unfold dI
    exact⟨y,xs,N,Bs,rfl,λx z1 z2=>Cd (H1:=H) k5 fr x z2 z1,λ_=>Iff.rfl,o,k5.same zW⟩
   ·exact p.elim
  ·exact p.elim
 ·exact p.elim
theorem QJ(h:XP K X a ta i π)(hx:XR K X b tb g)(he:XN K X e te f)(hp:PE X a ta→PE X b tb→PE X e te→PS X (.Expr (.Call (.Attribute a m apos) [b,e] [] cpos) pos) (pD (Pj K "list" zX ta (dM tb (dM te kO))))):YS K X (.Expr (.Call (.Attribute a m apos) [b,e] [] cpos) pos) (pD (Pj K "list" zX ta (dM tb (dM te kO)))) (Gm i π g f):=⟨hp h.pe hx.pe he.pe,(QH h.ev hx.ev he.ev).ds⟩
def Cg(i:Nat)(π:FP)(f:FE):GS:=λenv=>match env[i]?,π (rE env),f (rE env)with
 | some (.own d0),some p,some (.int k)=>(match lK p d0 with
  | some (.lst ds)=>if 0≤k∧k.toNat<ds.length∧ds.length<1000 then .next (env.set i (.own (jR p d0 (.lst (ds.eraseIdx k.toNat)))))else .bad
  | _=>.bad)
 | _,_,_=>.bad
theorem QK(h:ie K ta i π)(he:zQ K te f):VG K (pD (Pj K "list" uC ta (dM te kO))) (Cg i π f):=λB E σ H env r p=>by
 unfold Cg at p
 split at p
 ·rename_i d0 pp k q1 q2 q3
  split at p
  ·rename_i ds q4
   split at p
   ·rename_i hc
    obtain⟨c0,c1,c2⟩:=hc
    obtain⟨v0,a,xs,Bs,k1,k2,k3,k4,k5,k6⟩:=r.Jw q1 q4
    have hl:=(dI.rv _ _ _ k5).length
    refine h σ H (rE env) v0 pp _ _ r.r k1 q2 k2 λH1 s1=>⟨.inl ⟨rfl,_,jC.of (s1 _ _ k3)⟩,?_⟩
    refine he σ H1 H1 (rE env) _ _ (Zn.self K H1) (r.r.same s1) q3 λw H2 Z2 s2 t2 z2 Xw=>?_
    unfold Rv at Xw
    subst Xw
    have s12:=s1.trans s2
    obtain⟨x',hx'⟩:∃x',xs[k.toNat]?=some x':=⟨_,A6 (by omega)⟩
    refine⟨a,xs,k,k.toNat,x',rfl,rfl,s12 _ _ k3,by omega,by omega,seqIndex_of c0 (by omega),hx',p _ ?_⟩
    obtain⟨A',a1,a2⟩:=xP k.toNat (cC.mp (k5.same s12))
    exact k6 H2 _ _ A' s12 (cC.mpr a2) λx z=>.inl (a1 x z)
   ·exact p.elim
  ·exact p.elim
 ·exact p.elim
theorem Uu(h:XP K X a ta i π)(he:XR K X e te f)(hp:PE X a ta→PE X e te→PS X (.Expr (.Call (.Attribute a m apos) [e] [] cpos) pos) (pD (Pj K "list" uC ta (dM te kO)))):YS K X (.Expr (.Call (.Attribute a m apos) [e] [] cpos) pos) (pD (Pj K "list" uC ta (dM te kO))) (Cg i π f):=⟨hp h.pe he.pe,(QK h.ev he.ev).ds⟩
def uL(i:Nat)(π:FP)(g:FE)(j:Nat):GS:=λenv=>match env[j]? with
 | some (.own d)=>(match (env.set j .no)[i]?,π (rE (env.set j .no)),g (rE (env.set j .no))with
  | some (.own d0),some p,some (.int k)=>(match lK p d0 with
   | some (.lst ds)=>(match Ek ds.length k with
    | some m=>.next ((env.set j .no).set i (.own (jR p d0 (.lst (ds.set m d)))))
    | none=>.bad)
   | _=>.bad)
  | _,_,_=>.bad)
 | _=>.bad
theorem BZ(h:ie K ta i π)(hx:zQ K tb g):VG K (lG (iK j) (Il ta tb vG)) (uL i π g j):=λB E σ H env r p=>by
 unfold uL at p
 split at p
 ·rename_i d qj
  split at p
  ·rename_i d0 pp k q1 q2 q3
   split at p
   ·rename_i ds q4
    split at p
    ·rename_i m q5
     obtain⟨v,hv,r2⟩:=r.give qj
     obtain⟨H0,r0,s0,N,o,fr⟩:=r2.iu
     obtain⟨v0,a,xs,Bs,k1,k2,k3,k4,k5,k6⟩:=r0.Jw q1 q4
     refine⟨v,hv,?_⟩
     refine h σ H (rE (env.set j .no)) v0 pp _ _ (r0.r.same s0) k1 q2 (vM s0 k2) λH2 s2=>hx σ H2 H2 _ _ _ (Zn.self K H2) (r0.r.same (s0.trans s2)) q3 λy' H3 Z3 s3 t3 z3 ry=>?_
     unfold Rv at ry
     have zW:=s0.trans (s2.trans s3)
     have o3:=o.same (s2.trans s3)
     have hlen:=(dI.rv _ _ _ k5).length
     refine⟨a,xs,k,m,rfl,ry,zW _ _ k3,by rw[hlen];exact q5,p _ ?_⟩
     obtain⟨y0,A1,C,f1,f2,f3,f4,f5⟩:=(cC.mp (k5.same zW)).focus (A6 (Qx q5))
     have ap:Apart N C:=λx q1 q2=>Cd (H1:=H0) k5 fr x ((f3 x).mpr (.inr q2)) q1
     exact k6 H3 (ds.set m d) (xs.set m v) (fY N C) zW (cC.mpr (f5 (Ow K H3) (λ_ _ _ _ qq=>qq) d v N ap o3)) λb z=>z.elim (λz=>.inr (fr b z)) λz=>.inl ((f3 b).mpr (.inr z))
    ·exact p.elim
   ·exact p.elim
  ·exact p.elim
 ·exact p.elim
theorem Mw{pos':Pos}(h:XP K X a ta i π)(hx:XR K X b tb g)(he:PE X e (iK j))(hp:PE X a ta→PE X b tb→PE X e (iK j)→PS X (.Assign [.Subscript a b pos'] e pos) (lG (iK j) (Il ta tb vG))):YS K X (.Assign [.Subscript a b pos'] e pos) (lG (iK j) (Il ta tb vG)) (uL i π g j):=⟨hp h.pe hx.pe he,(BZ h.ev hx.ev).ds⟩
theorem CG{env:EN}{σ:St}{H:Hp}{i:Nat}{d:D}{x:V}(r:pY K H (rE env) σ)(hi:i<σ.length)(h:Rv K H d x):pY K H (rE (env.set i (.fro d))) (σ.set i (some x)):=λj d' q=>by
 unfold rE at q
 rw[B8,J8]at q
 split at q
 ·rename_i e
  subst e
  split at q
  ·have q:(some (some d))=some (some d'):=q
   cases q
   exact⟨x,by rw[D1 hi],h⟩
  ·cases q
 ·rename_i ne
  obtain⟨v,h1,h2⟩:=r j d' (by unfold rE;rw[B8];exact q)
  exact⟨v,by rw[C8 ne];exact h1,h2⟩
def CJ(i:Nat)(π:FP)(p t:Nat)(f2 f3:FE):GS:=λenv=>match env[i]?,π (rE env)with
 | some (.own d0),some pp=>(match lK pp d0 with
  | some (.lst cs)=>if i≠p∧i≠t∧p≠t∧p<env.length∧t<env.length then(match f2 (rE (env.set p (.fro (.lst cs))))with
   | some (.int a)=>(match f3 (rE ((env.set p (.fro (.lst cs))).set t (.fro (.int a)))),Ek cs.length a with
    | some d,some m=>.ret (jR pp d0 (.lst (cs.set m d)))
    | _,_=>.bad)
   | _=>.bad)else .bad
  | _=>.bad)
 | _,_=>.bad
theorem jc{p t:Nat}{g1 g2 g3:List Expr}{st4:Stmt}{z1 z2 z3:Pos}{e2 e3:Expr}{t2 t3:TE}{f2 f3:FE}(h1:XP K X a ta i π)(hs1:PE X a ta→PS X (.Assign g1 a z1) (lG ta (eG p)))(h2:XR K X e2 t2 f2)(hs2:PE X e2 t2→PS X (.Assign g2 e2 z2) (lG t2 (eG t)))(h3:XN K X e3 t3 f3)(hs3:PE X e3 t3→PS X (.Assign g3 e3 z3) (lG t3 (Il (iK p) (iK t) vG)))(hs4:PS X st4 (Ei (iK i))) :
  YB K X [.Assign g1 a z1,.Assign g2 e2 z2,.Assign g3 e3 z3,st4] (Ln (lG ta (eG p)) (Ln (lG t2 (eG t)) (Ln (lG t3 (Il (iK p) (iK t) vG)) (Ei (iK i))))) (CJ i π p t f2 f3):=
 ⟨pC (hs1 h1.pe) (pC (hs2 h2.pe) (pC (hs3 h3.pe) (Ij hs4))),λB E σ H env r p'=>by
  unfold CJ at p'
  split at p'
  ·rename_i d0 pp q1 q2
   split at p'
   ·rename_i cs q4
    split at p'
    ·rename_i hc
     obtain⟨c1,c2,c3,c4,c5⟩:=hc
     split at p'
     ·rename_i a q5
      split at p'
      ·rename_i d m q6 q7
       have hlen:=r.len
       obtain⟨v0,ad,xs,Bs,k1,k2,k3,k4,k5,k6⟩:=r.Jw q1 q4
       have hl:=(dI.rv _ _ _ k5).length
       refine h1.ev σ H (rE env) v0 pp _ _ r.r k1 q2 k2 λH1 s1=>?_
       have rc:Rv K H1 (.lst cs) (.ref ad):=by unfold Rv;exact⟨ad,xs,rfl,jC.of (s1 _ _ k3),dI.rv _ _ _ (k5.same s1)⟩
       have e1:=CG (i:=p) (r.r.same s1) (by omega) rc
       refine h2.ev _ H1 H1 _ _ _ (Zn.self K H1) e1 q5 λu H2 Z2 s2 u2 z2 ru=>?_
       unfold Rv at ru
       subst ru
       have e2:=CG (i:=t) (d:=.int a) (x:=.int a) (e1.same s2) (by rw[D7];omega) (by unfold Rv;rfl)
       refine h3.ev _ H2 _ d _ e2 q6 λy H3 s3 n=>?_
       have zW:=s1.trans (s2.trans s3)
       obtain⟨N,o,fr⟩:=n.back (s1.trans s2)
       have gp:((σ.set p (some (.ref ad))).set t (some (.int a)))[p]?=some (some (.ref ad)):=by rw[C8 (Ne.symm c3),D1 (by omega)]
       have gt:((σ.set p (some (.ref ad))).set t (some (.int a)))[t]?=some (some (.int a)):=by rw[D1 (by rw[D7];omega)]
       have gi:((σ.set p (some (.ref ad))).set t (some (.int a)))[i]?=some (some v0):=by rw[C8 (Ne.symm c2),C8 (Ne.symm c1)];exact k1
       refine⟨_,gp,_,gt,ad,xs,a,m,rfl,rfl,zW _ _ k3,by rw[hl];exact q7,v0,gi,?_⟩
       obtain⟨y0,A1,C,f1,f2',f3',f4,f5⟩:=(cC.mp (k5.same zW)).focus (A6 (Qx q7))
       have ap:Apart N C:=λx q1 q2=>Cd (H1:=H) k5 fr x ((f3' x).mpr (.inr q2)) q1
       have rl:=k6 H3 (cs.set m d) (xs.set m y) (fY N C) zW (cC.mpr (f5 (Ow K H3) (λ_ _ _ _ qq=>qq) d y N ap o)) λb z=>z.elim (λz=>.inr (fr b z)) λz=>.inl ((f3' b).mpr (.inr z))
       obtain⟨A,sA,bS⟩:=rl
       obtain⟨y1,A2,C2,g1,g2,g3,g4,_⟩:=sA.focus (i:=i) (d:=.own (jR pp d0 (.lst (cs.set m d)))) (by rw[D1 (C9.mp q1).1])
       obtain⟨v1,rfl,o1⟩:=g4
       rw[k1]at g1
       cases g1
       exact p' v0 _ A2 (bS.trans (gC (aV.refl _) λx z=>.inl ((g3 x).mpr (.inl z)))) o1
      ·exact p'.elim
     ·exact p'.elim
    ·exact p'.elim
   ·exact p'.elim
  ·exact p'.elim⟩
theorem jd{env:EN}{σ:St}{H:Hp}{o b:Nat}{x:V}(r:pY K H (rE env) σ):pY K H (rE ((env.set b .no).set o .no)) (σ.set o (some x)):=λi d q=>by
 unfold rE at q
 rw[B8,J8]at q
 split at q
 ·split at q
  ·have q:(some (none:Option D))=some (some d):=q
   cases q
  ·cases q
 ·rename_i ne
  rw[J8]at q
  split at q
  ·split at q
   ·have q:(some (none:Option D))=some (some d):=q
    cases q
   ·cases q
  ·obtain⟨v,h1,h2⟩:=r i d (by unfold rE;rw[B8];exact q)
   exact⟨v,by rw[C8 ne];exact h1,h2⟩
abbrev vo(K:aC)(b:Nat):TA:=dM (TQ (Jp K) (dM (iK b) kO)) (dM (UJ [(tC (.int 0),iK b)]) (dM (Io kO) (dM (Am (Gg K) (iK b) (Io (dM (tC .non) kO))) kO)))
def CK(o b:Nat)(f1 fe:FE):GS:=λenv=>match env[b]?,f1 (rE env),fe (rE ((env.set b .no).set o .no))with
 | some (.own (.lst ds)),some (.lst es),some (.int k)=>if o≠b∧o<env.length∧ds.length≤1000∧es.length≤1000 then(match Av (es++[.tup ds,.dk [.inl 0] [.lst ds],.lst [],.lst (ds++[.non])]) k with
   | some d=>.ret d
   | none=>.bad)else .bad
 | _,_,_=>.bad
theorem je{o b:Nat}{st1 st2 st3:Stmt}{L1:Expr}{tL:TE}{f1 fe:FE}(h1:XN K X L1 tL f1)(hs1:PE X L1 tL→PS X st1 (lG tL (eG o)))(hs2:PS X st2 (lG (Am (Gg K) (iK o) (Io (vo K b))) (eG o))) (he:XR K X e te fe) (hs3:PE X e te→PS X st3 (Ei (Am (ZP K) (iK o) te))) :
  YB K X [st1,st2,st3] (Ln (lG tL (eG o)) (Ln (lG (Am (Gg K) (iK o) (Io (vo K b))) (eG o)) (Ei (Am (ZP K) (iK o) te)))) (CK o b f1 fe):=
 ⟨pC (hs1 h1.pe) (pC hs2 (Ij (hs3 he.pe))),λB E σ H env r p=>by
  unfold CK at p
  split at p
  ·rename_i ds es k q1 q2 q3
   split at p
   ·rename_i hc
    obtain⟨c1,c2,c3,c4⟩:=hc
    split at p
    ·rename_i d q4
     have r0:=r.r
     have hlen:=r.len
     obtain⟨A,a,bS⟩:=r
     obtain⟨y,A1,C,g1,g2,g3,g4,_⟩:=a.focus q1
     obtain⟨v,rfl,ow⟩:=g4
     unfold Ow at ow
     obtain⟨q,xs,B0,rfl,k1,k2,k3,k4⟩:=ow
     have hlx:=(dI.rv _ _ _ k4).length
     refine h1.ev σ H (rE env) _ _ r0 q2 λv1 H1 s1 n1=>?_
     obtain⟨N,o1,fr⟩:=n1
     unfold Ow at o1
     obtain⟨p1,vs,N0,rfl,j1,j2,j3,j4⟩:=o1
     have hlv:=(dI.rv _ _ _ j4).length
     have so:(σ.set o (some (.ref p1)))[o]?=some (some (.ref p1)):=by rw[D1 (by omega)]
     have sb:(σ.set o (some (.ref p1)))[b]?=some (some (.ref q)):=by rw[C8 c1];exact g1
     refine⟨_,so,_,sb,q,xs,rfl,.inl ⟨jC.of (s1 _ _ k1),λl2 hl2=>?_⟩⟩
     intro l3 hl3
     refine⟨_,sb,bO,[(.inl 0,.ref q)],rfl,D8 rfl,?_⟩
     rw[JC]
     refine⟨tY (K9 _),λl4 hl4=>?_⟩
     refine⟨_,sb,tY (by decide),λl5 hl5=>?_⟩
     have t2:=bZ hl2 (.tup xs)
     have t3:=bZ hl3 (.dK (wO [] [(.inl 0,.ref q)]))
     have t4:=bZ hl4 (.lst [])
     have t5:=bZ hl5 (.lst [.non])
     have s5:=s1.trans (t2.trans (t3.trans (t4.trans t5)))
     refine⟨q,l5,xs,[.non],rfl,rfl,jC.of (s5 _ _ k1),jC.of bO,tY (by rw[hlx];show ds.length+1≤100000;omega),λl6 hl6=>?_⟩
     have t6:=bZ hl6 (.lst (xs++[.non]))
     refine⟨tY (show 4≤100000 by decide),λl7 hl7=>?_⟩
     have t7:=bZ hl7 (.lst [.ref l2,.ref l3,.ref l4,.ref l6])
     refine⟨p1,l7,vs,[.ref l2,.ref l3,.ref l4,.ref l6],rfl,rfl,jC.of ((t2.trans (t3.trans (t4.trans (t5.trans (t6.trans t7))))) _ _ j1),jC.of bO,tY (by rw[hlv];show es.length+4≤100000;omega),λl8 hl8=>?_⟩
     have t8:=bZ hl8 (.lst (vs++[.ref l2,.ref l3,.ref l4,.ref l6]))
     have t68:=t6.trans (t7.trans t8)
     have t48:=t4.trans (t5.trans t68)
     have t38:=t3.trans t48
     have t28:=t2.trans t38
     have s8:=s1.trans t28
     have so2:((σ.set o (some (.ref p1))).set o (some (.ref l8)))[o]?=some (some (.ref l8)):=by rw[D1 (by rw[D7];omega)]
     refine⟨_,so2,?_⟩
     have e9:=jd (o:=o) (b:=b) (x:=.ref l8) (r0.same s8)
     rw[List.set_set]
     refine he.ev _ _ _ _ _ _ (Zn.self K _) e9 q3 λy H9 Z9 s9 u9 z9 ry=>?_
     unfold Rv at ry
     unfold Av at q4
     obtain⟨j,i1,i2⟩:=bL q4
     have key:∃v A',(vs++[.ref l2,.ref l3,.ref l4,.ref l6])[j]?=some v∧Ow K H9 d A' v∧∀x,A' x→A x∨H x=none:=by
      have inA:∀x,x=q∨B0 x→A x:=λx z=>(g3 x).mpr (.inl ((k3 x).mpr z))
      have kk:=k4.same (s8.trans s9)
      have nB:∀l,H l=none→¬(l=q∨B0 l):=λl hl z=>by
       rcases z with z | z
       ·subst z;rw[k1]at hl;cases hl
       ·obtain⟨⟨u,eu⟩,_⟩:=dI.cells _ _ _ k4 l z
        rw[hl]at eu;cases eu
      by_cases cj:j<es.length
      ·rw[E8 cj]at i2
       obtain⟨v,A2,C2,w1,w2,w3,w4,_⟩:=(cC.mp j4).focus i2
       exact⟨v,A2,by rw[E8 (by omega)];exact w1,w4.same (t28.trans s9),λx z=>.inr (fr x ((j3 x).mpr (.inr ((w3 x).mpr (.inl z)))))⟩
      ·rw[E6 (by omega)]at i2
       rw[E6 (by omega),hlv]
       generalize j-es.length=m at i2
       match m,i2 with
       | 0,i2=>
        cases i2
        refine⟨.ref l2,B0,rfl,?_,λx z=>.inl (inA x (.inr z))⟩
        unfold Ow
        exact⟨l2,xs,rfl,pZ.of ((t38.trans s9) _ _ bO),kk⟩
       | 1,i2=>
        cases i2
        have hf:H l3=none:=(s1.trans t2).free hl3
        refine⟨.ref l3,fY (·=l3) (fY (·=q) B0),rfl,?_,λx z=>z.elim (λz=>.inr (by subst z;exact hf)) λz=>.inl (inA x z)⟩
        unfold Ow
        refine⟨l3,[.ref q],fY (·=q) B0,rfl,(t48.trans s9) _ _ bO,rfl,nB l3 hf,λ_=>Iff.rfl,?_⟩
        unfold dI
        refine⟨.ref q,[],fY (·=q) B0,nil,rfl,λ_ _ z=>z,λx=>⟨.inl,λz=>z.elim id False.elim⟩,?_,by unfold dI;exact⟨λ_ z=>z,rfl⟩⟩
        unfold Ow
        exact⟨q,xs,B0,rfl,(s8.trans s9) _ _ k1,k2,λ_=>Iff.rfl,kk⟩
       | 2,i2=>
        cases i2
        have hf:H l4=none:=(s1.trans (t2.trans t3)).free hl4
        refine⟨.ref l4,fY (·=l4) nil,rfl,?_,λx z=>z.elim (λz=>.inr (by subst z;exact hf)) False.elim⟩
        unfold Ow
        exact⟨l4,[],nil,rfl,(t5.trans (t68.trans s9)) _ _ bO,λz=>z,λ_=>Iff.rfl,by unfold dI;exact⟨λ_ z=>z,rfl⟩⟩
       | 3,i2=>
        cases i2
        have hf:H l6=none:=s5.free hl6
        refine⟨.ref l6,fY (·=l6) (fY B0 nil),rfl,?_,λx z=>z.elim (λz=>.inr (by subst z;exact hf)) λz=>.inl (inA x (.inr (z.elim id False.elim)))⟩
        unfold Ow
        refine⟨l6,xs++[.non],fY B0 nil,rfl,(t7.trans (t8.trans s9)) _ _ bO,λz=>nB l6 hf (.inr (z.elim id False.elim)),λ_=>Iff.rfl,?_⟩
        exact cC.mpr ((cC.mp kk).snoc (by unfold Ow;exact⟨λ_ z=>z,rfl⟩) λ_ _ z=>z)
       | m+4,i2=>simp at i2
     obtain⟨v,A',w1,w2,w3⟩:=key
     refine .inl ⟨l8,_,k,v,rfl,ry,jC.of (s9 _ _ bO),?_,p v H9 A' (bS.trans (gC (s8.trans s9) w3)) w2⟩
     unfold Av
     rw[B5,hlv]
     rw[B5]at i1
     have i1':Ek (es.length+[V.ref l2,V.ref l3,V.ref l4,V.ref l6].length) k=some j:=i1
     rw[i1']
     exact w1
    ·exact p.elim
   ·exact p.elim
  ·exact p.elim⟩
end
end L2


namespace L2
open PySem PySem.Spec PyProof.Rows
abbrev aU(ns:List Int):D:=.lst (ns.map D.int)
theorem xT{i:Nat}{g:GS}(I:Nat→EN→Prop):∀(xs:List D)(env:EN)(n:Nat),I n env→(∀k x env,xs[k]?=some x→I (n+k) env→i<env.length∧∃env',g (env.set i (.fro x))=.next env'∧I (n+k+1) env')→∃env',xM i g xs env=.next env'∧I (n+xs.length) env'
 | [],env,n,h,_=>⟨env,by unfold xM;rfl,h⟩
 | x::xs,env,n,h,st=>by
  obtain⟨h1,env',h2,h3⟩:=st 0 x env rfl h
  obtain⟨mF,a1,a2⟩:=xT I xs env' (n+1) h3 λk y e hk hi=>by
   have:=st (k+1) y e (by simpa using hk) (by rw[show n+(k+1)=n+1+k by omega];exact hi)
   rw[show n+(k+1)+1=n+1+k+1 by omega]at this
   exact this
  refine⟨mF,?_,?_⟩
  ·unfold xM
   rw[if_pos h1,h2]
   exact a1
  ·rw[G2,show n+(xs.length+1)=n+1+xs.length by omega]
   exact a2
theorem iH{g1 g2:GS}{env env':EN}(h:g1 env=.next env'):aW g1 g2 env=g2 env':=by unfold aW;rw[h]
theorem Ci{g1 g2:GS}{env:EN}{d:D}(h:g1 env=.ret d):aW g1 g2 env=.ret d:=by unfold aW;rw[h]
theorem Cj{f:FT}{g1 g2:GS}{env:EN}(h:f (rE env)=some true):jU f g1 g2 env=g1 env:=by unfold jU;rw[h]
theorem xU{f:FT}{g1 g2:GS}{env:EN}(h:f (rE env)=some false):jU f g1 g2 env=g2 env:=by unfold jU;rw[h]
theorem zY{i:Nat}{f:FE}{env:EN}{d:D}(h:f (rE env)=some d)(hi:i<env.length):bW i f env=.next (env.set i (.own d)):=by unfold bW;rw[h];dsimp only;rw[if_pos hi]
theorem eV{f:FE}{env:EN}{d:D}(h:f (rE env)=some d):dG f env=.ret d:=by unfold dG;rw[h]
theorem CN{i:Nat}{fi:FA}{g:GS}{env:EN}{xs:List D}(h:fi (rE env)=some xs):lX i fi g env=xM i g xs env:=by unfold lX;rw[h]
theorem QL{js:List Nat}{i:Nat}{fi:FA}{g:GS}{env xN:EN}{xs:List D}(h0:wI js env=xN)(h:fi (zE xN)=some xs):Qu js i fi g env=xM i g xs xN:=by unfold Qu;rw[h0,h]
theorem dH{n m:Nat}{g:GS}{ds:List D}{d:D}(hl:ds.length=m)(h:g (ds.map SD.fro++D9 (n-m) SD.no)=.ret d):iB n m g ds=some d:=by unfold iB;rw[if_pos hl,h]
theorem aQ{φ:D→D→Option D}{f g:FE}{e:DE}{a b d:D}(h1:f e=some a)(h2:g e=some b)(h:φ a b=some d):f2 φ f g e=some d:=by unfold f2;rw[h1,h2];exact h
theorem cZ{φ:List D→Option D}{fs:FA}{e:DE}{ds:List D}{d:D}(h1:fs e=some ds)(h:φ ds=some d):fL φ fs e=some d:=by unfold fL;rw[h1];exact h
theorem aD{f:FE}{fs:FA}{e:DE}{a:D}{r:List D}(h1:f e=some a)(h2:fs e=some r):aA f fs e=some (a::r):=by unfold aA;rw[h1,h2];rfl
theorem bH{n:Nat}{F:List D→Option D}{fs:FA}{e:DE}{ds:List D}{d:D}(h1:fs e=some ds)(hl:ds.length=n)(h:F ds=some d):bG n F fs e=some d:=by unfold bG;rw[h1];dsimp only[C4];rw[if_pos hl];exact h
theorem dB{f:FE}{e:DE}{b:Bool}(h:f e=some (.bl b)):fB f e=some b:=by unfold fB;rw[h];rfl
theorem dO{f:FT}{e:DE}{b:Bool}(h:f e=some b):tQ f e=some (!b):=by unfold tQ;rw[h];rfl
theorem CP{f g:FT}{e:DE}(h:f e=some false):Qp f g e=g e:=by unfold Qp;rw[h];rfl
theorem vp{f g:FT}{e:DE}(h:f e=some true):Qp f g e=some true:=by unfold Qp;rw[h];rfl
theorem Rc{f g:FT}{e:DE}(h:f e=some true):uH f g e=g e:=by unfold uH;rw[h];rfl
theorem Jy{f g:FT}{e:DE}(h:f e=some false):uH f g e=some false:=by unfold uH;rw[h];rfl
theorem cL{f:FE}{e:DE}{d:D}(h:f e=some d)(i:d.jA=true):fO f e=some d:=Fv.mpr ⟨h,i⟩
theorem pI(i j:Int):dD (.int i) (.int j)=some (.int (i+j)):=rfl
theorem eO(i j:Int):uF (.int i) (.int j)=some (.int (i-j)):=by unfold uF Bm;exact if_pos True.intro
theorem nJ{i j:Int}(h:Ej i j):nA (.int i) (.int j)=some (.int (i*j)):=by unfold nA Bm;exact if_pos h
theorem fQ{i j:Int}(h:0<j)(h2:j<1073741824):jB (.int i) (.int j)=some (.int (i/j)):=by unfold jB Bm;exact if_pos (show Vn i j from⟨h,h2⟩)
theorem cV{i j:Int}(h:0<j):cO (.int i) (.int j)=some (.int (i%j)):=by unfold cO Bm;exact if_pos h
theorem CQ{i j:Int}(h:Vo i j):Jj (.int i) (.int j)=some (.int (i ^ j.toNat)):=by unfold Jj Bm;exact if_pos h
theorem zZ(i j:Int):Xz (.int i) (.int j)=some (.bl (decide (i<j))):=by unfold Xz Bm;exact if_pos True.intro
theorem Uv(i j:Int):sy (.int i) (.int j)=some (.bl (decide (j<i))):=by unfold sy Bm;exact if_pos True.intro
theorem vN(i j:Int):jz (.int i) (.int j)=some (.bl (decide (j≤i))):=by unfold jz Bm;exact if_pos True.intro
theorem Aa(i j:Int):Wa (.int i) (.int j)=some (.bl (decide (i≤j))):=by unfold Wa Bm;exact if_pos True.intro
theorem Uw(i j:Int):decide (V.int i=V.int j)=decide (i=j):=by
 by_cases c:i=j
 ·subst c;simp
 ·rw[decide_eq_false c,decide_eq_false (λz=>c (by cases z;rfl))]
theorem iV(i j:Int):pH (.int i) (.int j)=some (.bl (decide (i=j))):=by
 unfold pH toV
 dsimp only
 rw[if_pos (by rfl),Uw]
theorem sG(i j:Int):Yb (.int i) (.int j)=some (.bl (!decide (i=j))):=by
 unfold Yb toV
 dsimp only
 rw[if_pos (by rfl),Uw]
theorem Ck{α:Type}{xs:List α}{i:Int}{x:α}(h0:0≤i)(h:xs[i.toNat]?=some x):Av xs i=some x:=by
 have h1:i.toNat<xs.length:=by
  obtain⟨h1,_⟩:=C9.mp h
  exact h1
 unfold Av Ek
 rw[if_pos h0,if_pos (by omega)]
 exact h
theorem QM{α:Type}{xs:List α}{x:α}(h:xs.getLast?=some x):Av xs (-1)=some x:=by
 have hl:0<xs.length:=by
  cases xs with
  | nil=>simp at h
  | cons=>simp
 unfold Av Ek
 rw[if_neg (by omega),if_pos (by omega)]
 show xs[((-1:Int)+(xs.length:Int)).toNat]?=some x
 rw[L8]at h
 rw[show ((-1:Int)+(xs.length:Int)).toNat=xs.length-1 by omega]
 exact h
theorem Jz{ds:List D}{i:Int}{d:D}(h0:0≤i)(h:ds[i.toNat]?=some d):dW (.lst ds) (.int i)=some d:=Ck h0 h
theorem gB{ds:List D}{i:Int}{d:D}(h0:0≤i)(h:ds[i.toNat]?=some d):dW (.tup ds) (.int i)=some d:=Ck h0 h
theorem Mx{ns:List Int}{i:Int}(h0:0≤i)(h:i<ns.length):dW (aU ns) (.int i)=some (.int (ns.getD i.toNat 0)):=Ck h0 (by
 rw[B8,A7,A6 (show i.toNat<ns.length by omega)];rfl)
theorem iC(ds:List D):cY [.lst ds]=some (.int ds.length):=rfl
theorem vO(ds:List D):cY [.tup ds]=some (.int ds.length):=rfl
theorem mQ(ns:List Int):cY [aU ns]=some (.int ns.length):=by show some (D.int ((ns.map D.int).length:Nat))=_;rw[A5]
theorem xV{c:D→Option Bool}{el:D→Option D}{φ:D→D}:∀{xs:List D},(∀x∈xs,c x=some true)→(∀x∈xs,el x=some (φ x))→qU c el xs=some (xs.map φ)
 | [],_,_=>by unfold qU;rfl
 | x::xs,hc,he=>by
  unfold qU
  rw[hc x E5,he x E5,xV (xs:=xs) (λy hy=>hc y (D5 _ hy)) λy hy=>he y (D5 _ hy)]
  rfl
theorem Cm{fi:FA}{fr:List Nat}{fc:FT}{fe:FE}{e:DE}{xs ys:List D}(h1:fi e=some xs)(hl:xs.length≤100000)(h:qU (λx=>fc (some x::kE e fr)) (λx=>fe (some x::kE e fr)) xs=some ys):dJ fi fr fc fe e=some (.lst ys):=by
 unfold dJ
 rw[h1,C4,if_pos hl,h]
 rfl
theorem uM(lo:Int)(n:Nat):(gR lo n).length=n:=by unfold gR;rw[A5,D3]
theorem Cp{lo:Int}{n k:Nat}{x:D}(h:(gR lo n)[k]?=some x):k<n∧x=.int (lo+k):=by
 unfold gR at h
 rw[B8]at h
 cases q:(C5 n)[k]? with
 | none=>rw[q]at h;cases h
 | some j=>
  rw[q]at h
  obtain⟨h1,h2⟩:=C9.mp q
  rw[D3]at h1
  rw[List.getElem_range]at h2
  subst h2
  exact⟨h1,(E1 h).symm⟩
theorem Cq{lo:Int}{n:Nat}{x:D}(h:x∈gR lo n):∃k:Nat,k<n∧x=.int (lo+k):=by
 obtain⟨k,hk,e⟩:=I0 h
 obtain⟨a1,a2⟩:=Cp (k:=k) (x:=x) (by rw[A6 hk,e])
 exact⟨k,a1,a2⟩
theorem My{fs:FA}{e:DE}{n:Int}(h:fs e=some [.int n])(h1:-100000≤n)(h2:n≤100000):jE fs e=some (gR 0 n.toNat):=by
 unfold jE
 rw[h]
 dsimp only[C4]
 rw[if_pos (show lim n=true from decide_eq_true ⟨h1,h2⟩)]
theorem CT{fs:FA}{e:DE}{i j:Int}(h:fs e=some [.int i,.int j])(h1:-100000≤i)(h2:i≤100000)(h3:-100000≤j)(h4:j≤100000):Gh fs e=some (gR i (j-i).toNat):=by
 unfold Gh
 rw[h]
 dsimp only[C4]
 rw[if_pos ⟨show lim i=true from decide_eq_true ⟨h1,h2⟩,show lim j=true from decide_eq_true ⟨h3,h4⟩⟩]
theorem Rf{i j:Int}(h1:-18446744073709551616<i)(h2:i<18446744073709551616):Ej i j:=.inl ⟨h1,h2⟩
theorem aAK{i j:Int}(h1:-18446744073709551616<j)(h2:j<18446744073709551616):Ej i j:=.inr ⟨h1,h2⟩
theorem Rg{i:Nat}{f:FE}{env:EN}{ds:List D}{d:D}(h1:env[i]?=some (.own (.lst ds)))(h2:f (rE env)=some d)(hl:ds.length<100000):xO i gU f env=.next (env.set i (.own (.lst (ds++[d])))):=by
 unfold xO gU
 rw[h1,h2]
 dsimp only[lK]
 rw[if_pos hl]
 rfl
end L2


namespace L2
open PySem PySem.Spec PyProof.Rows
section
variable{i j:Nat}{f:FE}{c:FT}{g1 g2 g:GS}{env env':EN}{d:D}{r:SR}{ds:List D}
theorem Cr(h:f (rE env)=some d)(hi:i<env.length)(k:g (env.set i (.own d))=r):aW (bW i f) g env=r:=(iH (zY h hi)).trans k
theorem Mz{b:Bool}(h:c (rE env)=some b)(k1:b=true→aW g1 g env=r)(k2:b=false→aW g2 g env=r):aW (jU c g1 g2) g env=r:=by
 cases b with
 | true=>have k:=k1 rfl;unfold aW at k ⊢;rw[Cj h];exact k
 | false=>have k:=k2 rfl;unfold aW at k ⊢;rw[xU h];exact k
theorem Cu{b:Bool}(h:c (rE env)=some b)(hb:b=false)(k:aW g2 g env=r):aW (jU c g1 g2) g env=r:=Mz h (λz=>by rw[hb]at z;cases z) λ_=>k
theorem Rh{b:Bool}(h:c (rE env)=some b)(hb:b=true)(k:aW g1 g env=r):aW (jU c g1 g2) g env=r:=Mz h (λ_=>k) (λz=>by rw[hb]at z;cases z)
theorem zH(k:g env=r):aW cN g env=r:=k
theorem Ux(h:f (rE env)=some d)(k:SR.ret d=r):aW (dG f) g env=r:=(Ci (eV h)).trans k
theorem VR(h:g1 env=.next env')(k:g env'=r):aW g1 g env=r:=(iH h).trans k
theorem pJ(h:env[i]?=some (.own d)):nF i env=.ret d:=by unfold nF;rw[h]
theorem sH{fs:FA}{e:DE}(h:fs e=some ds)(hl:ds.length≤100000):pG fs e=some (.tup ds):=by unfold pG cap;rw[h];dsimp only[C4];rw[if_pos hl]
theorem Ab{fs:FA}{e:DE}(h:fs e=some ds)(hl:ds.length≤100000):oX fs e=some (.lst ds):=by unfold oX cap;rw[h];dsimp only[C4];rw[if_pos hl]
theorem sI{e:DE}{z:Int}(h:f e=some (.int z)):mH f e=some (.int (-z)):=by unfold mH;rw[h];rfl
theorem Nb{e:DE}{b:Bool}(h:f e=some (.bl b)):Gb f e=some (.bl (!b)):=by unfold Gb;rw[dB h];rfl
theorem Ac{e:DE}{f':FE}(h:f e=some (.bl true))(k:f' e=some d):jD f f' e=some d:=by unfold jD;rw[dB h];exact k
theorem jV{e:DE}{f':FE}{a b:Bool}(h:f e=some (.bl a))(k:f' e=some (.bl b)):jD f f' e=some (.bl (a&&b)):=by
 unfold jD;rw[dB h]
 cases a with
 | true=>exact k
 | false=>rfl
theorem Ka{e:DE}{c':FT}{a b:Bool}(h:c e=some a)(k:c' e=some b):uH c c' e=some (a&&b):=by
 unfold uH;rw[h]
 cases a with
 | true=>exact k
 | false=>rfl
theorem Cv{e:DE}{c':FT}{a b:Bool}(h:c e=some a)(k:c' e=some b):Qp c c' e=some (a||b):=by
 unfold Qp;rw[h]
 cases a with
 | true=>rfl
 | false=>exact k
theorem nM{e:DE}(h:f e=some (.lst ds)):lJ f e=some ds:=by unfold lJ;rw[h];rfl
theorem Nf{e:DE}(h:f e=some (.tup ds)):lJ f e=some ds:=by unfold lJ;rw[h];rfl
theorem xW{a b:List D}(h:D.fG (a++b)=true)(hl:a.length+b.length≤100000):dD (.lst a) (.lst b)=some (.lst (a++b)):=by
 show (if D.fG (a++b)=true∧a.length+b.length≤100000 then some (D.lst (a++b))else none)=_
 rw[if_pos ⟨h,hl⟩]
theorem Gn(d:D)(ds:List D):D.fG (d::ds)=(d.jA&&D.fG ds):=by rw[D.fG]
theorem Cw{a b:List D}:D.fG (a++b)=(D.fG a&&D.fG b):=by
 induction a with
 | nil=>rw[Q1,D.fG];rfl
 | cons x a ih=>rw[K8,Gn,Gn,ih,Bool.and_assoc]
theorem vP{ds:List D}(h:∀d∈ds,d.jA=true):D.fG ds=true:=by
 induction ds with
 | nil=>unfold D.fG;rfl
 | cons d ds ih=>unfold D.fG;rw[h d E5,ih λe he=>h e (D5 _ he)];rfl
theorem jW(ns:List Int):(dTup ns).jA=true:=by unfold dTup D.jA;exact nD ns
theorem Wl(h:D.fG ds=true):dList [.lst ds]=some (.lst ds):=by
 show (if D.fG ds=true then some (D.lst ds)else none)=_
 rw[if_pos h]
theorem Cy(ns:List Int):oG (ns.map D.int)=some (ns.map DV.int):=by
 induction ns with
 | nil=>unfold oG;rfl
 | cons n ns ih=>rw[D4];unfold oG iM;rw[C4,ih];rfl
theorem QQ(ns ms:List Int):pH (dTup ns) (dTup ms)=some (.bl (decide (ns=ms))):=by
 unfold pH dTup toV
 dsimp only
 unfold iM
 rw[Cy,Cy]
 dsimp only[Option.map_some]
 rw[if_pos (by unfold DV.depth;rw[Bg];decide)]
 congr 2
 rw[J5,rD,decide_eq_true_iff]
 constructor
 ·intro z;injection z with z;exact Ze.mp z
 ·intro z;rw[z]
end
end L2
namespace L2
theorem QR{i:Nat}{e:DE}{d:D}(h:e[i]?=some (some d)):aF i e=some d:=by unfold aF;rw[h];rfl
theorem vq{e:DE}{d:D}:fC d e=some d:=rfl
theorem CV{e:DE}:aN e=some []:=rfl
end L2
namespace L2
theorem Cz{i:Nat}{fi:FA}{gb:GS}{env:EN}{n:Nat}(I:Nat→EN→Prop)(h:fi (rE env)=some (gR 0 n))(h0:I 0 env)
  (st:∀(k:Nat) env,k<n→I k env→i<env.length∧∃env',gb (env.set i (.fro (.int k)))=.next env'∧I (k+1) env'):∃env',lX i fi gb env=.next env'∧I n env':=by
 obtain⟨env',h1,h2⟩:=xT (i:=i) (g:=gb) I (gR 0 n) env 0 h0 λk x e hx hi=>by
  rw[N7]at hi ⊢
  obtain⟨hk,rfl⟩:=Cp hx
  rw[S9]
  exact st k e hk hi
 rw[N7,uM]at h2
 exact⟨env',(CN h).trans h1,h2⟩
theorem Gp{α β:Type}(φ:α→β):∀(l:List α)(k:Nat),(l.map φ).eraseIdx k=(l.eraseIdx k).map φ
 | [],k=>by simp
 | a::l,0=>by simp
 | a::l,k+1=>by rw[D4,J9,J9,D4,Gp φ l k]
theorem Kc{i j:Nat}{f:FE}{env:EN}{ns ms:List Int}{k:Int}(h1:env[i]?=some (.own (aU ns)))(h2:env[j]?=some (.own (aU ms)))(h3:f (rE env)=some (.int k))(hij:i≠j)(hn:ns.length<1000)(hm:ms.length<1000)(k0:0≤k)(k1:k<ms.length) :
  sE i j f env=.next ((env.set j (.own (aU (ms.eraseIdx k.toNat)))).set i (.own (aU (ns++[ms.getD k.toNat 0])))):=by
 have hk:k.toNat<ms.length:=by omega
 unfold sE
 rw[h1,h2,h3]
 dsimp only
 rw[if_pos ⟨hij,by rw[A5];omega,k0,by rw[A5];exact k1,by rw[A5];omega⟩]
 have e:(ms.map D.int)[k.toNat]?=some (.int (ms.getD k.toNat 0)):=by
  rw[B8,A7,A6 hk];rfl
 rw[e]
 dsimp only
 rw[if_pos (show D.jA (.int (ms.getD k.toNat 0))=true from rfl)]
 have e1:(ms.map D.int).eraseIdx k.toNat=(ms.eraseIdx k.toNat).map D.int:=by
  rw[Gp]
 have e2:ns.map D.int++[D.int (ms.getD k.toNat 0)]=(ns++[ms.getD k.toNat 0]).map D.int:=by rw[G1];rfl
 rw[e1,e2]
theorem Ri(ns:List Int)(n:Int):D.lst (ns.map D.int++[.int n])=aU (ns++[n]):=by unfold aU;rw[G1];rfl
theorem CW{is:List Nat}{env:EN}{ds:List D}(h:nG env is=some ds)(hn:decide is.Nodup=true)(hl:is.length≤100):zG is env=.ret (.tup ds):=by
 unfold zG
 rw[h]
 dsimp only
 rw[if_pos ⟨hn,hl⟩]
end L2


namespace L2
open PySem PySem.Spec PyProof.Rows
def Qs(Pr:SR→Prop)(r:SR):Prop:=Pr r
section
variable{i j:Nat}{f:FE}{c:FT}{g1 g2 g gb:GS}{env env':EN}{d:D}{ds:List D}{Pr:SR→Prop}
theorem vy{r:SR}(h:Qs Pr r):Pr r:=h
theorem iD(h:f (rE env)=some d)(hi:i<env.length)(k:Qs Pr (g (env.set i (.own d)))):Qs Pr (aW (bW i f) g env):=by rw[iH (zY h hi)];exact k
theorem CZ(h:f (rE env)=some d)(hi:i<env.length)(k:Pr (.next (env.set i (.own d)))):Qs Pr (bW i f env):=by rw[zY h hi];exact k
theorem rK(h:g1 env=.next env')(k:Qs Pr (g env')):Qs Pr (aW g1 g env):=by rw[iH h];exact k
theorem jG(k:Qs Pr (g env)):Qs Pr (aW cN g env):=k
theorem WD(k:Pr (.next env)):Qs Pr (cN env):=k
theorem nO{b:Bool}(h:c (rE env)=some b)(k1:b=true→Qs Pr (aW g1 g env))(k2:b=false→Qs Pr (aW g2 g env)):Qs Pr (aW (jU c g1 g2) g env):=by
 cases b with
 | true=>have k:=k1 rfl;unfold aW at k ⊢;rw[Cj h];exact k
 | false=>have k:=k2 rfl;unfold aW at k ⊢;rw[xU h];exact k
theorem Uy{b:Bool}(h:c (rE env)=some b)(k1:b=true→Qs Pr (g1 env))(k2:b=false→Qs Pr (g2 env)):Qs Pr (jU c g1 g2 env):=by
 cases b with
 | true=>rw[Cj h];exact k1 rfl
 | false=>rw[xU h];exact k2 rfl
theorem nP{b:Bool}(h:c (rE env)=some b)(hb:b=false)(k:Qs Pr (aW g2 g env)):Qs Pr (aW (jU c g1 g2) g env):=nO h (λz=>by rw[hb]at z;cases z) λ_=>k
theorem Gq{b:Bool}(h:c (rE env)=some b)(hb:b=true)(k:Qs Pr (aW g1 g env)):Qs Pr (aW (jU c g1 g2) g env):=nO h (λ_=>k) (λz=>by rw[hb]at z;cases z)
theorem DG{b:Bool}(h:c (rE env)=some b)(hb:b=false)(k:Qs Pr (g2 env)):Qs Pr (jU c g1 g2 env):=Uy h (λz=>by rw[hb]at z;cases z) λ_=>k
theorem nQ(h:f (rE env)=some d)(k:Pr (.ret d)):Qs Pr (aW (dG f) g env):=by rw[Ci (eV h)];exact k
theorem lV(h:f (rE env)=some d)(k:Pr (.ret d)):Qs Pr (dG f env):=by rw[eV h];exact k
theorem Kd(h:env[i]?=some (.own d))(k:Pr (.ret d)):Qs Pr (nF i env):=by rw[pJ h];exact k
theorem DK{is:List Nat}(h:nG env is=some ds)(hn:decide is.Nodup=true)(hl:is.length≤100)(k:Pr (.ret (.tup ds))):Qs Pr (zG is env):=by rw[CW h hn hl];exact k
theorem vz(h1:env[i]?=some (.own (.lst ds)))(h2:f (rE env)=some d)(hl:ds.length<100000)(k:Qs Pr (g (env.set i (.own (.lst (ds++[d])))))):Qs Pr (aW (xO i gU f) g env):=by rw[iH (Rg h1 h2 hl)];exact k
theorem DN(h1:env[i]?=some (.own (.lst ds)))(h2:f (rE env)=some d)(hl:ds.length<100000)(k:Pr (.next (env.set i (.own (.lst (ds++[d])))))):Qs Pr (xO i gU f env):=by rw[Rg h1 h2 hl];exact k
theorem Uz{f':FE}{k:Int}(h1:env[i]?=some (.own (.lst ds)))(h2:f (rE env)=some (.int k))(h3:f' (rE env)=some d)(k0:0≤k)(k1:k<ds.length):jF i gU f f' env=.next (env.set i (.own (.lst (ds.set k.toNat d)))):=by
 unfold jF gU
 rw[h1,h2,h3]
 dsimp only[lK]
 have:Ek ds.length k=some k.toNat:=by unfold Ek;rw[if_pos k0,if_pos k1]
 rw[this]
 rfl
theorem jf{f':FE}{k:Int}(h1:env[i]?=some (.own (.lst ds)))(h2:f (rE env)=some (.int k))(h3:f' (rE env)=some d)(k0:0≤k)(k1:k<ds.length)(kk:Qs Pr (g (env.set i (.own (.lst (ds.set k.toNat d)))))):Qs Pr (aW (jF i gU f f') g env):=by rw[iH (Uz h1 h2 h3 k0 k1)];exact kk
theorem Va{f':FE}{k:Int}(h1:env[i]?=some (.own (.lst ds)))(h2:f (rE env)=some (.int k))(h3:f' (rE env)=some d)(k0:0≤k)(k1:k<ds.length)(kk:Pr (.next (env.set i (.own (.lst (ds.set k.toNat d)))))):Qs Pr (jF i gU f f' env):=by rw[Uz h1 h2 h3 k0 k1];exact kk
theorem sJ{fi:FA}{n:Nat}(I:Nat→EN→Prop)(h:fi (rE env)=some (gR 0 n))(h0:I 0 env)
  (st:∀(k:Nat) env,k<n→I k env→i<env.length∧Qs (λr=>∃env',r=.next env'∧I (k+1) env') (gb (env.set i (.fro (.int k))))) (k:∀env',I n env'→Qs Pr (g env')):Qs Pr (aW (lX i fi gb) g env):=by
 obtain⟨env',h1,h2⟩:=Cz (gb:=gb) I h h0 λk env hk hi=>⟨(st k env hk hi).1,let ⟨e,a,b⟩:=(st k env hk hi).2;⟨e,a,b⟩⟩
 rw[iH h1]
 exact k env' h2
theorem DP{fi:FA}{n:Nat}(I:Nat→EN→Prop)(h:fi (rE env)=some (gR 0 n))(h0:I 0 env)
  (st:∀(k:Nat) env,k<n→I k env→i<env.length∧Qs (λr=>∃env',r=.next env'∧I (k+1) env') (gb (env.set i (.fro (.int k))))) (k:∀env',I n env'→Pr (.next env')):Qs Pr (lX i fi gb env):=by
 obtain⟨env',h1,h2⟩:=Cz (gb:=gb) I h h0 λk env hk hi=>⟨(st k env hk hi).1,let ⟨e,a,b⟩:=(st k env hk hi).2;⟨e,a,b⟩⟩
 rw[h1]
 exact k env' h2
theorem wg{js:List Nat}{fi:FA}{xN:EN}{xs:List D}(I:Nat→EN→Prop)(hf:wI js env=xN)(h:fi (zE xN)=some xs)(h0:I 0 xN)
  (st:∀(k:Nat) x env,xs[k]?=some x→I k env→i<env.length∧Qs (λr=>∃env',r=.next env'∧I (k+1) env') (gb (env.set i (.fro x)))) (k:∀env',I xs.length env'→Qs Pr (g env')):Qs Pr (aW (Qu js i fi gb) g env):=by
 obtain⟨env',h1,h2⟩:=xT (i:=i) (g:=gb) I xs xN 0 h0 λk x e hx hi=>by
  rw[N7]at hi ⊢
  exact⟨(st k x e hx hi).1,let ⟨e,a,b⟩:=(st k x e hx hi).2;⟨e,a,b⟩⟩
 rw[N7]at h2
 rw[iH ((QL hf h).trans h1)]
 exact k env' h2
theorem WK{is:List Nat}(h:f (rE env)=some (.tup ds))(hl:is.length=ds.length)(hi:is.all (λi=>decide (i<env.length))=true)(k:Qs Pr (g (mG env is ds))):Qs Pr (aW (oJ is f) g env):=by
 have:oJ is f env=.next (mG env is ds):=by unfold oJ;rw[h];dsimp only;rw[if_pos ⟨hl,hi⟩]
 rw[iH this]
 exact k
theorem dR{n m:Nat}{Pd:D→Prop}(hl:ds.length=m)(h:Qs (λr=>∃d,r=.ret d∧Pd d) (g (ds.map SD.fro++D9 (n-m) SD.no))):∃d,iB n m g ds=some d∧Pd d:=by
 obtain⟨d,h1,h2⟩:=h
 exact⟨d,dH hl h1,h2⟩
theorem lE{fs:FA}{e:DE}{n:Nat}(h:fs e=some [.int (n:Int)])(hn:n≤100000):jE fs e=some (gR 0 n):=by
 rw[My h (by omega) (by omega),C7]
end
end L2
namespace L2
theorem uN{fi:FA}{fr:List Nat}{fe:FE}{e:DE}{n:Nat}{φ:Nat→D}(h1:fi e=some (gR 0 n))(hn:n≤1000)(he:∀k:Nat,k<n→fe (some (.int k)::kE e fr)=some (φ k)):dJ fi fr dX fe e=some (.lst ((C5 n).map φ)):=by
 refine Cm h1 (by rw[uM];omega) ?_
 refine(xV (c:=λx=>dX (some x::kE e fr)) (φ:=λx=>match x with | .int i=>φ i.toNat | d=>d) (λ_ _=>rfl) ?_).trans ?_
 rotate_left
 ·congr 1
  unfold gR
  rw[G3]
  apply S0
  intro k _
  show φ ((0:Int)+(k:Int)).toNat=φ k
  rw[S9,C7]
 ·intro x hx
  obtain⟨k,hk,rfl⟩:=Cq hx
  rw[S9]
  show _=some (φ ((k:Int)).toNat)
  rw[C7]
  exact he k hk
theorem iW{fi:FA}{fr:List Nat}{fe:FE}{e:DE}{α:Type}{xs:List α}{ψ φ:α→D}(h1:fi e=some (xs.map ψ))(hn:xs.length≤1000)(he:∀x∈xs,fe (some (ψ x)::kE e fr)=some (φ x)):dJ fi fr dX fe e=some (.lst (xs.map φ)):=by
 refine Cm h1 (by rw[A5];omega) ?_
 clear h1 hn
 induction xs with
 | nil=>rw[G0,G0];unfold qU;rfl
 | cons x xs ih=>
  rw[D4]
  unfold qU
  show (some true).bind _=_
  rw[C4,if_pos rfl,he x E5,C4,ih λy hy=>he y (D5 _ hy)]
  rfl
theorem Dc{α:Type} [Inhabited α]:∀(l:List α)(k:Nat)(d:α),k<l.length→(l.getD k d::l.eraseIdx k).Perm l
 | [],k,d,h=>absurd h (by simp)
 | a::l,0,d,_=>by simp
 | a::l,k+1,d,h=>by
  rw[J9,List.getD_cons_succ]
  exact(List.Perm.swap _ _ _).trans ((Dc l k d (by simpa using h)).cons a)
theorem Ad{α:Type}{l:List α}{k:Nat}{x d:α}(h:l[k]?=some x):l.getD k d=x:=by rw[A7,h];rfl
theorem pK{α:Type}{l:List α}{k:Nat}{d:α}(h:k<l.length):l[k]?=some (l.getD k d):=by rw[A7,A6 h];rfl
theorem Wm(ns:List Int):tR (ns.map D.int) (some 1) none=(ns.drop 1).map D.int:=by
 unfold tR
 rw[A5]
 show ((ns.map D.int).drop (HT.wG ns.length 0 (some ((1:Nat):Int)))).take (ns.length-HT.wG ns.length 0 (some ((1:Nat):Int)))=_
 rw[Mh,List.map_drop]
 cases ns with
 | nil=>rfl
 | cons a l=>
  have:min 1 (a::l).length=1:=by simp
  rw[this,M5]
  simp
theorem Rj{b:Bool}{f:FE}{l h:FO}{e:DE}{ds:List D}{lo hi:Option Int}(h1:f e=some (.lst ds))(h2:l e=some lo)(h3:h e=some hi)(h4:b=false∨D.fG (tR ds lo hi)=true):IW b f l h e=some (.lst (tR ds lo hi)):=by
 unfold IW
 rw[h1,h2,h3]
 dsimp only[C4]
 rw[if_pos h4]
theorem Dd(ns ms:List Int)(h:ns.length+ms.length≤100000):dD (aU ns) (aU ms)=some (aU (ns++ms)):=by
 have:=xW (a:=ns.map D.int) (b:=ms.map D.int) (by rw[Cw,nD,nD];rfl) (by rw[A5,A5];exact h)
 rw[←G1]at this
 exact this
end L2


namespace L2
open PySem PySem.Spec PyProof.Rows
section
variable{i j:Nat}{f:FE}{c:FT}{g1 g2 g gb:GS}{env env':EN}{d:D}{ds:List D}{Pr:SR→Prop}
theorem Ke{x:D}(h:ds.getLast?=some x):dW (.lst ds) (.int (-1))=some x:=QM h
theorem Ng{α:Type}(l:List α):tR l none (some (-1))=l.dropLast:=by
 unfold tR
 show (l.drop 0).take (HT.wG l.length l.length (some (-1))-0)=_
 have:HT.wG l.length l.length (some (-1))=l.length-1:=by
  show (if(-1:Int)<0 then((-1:Int)+(l.length:Int)).toNat else min (-1:Int).toNat l.length)=_
  rw[if_pos (by decide)]
  omega
 rw[this,List.drop_zero,P7,List.dropLast_eq_take]
theorem Gr{fc:FT}(I:Nat→EN→Prop)(hs:∀n env,I n env→(fc (rE env)=some false)∨(fc (rE env)=some true∧0<n∧∃env',gb env=.next env'∧I (n-1) env')):∀(fuel n:Nat)(env:EN),n<fuel→I n env→∃env' n',lU fc gb fuel env=.next env'∧I n' env'∧fc (rE env')=some false
 | 0,n,env,h,_=>absurd h (by omega)
 | fuel+1,n,env,h,hi=>by
  rcases hs n env hi with q | ⟨q,hn,env',h1,h2⟩
  ·exact⟨env,n,by unfold lU;rw[q],hi,q⟩
  ·obtain⟨e2,n2,a1,a2,a3⟩:=Gr I hs fuel (n-1) env' (by omega) h2
   refine⟨e2,n2,?_,a2,a3⟩
   unfold lU
   rw[q,h1]
   exact a1
end
end L2
namespace L2
theorem Vb{l:List Int}{b:Int}:(G4 b:Key)∈l.map (G4:Int→Key)↔b∈l:=by
 rw[D6]
 constructor
 ·rintro⟨a,h1,h2⟩;cases h2;exact h1
 ·intro h;exact⟨b,h,rfl⟩
theorem De{l:List Int}{b:Int}(h:b∉l):posK (l.map (G4:Int→Key)) (G4 b)=none:=wX.mpr λz=>h (Vb.mp z)
theorem QS{i:Nat}{f f':FE}{env:EN}{ks:List Key}{ds:List D}{kd d:D}{k:Key}(h1:env[i]?=some (.own (.dk ks ds)))(h2:f (rE env)=some kd)(h3:f' (rE env)=some d)(h4:Zm kd=some k)(h5:posK ks k=none)(im:d.jA=true)(hl:ks.length<100000):Gi i gU f f' env=.next (env.set i (.own (.dk (ks++[k]) (ds++[d])))):=by
 have e1:Jo ks k=ks++[k]:=by unfold Jo;rw[h5];rfl
 have e2:putD ks ds k d=ds++[d]:=by unfold putD;rw[h5];rfl
 unfold Gi gU
 rw[h1,h2,h3]
 dsimp only[lK]
 rw[h4]
 dsimp only
 rw[if_pos ⟨im,hl⟩,e1,e2]
 rfl
theorem Wn(l:List Int):D.lst ((l.map (G4:Int→Key)).map kD)=aU l:=by
 unfold aU
 rw[G3]
 rfl
theorem QT{fc:FT}{gb g:GS}{env:EN}{Pr:SR→Prop}{fuel n:Nat}(I:Nat→EN→Prop)(h0:I n env)(hn:n<fuel)(hs:∀n env,I n env→(fc (rE env)=some false)∨(fc (rE env)=some true∧0<n∧∃env',gb env=.next env'∧I (n-1) env'))
  (k:∀env' n',I n' env'→fc (rE env')=some false→Qs Pr (g env')):Qs Pr (aW (lU fc gb fuel) g env):=by
 obtain⟨env',n',a1,a2,a3⟩:=Gr I hs fuel n env hn h0
 rw[iH a1]
 exact k env' n' a2 a3
end L2
namespace L2
end L2


namespace L2
open PySem PySem.Spec PyProof.Rows
theorem jg{α:Type}{l:List α}{c:Nat}(h:c≤l.length):tR l (some (c:Int)) none=l.drop c:=by
 unfold tR
 show (l.drop (HT.wG l.length 0 (some (c:Int)))).take (l.length-HT.wG l.length 0 (some (c:Int)))=_
 rw[Mh,show min c l.length=c by omega,M5 (by rw[J0];omega)]
structure yr where
 wj:Int
 place:Int
 thing:List Int
 needs:List Int
 deriving Inhabited
def chD(c:yr):D:=.tup [.int c.wj,.int c.place,dTup c.thing,dTup c.needs]
abbrev at_(cs:List yr)(k:Nat):yr:=cs.getD k default
theorem sO(c:yr):dW (chD c) (.int 0)=some (.int c.wj):=gB (by decide) rfl
theorem DQ(c:Bool):Up [.bl c]=some (.int (if c then 1 else 0)):=rfl
end L2
namespace L2
theorem Gs{f:FE}{e:DE}{i:Int}(h:f e=some (.int i)):oZ f e=some (some i):=by unfold oZ;rw[h];rfl
end L2
namespace L2
end L2


namespace L2
open PySem PySem.Spec PyProof.Rows
theorem lM{α:Type}(p:α→Bool)(l:List α):Jq [.lst (l.map λx=>D.bl (p x))]=some (.bl (l.all p)):=by
 show (qT (l.map λx=>D.bl (p x))).map _=_
 rw[xF]
 show some (D.bl ((l.map p).all id))=_
 rw[List.all_map]
 rfl
end L2


namespace L2
open PySem PySem.Spec PyProof.Rows
section
variable{i j:Nat}{f f':FE}{c:FT}{g1 g2 g gb:GS}{env env':EN}{d d0 d' r:D}{ds:List D}{Pr:SR→Prop}{v:V}{π:FP}{p:List Step}
theorem QV{f1 f2 f3:FE}{e:DE}{a b c:Int}(h1:f1 e=some (.int a))(h2:f2 e=some (.int b))(h3:f3 e=some (.int c)):Ra Wa Xz f1 f2 f3 e=some (decide (a≤b)&&decide (b<c)):=by
 unfold Ra
 rw[h1,h2,h3]
 dsimp only[C4]
 rw[Aa,C4]
 by_cases q:a≤b
 ·rw[decide_eq_true q]
  dsimp only
  rw[zZ,C4]
  simp
 ·rw[decide_eq_false q]
  simp
end
end L2


local macro_rules | `(tactic| walk_at "fs")=>`(tactic| exact⟨rfl,rfl,rfl,by decide +kernel,rfl,by decide +kernel,by decide +kernel⟩)
namespace Rs
open PySem L2
def top(i:Nat):Stmt:=PySem.Challenge.pw_ripestone_k25_sound_or_not.main.body.getD i (.Pass ⟨0,0,0,0⟩)
abbrev Df:Stmt:=top 23
noncomputable def Nh:GS:=aW (jU (fB (f2 pH (fL cY (aA (aF 0) aN)) (fC (.int 0)))) (dG (fC (.int 0))) cN)
 (aW (bW 2 (f2 jB (aF 1) (fL cY (aA (aF 0) aN))))
 (aW (bW 3 (f2 dD (fC (.int 48271)) (f2 nA (f2 nA (fC (.int 7919)) (aF 2)) (aF 2))))
 (aW (bW 4 (f2 dD (f2 nA (f2 dW (aF 0) (f2 cO (aF 1) (fL cY (aA (aF 0) aN)))) (aF 3)) (f2 nA (f2 nA (aF 1) (aF 1)) (fC (.int 104729)))))
 (aW (bW 4 (f2 cO (aF 4) (fC (.int 2147483647))))
 (dG (f2 cO (f2 nA (aF 4) (aF 4)) (fC (.int 2147483629))))))))
noncomputable def bQ:List D→Option D:=iB 5 2 (Nh)
abbrev xX:Stmt:=top 24
noncomputable def Gu:GS:=aW (bW 2 (bG 2 bQ (aA (aF 0) (aA (aF 1) aN))))
 (aW (jU (fB (f2 pH (f2 cO (aF 2) (fC (.int 3))) (fC (.int 0)))) (dG (f2 cO (f2 jB (aF 2) (fC (.int 3))) (fC (.int 7)))) cN)
 (aW (jU (fB (f2 pH (f2 cO (aF 2) (fC (.int 3))) (fC (.int 1)))) (dG (f2 jB (aF 2) (fC (.int 3)))) cN)
 (dG (f2 cO (f2 dD (f2 Jj (aF 2) (fC (.int 6))) (f2 cO (f2 dW (aF 0) (f2 cO (aF 1) (fL cY (aA (aF 0) aN)))) (f2 Jj (fC (.int 10)) (fC (.int 57))))) (f2 Jj (fC (.int 10)) (fC (.int 57)))))))
noncomputable def cM:List D→Option D:=iB 3 2 (Gu)
abbrev xY:Stmt:=top 25
noncomputable def xZ:GS:=aW (bW 2 (oX aN))
 (aW (lX 3 (jE (aA (aF 1) aN)) (aW (bW 4 (bG 2 bQ (aA (aF 0) (aA (f2 dD (fC (.int 4)) (aF 3)) aN))))
 (aW (bW 5 (f2 dD (aF 3) (f2 nA (aF 1) (f2 cO (f2 jB (aF 4) (fC (.int 4))) (fC (.int 30))))))
 (aW (jU (fB (f2 pH (f2 cO (aF 4) (fC (.int 4))) (fC (.int 0)))) (bW 5 (fC (.int 0))) cN)
 (aW (jU (fB (f2 pH (f2 cO (aF 4) (fC (.int 4))) (fC (.int 1)))) (bW 5 (bG 2 cM (aA (aF 0) (aA (f2 dD (fC (.int 400)) (aF 3)) aN)))) cN)
 (xO 2 gU (fO (aF 5))))))))
 (nF 2))
noncomputable def sS:List D→Option D:=iB 6 2 (xZ)
abbrev sU:Stmt:=top 26
noncomputable def Gv:GS:=aW (bW 2 (dJ (Gh (aA (fC (.int 1)) (aA (aF 1) aN))) [] dX (fO (aF 0))))
 (aW (bW 3 (bG 2 bQ (aA (aF 0) (aA (fC (.int 2)) aN))))
 (aW (bW 4 (f2 uF (aF 1) (fC (.int 1))))
 (aW (jU (fB (f2 Yb (f2 cO (aF 3) (fC (.int 3))) (fC (.int 0)))) (bW 4 (f2 cO (f2 jB (aF 3) (fC (.int 3))) (aF 1))) cN)
 (aW (bW 5 (oX aN))
 (aW (lX 6 (jE (aA (aF 4) aN)) (sE 5 2 (f2 cO (bG 2 bQ (aA (aF 0) (aA (f2 dD (fC (.int 12)) (f2 nA (fC (.int 6)) (aF 6))) aN))) (fL cY (aA (aF 2) aN)))))
 (zG [5,2]))))))
noncomputable def pL:List D→Option D:=iB 7 2 (Gv)
abbrev Kf:Stmt:=top 28
noncomputable def Vc:GS:=aW (bW 3 (bG 2 bQ (aA (aF 0) (aA (aF 1) aN))))
 (aW (jU (fB (f2 Xz (f2 cO (aF 3) (fC (.int 5))) (fC (.int 2)))) (dG (fC (.int 0))) cN)
 (aW (jU (fB (f2 Xz (f2 cO (aF 3) (fC (.int 5))) (fC (.int 4)))) (dG (fO (f2 dW (aF 2) (f2 cO (f2 jB (aF 3) (fC (.int 5))) (fL cY (aA (aF 2) aN)))))) cN)
 (dG (bG 2 cM (aA (aF 0) (aA (aF 1) aN))))))
noncomputable def vQ:List D→Option D:=iB 4 3 (Vc)
abbrev uO:Stmt:=top 27
noncomputable def Dg:GS:=aW (jU (fB (f2 pH (f2 cO (f2 jB (bG 2 bQ (aA (aF 0) (aA (aF 1) aN))) (fC (.int 7))) (fC (.int 4))) (fC (.int 0)))) (dG (mH (fC (.int 1)))) cN)
 (dG (bG 2 cM (aA (aF 0) (aA (aF 1) aN))))
noncomputable def nR:List D→Option D:=iB 2 2 (Dg)
abbrev uP:Stmt:=top 29
noncomputable def Dh:GS:=aW (bW 6 (bG 3 vQ (aA (aF 0) (aA (aF 1) (aA (aF 4) aN)))))
 (aW (bW 7 (bG 2 nR (aA (aF 0) (aA (f2 dD (aF 1) (fC (.int 1))) aN))))
 (aW (jU (uH (fB (aF 5)) (uH (fB (f2 pH (aF 6) (fC (.int 0)))) (fB (f2 Xz (aF 7) (fC (.int 0)))))) (bW 7 (fC (.int 0))) cN)
 (dG (pG (aA (fO (aF 2)) (aA (fO (aF 3)) (aA (bG 2 nR (aA (aF 0) (aA (f2 dD (aF 1) (fC (.int 2))) aN))) (aA (fO (aF 7)) (aA (fO (aF 6)) aN)))))))))
noncomputable def jJ:List D→Option D:=iB 8 6 (Dh)
abbrev pM:Stmt:=top 30
noncomputable def Gw:GS:=aW (bW 3 (f2 nA (aF 1) (aF 2)))
 (aW (bW 4 (bG 2 sS (aA (aF 0) (aA (aF 1) aN))))
 (aW (oJ [5,6] (bG 2 pL (aA (aF 0) (aA (aF 3) aN))))
 (aW (bW 7 (dJ (jE (aA (aF 3) aN)) [] dX (pG (aA (fC (.int 0)) (aA (fC (.int 0)) (aA (mH (fC (.int 1))) (aA (mH (fC (.int 1))) (aA (fC (.int 0)) aN))))))))
 (aW (bW 8 (f2 uF (bG 2 cM (aA (aF 0) (aA (fC (.int 3)) aN))) (f2 Jj (fC (.int 10)) (fC (.int 56)))))
 (aW (bW 9 (f2 dD (IW false (aF 5) (oZ (fC (.int 1))) (uI)) (oX (aA (fC (.int 0)) aN))))
 (aW (lX 10 (jE (aA (fL cY (aA (aF 5) aN)) aN)) (aW (bW 8 (f2 dD (f2 dD (aF 8) (fC (.int 1))) (f2 cO (bG 2 cM (aA (aF 0) (aA (f2 dD (fC (.int 16)) (f2 nA (fC (.int 6)) (aF 10))) aN))) (f2 Jj (fC (.int 10)) (fC (.int 55))))))
 (jF 7 gU (f2 dW (aF 5) (aF 10)) (bG 6 jJ (aA (aF 0) (aA (f2 dD (fC (.int 13)) (f2 nA (fC (.int 6)) (aF 10))) (aA (aF 8) (aA (f2 dW (aF 9) (aF 10)) (aA (aF 4) (aA (fC (.bl true)) aN))))))))))
 (aW (lX 10 (jE (aA (fL cY (aA (aF 6) aN)) aN)) (aW (bW 11 (f2 dD (fC (.int 12)) (f2 nA (fC (.int 6)) (f2 dD (fL cY (aA (aF 5) aN)) (aF 10)))))
 (aW (bW 12 (f2 cO (bG 2 bQ (aA (aF 0) (aA (aF 11) aN))) (aF 3)))
 (jF 7 gU (f2 dW (aF 6) (aF 10)) (bG 6 jJ (aA (aF 0) (aA (f2 dD (aF 11) (fC (.int 1))) (aA (bG 2 cM (aA (aF 0) (aA (f2 dD (aF 11) (fC (.int 4))) aN))) (aA (aF 12) (aA (aF 4) (aA (fC (.bl false)) aN)))))))))))
 (aW (bW 13 (fC (.int 0)))
 (aW (jU (fB (f2 sy (fL cY (aA (aF 5) aN)) (fC (.int 0)))) (bW 13 (fO (f2 dW (aF 5) (fC (.int 0))))) cN)
 (aW (jF 7 gU (fC (.int 0)) (bG 6 jJ (aA (aF 0) (aA (fC (.int 409)) (aA (f2 uF (bG 2 cM (aA (aF 0) (aA (fC (.int 408)) aN))) (f2 Jj (fC (.int 10)) (fC (.int 56)))) (aA (aF 13) (aA (aF 4) (aA (fC (.bl false)) aN))))))))
 (aW (bW 14 (oX aN))
 (aW (lX 15 (jE (aA (aF 1) aN)) (xO 14 gU (f2 dD (dJ (jE (aA (aF 2) aN)) [7,15,1] dX (fO (f2 dW (aF 1) (f2 dD (aF 2) (f2 nA (aF 3) (aF 0)))))) (oX (aA (pG (aA (fO (f2 dW (aF 4) (aF 15))) aN)) aN)))))
 (zG [14,5,6])))))))))))))
noncomputable def pN:List D→Option D:=iB 16 3 (Gw)
abbrev uQ:Stmt:=top 12
noncomputable def Di:GS:=dG (f2 nA (fL cY (aA (aF 0) aN)) (f2 uF (fL cY (aA (f2 dW (aF 0) (fC (.int 0))) aN)) (fC (.int 1))))
noncomputable def qJ:List D→Option D:=iB 1 1 (Di)
abbrev vR:Stmt:=top 16
noncomputable def vU:GS:=aW (jU (Qp (tQ (fB (qX "list" (aF 0)))) (tQ (Ra Wa Wa (fC (.int 1)) (fL cY (aA (aF 0) aN)) (fC (.int 8))))) (dG (fC (.bl false))) cN)
 (aW (jU (tQ (fB (fL Jq (aA (dJ (lJ (aF 0)) [] dX (qX "list" (aF 0))) aN)))) (dG (fC (.bl false))) cN)
 (dG (jD (Rb Wa Wa (fC (.int 2)) (fL cY (aA (f2 dW (aF 0) (fC (.int 0))) aN)) (fC (.int 9))) (fL Jq (aA (dJ (lJ (aF 0)) [0] dX (f2 pH (fL cY (aA (aF 0) aN)) (fL cY (aA (f2 dW (aF 1) (fC (.int 0))) aN)))) aN)))))
noncomputable def jX:List D→Option D:=iB 1 1 (vU)
abbrev Dj:Stmt:=top 8
noncomputable def Ni:GS:=dG (fO (f2 dW (f2 dW (aF 0) (f2 dW (aF 1) (fC (.int 0)))) (f2 dW (aF 1) (fC (.int 1)))))
noncomputable def rM:List D→Option D:=iB 2 2 (Ni)
abbrev Kg:Stmt:=top 7
noncomputable def Vd:GS:=dG (pG (aA (f2 cO (aF 1) (fL cY (aA (aF 0) aN))) (aA (f2 jB (aF 1) (fL cY (aA (aF 0) aN))) aN)))
noncomputable def Ae:List D→Option D:=iB 2 2 (Vd)
abbrev yC:Stmt:=top 9
noncomputable def Gx:GS:=dG (bG 2 rM (aA (aF 0) (aA (bG 2 Ae (aA (aF 0) (aA (aF 1) aN))) aN)))
noncomputable def fJ:List D→Option D:=iB 2 2 (Gx)
abbrev yD:Stmt:=top 13
noncomputable def Gy:GS:=aW (bW 1 (fC (.dk [] [])))
 (aW (bW 2 (fO (f2 dW (bG 2 fJ (aA (aF 0) (aA (fC (.int (0))) aN))) (fC (.int (1))))))
 (aW (lU (uH (fB (f2 Yb (aF 2) (fC (.int (0))))) (fB (f2 (Wb true) (aF 2) (aF 1)))) (aW (Gi 1 gU (aF 2) (fC (.bl true)))
 (bW 2 (fO (f2 dW (bG 2 fJ (aA (aF 0) (aA (aF 2) aN))) (fC (.int (1))))))) 400)
 (dG (fL Qq (aA (aF 1) aN)))))
noncomputable def pO:List D→Option D:=iB 3 1 (Gy)
abbrev gD:Stmt:=top 20
noncomputable def rN:GS:=aW (bW 1 (bG 1 pO (aA (aF 0) aN)))
 (aW (jU (fB (f2 Yb (f2 dW (bG 2 fJ (aA (aF 0) (aA (f2 dW (f2 dD (oX (aA (fC (.int (0))) aN)) (aF 1)) (mH (fC (.int 1)))) aN))) (fC (.int (1)))) (fC (.int (0))))) (dG (fC (.bl false))) cN)
 (aW (bW 2 (dJ (lJ (aF 1)) [0] dX (bG 2 fJ (aA (aF 1) (aA (aF 0) aN)))))
 (aW (jU (fB (fL NZ (aA (dJ (lJ (aF 2)) [] dX (jD (f2 pH (f2 dW (aF 0) (fC (.int (4)))) (fC (.int 0))) (f2 pH (f2 dW (aF 0) (fC (.int (3)))) (fC (.int (-1)))))) aN))) (dG (fC (.bl false))) cN)
 (dG (fL Jq (aA (xQ (aF 2) (IW false (aF 2) (oZ (fC (.int 1))) (uI)) [] dX (f2 Xz (f2 dW (aF 0) (fC (.int (0)))) (f2 dW (aF 1) (fC (.int (0)))))) aN))))))
noncomputable def eQ:List D→Option D:=iB 3 1 (rN)
abbrev Dk:Stmt:=top 14
noncomputable def DR:GS:=dG (jD (qX "int" (aF 0)) (Gb (qX "bool" (aF 0))))
noncomputable def iG:List D→Option D:=iB 1 1 (DR)
abbrev sV:Stmt:=top 15
noncomputable def Wo:GS:=dG (jD (qX "tuple" (aF 0)) (jD (f2 pH (fL cY (aA (aF 0) aN)) (aF 1)) (fL Jq (aA (dJ (lJ (aF 0)) [] dX (bG 1 iG (aA (aF 0) aN))) aN))))
noncomputable def dZ:List D→Option D:=iB 2 2 (Wo)
abbrev Kh:Stmt:=top 17
noncomputable def QW:GS:=dG (jD (bG 2 dZ (aA (aF 0) (aA (fC (.int 1)) aN))) (f2 jz (f2 dW (aF 0) (fC (.int 0))) (fC (.int 0))))
noncomputable def mJ:List D→Option D:=iB 1 1 (QW)
abbrev yE:Stmt:=top 18
noncomputable def yF:GS:=aW (jU (tQ (fB (bG 2 dZ (aA (aF 0) (aA (fC (.int 5)) aN))))) (dG (fC (.bl false))) cN)
 (dG (jD (Rb Wa Xz (fC (.int 0)) (f2 dW (aF 0) (fC (.int (1)))) (aF 1)) (jD (f2 jz (f2 dW (aF 0) (fC (.int (2)))) (fC (.int (-1)))) (jD (f2 jz (f2 dW (aF 0) (fC (.int (3)))) (fC (.int (-1)))) (f2 jz (f2 dW (aF 0) (fC (.int (4)))) (fC (.int 0)))))))
noncomputable def dC:List D→Option D:=iB 2 2 (yF)
abbrev oM:Stmt:=top 19
noncomputable def Nj:GS:=dG (jD (bG 1 mJ (aA (f2 dW (aF 0) (mH (fC (.int 1)))) aN)) (fL Jq (aA (dJ (lJ (IW false (aF 0) (uI) (oZ (mH (fC (.int 1)))))) [1] dX (bG 2 dC (aA (aF 0) (aA (aF 1) aN)))) aN)))
noncomputable def cQ:List D→Option D:=iB 2 2 (Nj)
abbrev vV:Stmt:=top 21
noncomputable def vW:GS:=aW (jU (tQ (fB (bG 1 jX (aA (aF 0) aN)))) (dG (fC (.bl false))) cN)
 (aW (bW 1 (bG 1 qJ (aA (aF 0) aN)))
 (dG (jD (fL Jq (aA (dJ (lJ (aF 0)) [1] dX (bG 2 cQ (aA (aF 0) (aA (aF 1) aN)))) aN)) (bG 1 eQ (aA (aF 0) aN)))))
noncomputable def bV:List D→Option D:=iB 2 1 (vW)
abbrev yG:Stmt:=top 31
noncomputable def Gz:GS:=dG (jD (qX "int" (aF 0)) (Gb (qX "bool" (aF 0))))
noncomputable def sW:List D→Option D:=iB 1 1 (Gz)
abbrev yH:Stmt:=top 32
noncomputable def Hf:GS:=aW (jU (Qp (tQ (fB (qX "tuple" (aF 0)))) (fB (f2 Yb (fL cY (aA (aF 0) aN)) (fL cY (aA (aF 1) aN))))) (dG (fC (.bl false))) cN)
 (aW (Qu [] 2 (lJ (aF 0)) (jU (tQ (fB (bG 1 sW (aA (aF 2) aN)))) (dG (fC (.bl false))) cN))
 (dG (f2 pH (aF 0) (aF 1))))
noncomputable def pP:List D→Option D:=iB 3 2 (Hf)
abbrev yI:Stmt:=top 34
noncomputable def Hg:GS:=aW (jU (Qp (tQ (fB (qX "list" (aF 0)))) (fB (f2 Yb (fL cY (aA (aF 0) aN)) (fL cY (aA (aF 1) aN))))) (dG (fC (.bl false))) cN)
 (aW (lX 2 (jE (aA (fL cY (aA (aF 1) aN)) aN)) (aW (jU (Qp (tQ (fB (qX "list" (f2 dW (aF 0) (aF 2))))) (fB (f2 Yb (fL cY (aA (f2 dW (aF 0) (aF 2)) aN)) (fL cY (aA (f2 dW (aF 1) (aF 2)) aN))))) (dG (fC (.bl false))) cN)
 (lX 3 (jE (aA (fL cY (aA (f2 dW (aF 1) (aF 2)) aN)) aN)) (jU (tQ (fB (bG 2 pP (aA (f2 dW (f2 dW (aF 0) (aF 2)) (aF 3)) (aA (f2 dW (f2 dW (aF 1) (aF 2)) (aF 3)) aN))))) (dG (fC (.bl false))) cN))))
 (dG (fC (.bl true))))
noncomputable def pQ:List D→Option D:=iB 4 2 (Hg)
abbrev Dl:Stmt:=top 36
noncomputable def Nk:GS:=aW (bW 3 (bG 2 bQ (aA (aF 0) (aA (fC (.int 414)) aN))))
 (aW (bW 4 (fL dList (aA (aF 1) aN)))
 (aW (bW 5 (f2 cO (f2 jB (aF 3) (fC (.int 4))) (fL cY (aA (aF 4) aN))))
 (aW (jU (fB (f2 pH (f2 cO (aF 3) (fC (.int 4))) (fC (.int 0)))) (aW (jF 4 gU (aF 5) (f2 BX (oX (aA (fC (.bl true)) (aA (fC .non) (aA (fC (.str "1")) (aA (pG (aA (fC (.int 1)) aN)) (aA (oX (aA (fC (.int 1)) aN)) aN)))))) (f2 cO (f2 jB (aF 3) (fC (.int 64))) (fC (.int 5)))))
 (qI 4)) cN)
 (aW (jU (fB (f2 pH (f2 cO (aF 3) (fC (.int 4))) (fC (.int 1)))) (aW (jU (fB (f2 pH (f2 cO (f2 jB (aF 3) (fC (.int 64))) (fC (.int 2))) (fC (.int 0)))) (xO 4 gU (fC (.int 1))) (Cg 4 gU (aF 5)))
 (qI 4)) cN)
 (aW (jU (fB (f2 pH (f2 cO (aF 3) (fC (.int 4))) (fC (.int 2)))) (nF 4) cN)
 (aW (jU (fB (f2 pH (fL cY (aA (aF 4) aN)) (fC (.int 1)))) (dG (pG (aA (f2 uF (mH (fC (.int 1))) (bG 2 cM (aA (aF 0) (aA (fC (.int 415)) aN)))) aN))) cN)
 (aW (bW 5 (f2 dD (fC (.int 1)) (f2 cO (f2 jB (aF 3) (fC (.int 4))) (fC (.int 4)))))
 (aW (jF 4 gU (aF 5) (f2 uF (f2 uF (f2 dW (oX (aA (fC (.int 0)) (aA (fC (.int 0)) (aA (mH (fC (.int 1))) (aA (mH (fC (.int 1))) (aA (fC (.int 0)) aN)))))) (aF 5)) (fC (.int 1))) (bG 2 cM (aA (aF 0) (aA (fC (.int 415)) aN)))))
 (aW (jU (uH (fB (f2 pH (aF 5) (fC (.int 1)))) (fB (f2 pH (f2 cO (f2 jB (aF 3) (fC (.int 64))) (fC (.int 2))) (fC (.int 0))))) (jF 4 gU (fC (.int 1)) (f2 dD (aF 2) (f2 cO (f2 jB (aF 3) (fC (.int 128))) (fC (.int 3))))) cN)
 (qI 4))))))))))
noncomputable def vX:List D→Option D:=iB 6 3 (Nk)
abbrev sX:Stmt:=top 35
noncomputable def Hh:GS:=aW (bW 2 (oX aN))
 (aW (lX 3 (jE (aA (aF 0) aN)) (xO 2 gU (f2 dD (dJ (jE (aA (aF 1) aN)) [] dX (pG (aA (fC (.int 0)) (aA (fC (.int 0)) (aA (mH (fC (.int 1))) (aA (mH (fC (.int 1))) (aA (fC (.int 0)) aN))))))) (oX (aA (pG (aA (fC (.int 0)) aN)) aN)))))
 (nF 2))
noncomputable def mR:List D→Option D:=iB 4 2 (Hh)
abbrev sY:Stmt:=top 37
noncomputable def Hi:GS:=aW (bW 3 (bG 2 bQ (aA (aF 0) (aA (fC (.int 416)) aN))))
 (aW (bW 4 (fL cY (aA (aF 1) aN)))
 (aW (bW 5 (dJ (lJ (aF 1)) [] dX (fL dList (aA (aF 0) aN))))
 (aW (jU (fB (f2 pH (aF 2) (fC (.int 0)))) (CK 6 5 (oX (aA (fC .non) (aA (fC (.int 7)) (aA (fC (.bl true)) (aA (fC (.str "0,0,-1,-1,0 0")) (aA (pG (aA (fC (.int 0)) aN)) aN)))))) (f2 cO (aF 3) (fC (.int 9)))) cN)
 (aW (jU (fB (f2 pH (aF 2) (fC (.int 1)))) (dG (bG 2 mR (aA (aF 4) (aA (f2 nA (fC (.int 9)) (f2 cO (aF 3) (fC (.int 2)))) aN)))) cN)
 (aW (jU (fB (f2 pH (aF 2) (fC (.int 2)))) (dG (bG 2 mR (aA (f2 dD (fC (.int 9)) (f2 cO (aF 3) (fC (.int 3)))) (aA (f2 uF (fL cY (aA (f2 dW (aF 5) (fC (.int 0))) aN)) (fC (.int 1))) aN)))) cN)
 (aW (bW 7 (f2 cO (aF 3) (aF 4)))
 (aW (jU (Qp (fB (f2 pH (aF 4) (fC (.int 1)))) (fB (f2 pH (f2 cO (f2 jB (aF 3) (fC (.int 8))) (fC (.int 3))) (fC (.int 0))))) (jF 5 gU (aF 7) (fL wZ (aA (f2 dW (aF 5) (aF 7)) aN))) (jU (fB (f2 pH (f2 cO (f2 jB (aF 3) (fC (.int 8))) (fC (.int 3))) (fC (.int 1)))) (Gm 5 (Ul gU (aF 7)) (fC (.int 0)) (pG (aA (fC (.int 0)) (aA (fC (.int 0)) (aA (mH (fC (.int 1))) (aA (mH (fC (.int 1))) (aA (fC (.int 0)) aN))))))) (Cg 5 (Ul gU (aF 7)) (fC (.int 0)))))
 (nF 5))))))))
noncomputable def sZ:List D→Option D:=iB 8 3 (Hi)
abbrev qK:Stmt:=top 39
noncomputable def Dm:GS:=aW (bW 2 (dJ (lJ (aF 0)) [] dX (fL dList (aA (aF 0) aN))))
 (aW (bW 3 (f2 BX (oX (aA (fC .non) (aA (fC (.int 7)) (aA (fC (.bl true)) (aA (fC (.str "1")) (aA (fC (.dk [] [])) (aA (mH (fC (.int 1))) aN))))))) (f2 cO (f2 jB (aF 1) (fC (.int 2))) (fC (.int 6)))))
 (aW (bW 4 (f2 cO (f2 jB (aF 1) (fC (.int 12))) (fL cY (aA (aF 2) aN))))
 (aW (jU (fB (f2 pH (f2 cO (aF 1) (fC (.int 2))) (fC (.int 0)))) (uL 2 gU (aF 4) 3) (uL 2 (Ul gU (aF 4)) (f2 cO (f2 jB (aF 1) (fC (.int 96))) (fL cY (aA (f2 dW (aF 2) (aF 4)) aN))) 3))
 (nF 2))))
noncomputable def qL:List D→Option D:=iB 5 2 (Dm)
abbrev qM:Stmt:=top 38
noncomputable def Dn:GS:=aW (bW 4 (bG 2 bQ (aA (aF 0) (aA (fC (.int 417)) aN))))
 (aW (bW 5 (fL cY (aA (aF 1) aN)))
 (aW (bW 6 (dJ (lJ (aF 1)) [] dX (fL dList (aA (aF 0) aN))))
 (aW (jU (fB (f2 pH (aF 3) (fC (.int 4)))) (aW (bW 7 (fO (f2 dW (aF 2) (mH (fC (.int 1))))))
 (aW (bW 8 (fO (f2 dW (f2 dW (aF 1) (f2 cO (aF 7) (aF 5))) (f2 jB (aF 7) (aF 5)))))
 (aW (jF 6 (Ul gU (f2 cO (aF 7) (aF 5))) (f2 jB (aF 7) (aF 5)) (pG (aA (fO (f2 dW (aF 8) (fC (.int 0)))) (aA (fO (f2 dW (aF 2) (f2 cO (aF 4) (fL cY (aA (aF 2) aN))))) (aA (fO (f2 dW (aF 8) (fC (.int 2)))) (aA (fO (f2 dW (aF 8) (fC (.int 3)))) (aA (fO (f2 dW (aF 8) (fC (.int 4)))) aN)))))))
 (nF 6)))) cN)
 (aW (jU (fB (f2 pH (aF 3) (fC (.int 5)))) (aW (bW 9 (f2 dD (fC (.int 1)) (f2 cO (aF 4) (f2 uF (fL cY (aA (aF 2) aN)) (fC (.int 1))))))
 (aW (bW 7 (fO (f2 dW (aF 2) (aF 9))))
 (aW (bW 8 (fO (f2 dW (f2 dW (aF 1) (f2 cO (aF 7) (aF 5))) (f2 jB (aF 7) (aF 5)))))
 (aW (bW 10 (fO (f2 dW (aF 2) (f2 uF (aF 9) (fC (.int 1))))))
 (aW (bW 11 (fO (f2 dW (f2 dW (f2 dW (aF 1) (f2 cO (aF 10) (aF 5))) (f2 jB (aF 10) (aF 5))) (fC (.int 0)))))
 (aW (bW 11 (f2 uF (aF 11) (f2 nA (f2 cO (f2 jB (aF 4) (fC (.int 64))) (fC (.int 2))) (bG 2 cM (aA (aF 0) (aA (fC (.int 418)) aN))))))
 (aW (jF 6 (Ul gU (f2 cO (aF 7) (aF 5))) (f2 jB (aF 7) (aF 5)) (pG (aA (fO (aF 11)) (aA (fO (f2 dW (aF 8) (fC (.int 1)))) (aA (fO (f2 dW (aF 8) (fC (.int 2)))) (aA (fO (f2 dW (aF 8) (fC (.int 3)))) (aA (fO (f2 dW (aF 8) (fC (.int 4)))) aN)))))))
 (nF 6)))))))) cN)
 (aW (bW 7 (fO (f2 dW (aF 2) (f2 cO (aF 4) (fL cY (aA (aF 2) aN))))))
 (aW (bW 8 (fO (f2 dW (f2 dW (aF 1) (f2 cO (aF 7) (aF 5))) (f2 jB (aF 7) (aF 5)))))
 (aW (jF 6 (Ul gU (f2 cO (aF 7) (aF 5))) (f2 jB (aF 7) (aF 5)) (pG (aA (fO (f2 dW (aF 8) (fC (.int 0)))) (aA (fO (f2 dW (aF 8) (fC (.int 1)))) (aA (fO (f2 dW (aF 8) (fC (.int 2)))) (aA (mH (fC (.int 1))) (aA (fC (.int 0)) aN)))))))
 (nF 6))))))))
noncomputable def qN:List D→Option D:=iB 12 4 (Dn)
abbrev tD:Stmt:=top 40
noncomputable def Hj:GS:=aW (bW 3 (f2 cO (bG 2 bQ (aA (aF 0) (aA (fC (.int 419)) aN))) (fC (.int 10))))
 (aW (jU (fB (f2 Xz (aF 3) (fC (.int 4)))) (dG (bG 3 sZ (aA (aF 0) (aA (aF 1) (aA (aF 3) aN))))) cN)
 (aW (jU (fB (f2 pH (aF 3) (fC (.int 7)))) (dG (bG 2 qL (aA (aF 1) (aA (bG 2 bQ (aA (aF 0) (aA (fC (.int 421)) aN))) aN)))) cN)
 (aW (jU (uH (fB (f2 Xz (aF 3) (fC (.int 7)))) (fB (f2 sy (fL cY (aA (aF 2) aN)) (fL Up (aA (f2 pH (aF 3) (fC (.int 5))) aN))))) (dG (bG 4 qN (aA (aF 0) (aA (aF 1) (aA (aF 2) (aA (aF 3) aN)))))) cN)
 (aW (bW 4 (bG 2 bQ (aA (aF 0) (aA (fC (.int 420)) aN))))
 (aW (bW 5 (dJ (lJ (aF 1)) [] dX (fL dList (aA (aF 0) aN))))
 (CJ 5 (Ul gU (f2 cO (aF 4) (fL cY (aA (aF 5) aN)))) 6 7 (f2 cO (f2 jB (aF 4) (fL cY (aA (aF 5) aN))) (fL cY (aA (aF 6) aN))) (bG 3 vX (aA (aF 0) (aA (f2 dW (aF 6) (aF 7)) (aA (f2 nA (fL cY (aA (aF 5) aN)) (f2 uF (fL cY (aA (aF 6) aN)) (fC (.int 1)))) aN))))))))))
noncomputable def tE:List D→Option D:=iB 8 3 (Hj)
abbrev QX:Stmt:=top 41
noncomputable def wk:GS:=aW (bW 1 (f2 dD (fC (.int 1)) (f2 cO (bG 2 bQ (aA (aF 0) (aA (fC (.int 0)) aN))) (fC (.int 8)))))
 (aW (bW 2 (f2 dD (fC (.int 1)) (f2 cO (bG 2 bQ (aA (aF 0) (aA (fC (.int 1)) aN))) (fC (.int 8)))))
 (aW (oJ [3,4,5] (bG 3 pN (aA (aF 0) (aA (aF 1) (aA (aF 2) aN)))))
 (aW (bW 6 (dJ (lJ (aF 3)) [] dX (fL dList (aA (aF 0) aN))))
 (aW (jU (Qp (fB (f2 (fj true) (bG 1 bV (aA (aF 6) aN)) (fC (.bl true)))) (tQ (fB (bG 2 pQ (aA (aF 6) (aA (aF 3) aN)))))) (dG (fC (.bl false))) cN)
 (aW (jU (fB (f2 (fj true) (bG 1 bV (aA (bG 3 tE (aA (aF 0) (aA (aF 3) (aA (aF 4) aN)))) aN)) (fC (.bl false)))) (dG (fC (.bl false))) cN)
 (dG (f2 (fj false) (bG 1 bV (aA (aF 6) aN)) (fC (.bl true)))))))))
noncomputable def jh:List D→Option D:=iB 7 1 (wk)
section
variable{P:Program}{w:World}{K:aC}{mg:Str→Option Value}{base:Heap}
theorem pR:bN ["script", "k", "turn", "factor", "mixed"] ["script", "k"] (aP Df):=by walk_at "fs"
theorem Rk(R:Raw K mg "_law_draw" Df) (cG:mg "len" = none):gH P w K mg base "_law_draw" 1 2 (gK K 2 bQ):=by
 refine R.jT pR (λ_ _ _ _ _ _ us hl=>match us,hl with | [_,_],_=>rfl) (λ_ _ _ _ _ _ _ hr=>?_)
 have cT:=hr.units
 have hu:=eN hr
 exact⟨_,aL (cU (cB (or_eq cT rfl) eX (XN.r (cD bT (bU rfl) rfl cG A8 (aB (aJ (pv 0)) aM))) (XN.r (aG)) (bI _)) (aX (bM aG)) cF)
  (aL (bC (i:=2) (dF (aJ (pv 1)) (XN.r (cD bT (bU rfl) rfl cG A8 (aB (aJ (pv 0)) aM)))) (λh=>aZ pR.nd rfl (by first | exact B4 rfl | exact B3 rfl) h))
  (aL (bC (i:=3) (cI (XN.r (aG)) (XN.r (iR (XN.r (iR (XN.r (aG)) (aJ (pv 2)))) (aJ (pv 2))))) (λh=>aZ pR.nd rfl (by first | exact B4 rfl | exact B3 rfl) h))
  (aL (bC (i:=4) (cI (XN.r (iR (bJ (aJ (pv 0)) (XN.r (bD (aJ (pv 1)) (XN.r (cD bT (bU rfl) rfl cG A8 (aB (aJ (pv 0)) aM))))) (λ_ _=>rfl)) (aJ (pv 3)))) (XN.r (iR (XN.r (iR (aJ (pv 1)) (aJ (pv 1)))) (XN.r (aG))))) (λh=>aZ pR.nd rfl (by first | exact B4 rfl | exact B3 rfl) h))
  (aL (bC (i:=4) (bD (aJ (pv 4)) (XN.r (aG))) (λh=>aZ pR.nd rfl (by first | exact B4 rfl | exact B3 rfl) h))
  (aX (bM (bD (XN.r (iR (aJ (pv 4)) (aJ (pv 4)))) (XN.r (aG)))))))))⟩
theorem Dp:bN ["script", "k", "some"] ["script", "k"] (aP xX):=by walk_at "fs"
theorem Nm(R:Raw K mg "_law_great" xX) (bF:gH P w K mg base "_law_draw" 1 2 (gK K 2 bQ)) (cG:mg "len" = none):gH P w K mg base "_law_great" 2 2 (gK K 2 cM):=by
 refine R.jT Dp (λ_ _ _ _ _ _ us hl=>match us,hl with | [_,_],_=>rfl) (λ_ _ _ _ _ _ _ hr=>?_)
 have cT:=hr.units
 have hu:=eN hr
 exact⟨_,aL (bC (i:=2) (bA bF (hr.mono (by decide)) rfl (aB (aJ (pv 0)) (aB (aJ (pv 1)) aM))) (λh=>aZ Dp.nd rfl (by first | exact B4 rfl | exact B3 rfl) h))
  (aL (cU (cB (or_eq cT rfl) eX (XN.r (bD (aJ (pv 2)) (XN.r (aG)))) (XN.r (aG)) (bI _)) (aX (bM (bD (XN.r (dF (aJ (pv 2)) (XN.r (aG)))) (XN.r (aG))))) cF)
  (aL (cU (cB (or_eq cT rfl) eX (XN.r (bD (aJ (pv 2)) (XN.r (aG)))) (XN.r (aG)) (bI _)) (aX (bM (dF (aJ (pv 2)) (XN.r (aG))))) cF)
  (aX (bM (bD (XN.r (cI (XN.r (wV (aJ (pv 2)) (XN.r (aG)))) (XN.r (bD (bJ (aJ (pv 0)) (XN.r (bD (aJ (pv 1)) (XN.r (cD bT (bU rfl) rfl cG A8 (aB (aJ (pv 0)) aM))))) (λ_ _=>rfl)) (XN.r (wV (XN.r (aG)) (XN.r (aG)))))))) (XN.r (wV (XN.r (aG)) (XN.r (aG)))))))))⟩
theorem jK:bN ["script", "panes", "seals", "pane", "some", "number"] ["script", "panes"] (aP xY):=by walk_at "fs"
theorem Np(R:Raw K mg "_law_seals" xY) (bF:gH P w K mg base "_law_draw" 1 2 (gK K 2 bQ)) (cA:gH P w K mg base "_law_great" 2 2 (gK K 2 cM)) (fH:mg "range" = none):gH P w K mg base "_law_seals" 3 2 (gK K 2 sS):=by
 refine R.jT jK (λ_ _ _ _ _ _ us hl=>match us,hl with | [_,_],_=>rfl) (λ_ _ _ _ _ _ _ hr=>?_)
 have cT:=hr.units
 have hu:=eN hr
 exact⟨_,aL (bC (i:=2) (rH fW) (λh=>aZ jK.nd rfl (by first | exact B4 rfl | exact B3 rfl) h))
  (aL (oK PassesOwn.never rfl (jP rfl fH (aB (aJ (pv 1)) aM)) (fK (i:=3) jK.nd rfl (by first | exact B4 rfl | exact B3 rfl)) (aL (bC (i:=4) (bA bF (hr.mono (by decide)) rfl (aB (aJ (pv 0)) (aB (XN.r (cI (XN.r (aG)) (aJ (pv 3)))) aM))) (λh=>aZ jK.nd rfl (by first | exact B4 rfl | exact B3 rfl) h))
  (aL (bC (i:=5) (cI (aJ (pv 3)) (XN.r (iR (aJ (pv 1)) (XN.r (bD (XN.r (dF (aJ (pv 4)) (XN.r (aG)))) (XN.r (aG))))))) (λh=>aZ jK.nd rfl (by first | exact B4 rfl | exact B3 rfl) h))
  (aL (cU (cB (or_eq cT rfl) eX (XN.r (bD (aJ (pv 4)) (XN.r (aG)))) (XN.r (aG)) (bI _)) (aX (bC (i:=5) aG (λh=>aZ jK.nd rfl (by first | exact B4 rfl | exact B3 rfl) h))) cF)
  (aL (cU (cB (or_eq cT rfl) eX (XN.r (bD (aJ (pv 4)) (XN.r (aG)))) (XN.r (aG)) (bI _)) (aX (bC (i:=5) (bA cA (hr.mono (by decide)) rfl (aB (aJ (pv 0)) (aB (XN.r (cI (XN.r (aG)) (aJ (pv 3)))) aM))) (λh=>aZ jK.nd rfl (by first | exact B4 rfl | exact B3 rfl) h))) cF)
  (aX (Jx (pA (pv 2)) (XR.n (aJ (pv 5))) (λa b=>oE (vH F1 J6 J7 mL a (cP b gP))))))))))
  (aX (oH (pv 2))))⟩
theorem jL:bN ["script", "many", "pool", "some", "count", "order", "k"] ["script", "many"] (aP sU):=by walk_at "fs"
theorem Nq(R:Raw K mg "_law_order" sU) (bF:gH P w K mg base "_law_draw" 1 2 (gK K 2 bQ)) (fH:mg "range" = none) (cG:mg "len" = none):gH P w K mg base "_law_order" 2 2 (gK K 2 pL):=by
 refine R.jT jL (λ_ _ _ _ _ _ us hl=>match us,hl with | [_,_],_=>rfl) (λ_ _ _ _ _ _ _ hr=>?_)
 have cT:=hr.units
 have hu:=eN hr
 exact⟨_,aL (qG (i:=2) ["box"] [] rfl (.at (aP sU) ["script", "many", "pool", "some", "count", "order", "k"] (by decide +kernel)) jL.nd rfl (by first | exact B4 rfl | exact B3 rfl) (uw (λh=>Vk rfl fH h) (aB (XN.r (aG)) (aB (aJ (pv 1)) aM))) (fZ (by decide +kernel) rfl rfl) (λ_ _ _ _ _=>fP) (λ_ _ _ _ _=>XR.n (aJ (pv 0))))
  (aL (bC (i:=3) (bA bF (hr.mono (by decide)) rfl (aB (aJ (pv 0)) (aB (XN.r (aG)) aM))) (λh=>aZ jL.nd rfl (by first | exact B4 rfl | exact B3 rfl) h))
  (aL (bC (i:=4) (lN (aJ (pv 1)) (XN.r (aG))) (λh=>aZ jL.nd rfl (by first | exact B4 rfl | exact B3 rfl) h))
  (aL (cU (cB (Fz cT rfl) Fy (XN.r (bD (aJ (pv 3)) (XN.r (aG)))) (XN.r (aG)) (bI _)) (aX (bC (i:=4) (bD (XN.r (dF (aJ (pv 3)) (XN.r (aG)))) (aJ (pv 1))) (λh=>aZ jL.nd rfl (by first | exact B4 rfl | exact B3 rfl) h))) cF)
  (aL (bC (i:=5) (rH fW) (λh=>aZ jL.nd rfl (by first | exact B4 rfl | exact B3 rfl) h))
  (aL (oK PassesOwn.never rfl (jP rfl fH (aB (aJ (pv 4)) aM)) (fK (i:=6) jL.nd rfl (by first | exact B4 rfl | exact B3 rfl)) (aX (Wi (i:=5) (j:=2) (XN.r (bD (XN.r (bA bF (hr.mono (by decide)) rfl (aB (aJ (pv 0)) (aB (XN.r (cI (XN.r (aG)) (XN.r (iR (XN.r (aG)) (aJ (pv 6)))))) aM)))) (XN.r (cD bT (bU rfl) rfl cG A8 (aB (aJ (pv 2)) aM))))) (λh=>oE (vH F1 J6 J7 mL (pv 5) (cP (vH F1 N1 N2 Aw (pv 2) (cP h gP)) gP))))))
  (aX (Uo (is:=[5,2]) (Qa (cP (pv 5) (cP (pv 2) (gP)))))))))))⟩
theorem Nr:bN ["script", "k", "seals", "some"] ["script", "k", "seals"] (aP Kf):=by walk_at "fs"
theorem Wq(R:Raw K mg "_law_age" Kf) (bF:gH P w K mg base "_law_draw" 1 2 (gK K 2 bQ)) (cA:gH P w K mg base "_law_great" 2 2 (gK K 2 cM)) (cG:mg "len" = none):gH P w K mg base "_law_age" 3 3 (gK K 3 vQ):=by
 refine R.jT Nr (λ_ _ _ _ _ _ us hl=>match us,hl with | [_,_,_],_=>rfl) (λ_ _ _ _ _ _ _ hr=>?_)
 have cT:=hr.units
 have hu:=eN hr
 exact⟨_,aL (bC (i:=3) (bA bF (hr.mono (by decide)) rfl (aB (aJ (pv 0)) (aB (aJ (pv 1)) aM))) (λh=>aZ Nr.nd rfl (by first | exact B4 rfl | exact B3 rfl) h))
  (aL (cU (cB An iI (XN.r (bD (aJ (pv 3)) (XN.r (aG)))) (XN.r (aG)) (bI _)) (aX (bM aG)) cF)
  (aL (cU (cB An iI (XN.r (bD (aJ (pv 3)) (XN.r (aG)))) (XN.r (aG)) (bI _)) (aX (bM (XR.n (bJ (aJ (pv 2)) (XN.r (bD (XN.r (dF (aJ (pv 3)) (XN.r (aG)))) (XN.r (cD bT (bU rfl) rfl cG A8 (aB (aJ (pv 2)) aM))))) (λ_ _=>rfl))))) cF)
  (aX (bM (bA cA (hr.mono (by decide)) rfl (aB (aJ (pv 0)) (aB (aJ (pv 1)) aM)))))))⟩
theorem Nt:bN ["script", "k"] ["script", "k"] (aP uO):=by walk_at "fs"
theorem Kl(R:Raw K mg "_law_amount" uO) (bF:gH P w K mg base "_law_draw" 1 2 (gK K 2 bQ)) (cA:gH P w K mg base "_law_great" 2 2 (gK K 2 cM)):gH P w K mg base "_law_amount" 3 2 (gK K 2 nR):=by
 refine R.jT Nt (λ_ _ _ _ _ _ us hl=>match us,hl with | [_,_],_=>rfl) (λ_ _ _ _ _ _ _ hr=>?_)
 have cT:=hr.units
 have hu:=eN hr
 exact⟨_,aL (cU (cB (or_eq cT rfl) eX (XN.r (bD (XN.r (dF (XN.r (bA bF (hr.mono (by decide)) rfl (aB (aJ (pv 0)) (aB (aJ (pv 1)) aM)))) (XN.r (aG)))) (XN.r (aG)))) (XN.r (aG)) (bI _)) (aX (bM (gA (XN.r (aG))))) cF)
  (aX (bM (bA cA (hr.mono (by decide)) rfl (aB (aJ (pv 0)) (aB (aJ (pv 1)) aM)))))⟩
theorem oO:bN ["script", "k", "key", "follow", "seals", "strung", "age", "now"] ["script", "k", "key", "follow", "seals", "strung"] (aP uP):=by walk_at "fs"
theorem Km(R:Raw K mg "_law_record" uP) (Ko:gH P w K mg base "_law_age" 3 3 (gK K 3 vQ)) (qO:gH P w K mg base "_law_amount" 3 2 (gK K 2 nR)):gH P w K mg base "_law_record" 4 6 (gK K 6 jJ):=by
 refine R.jT oO (λ_ _ _ _ _ _ us hl=>match us,hl with | [_,_,_,_,_,_],_=>rfl) (λ_ _ _ _ _ _ _ hr=>?_)
 have cT:=hr.units
 have hu:=eN hr
 exact⟨_,aL (bC (i:=6) (bA Ko (hr.mono (by decide)) rfl (aB (aJ (pv 0)) (aB (aJ (pv 1)) (aB (aJ (pv 4)) aM)))) (λh=>aZ oO.nd rfl (by first | exact B4 rfl | exact B3 rfl) h))
  (aL (bC (i:=7) (bA qO (hr.mono (by decide)) rfl (aB (aJ (pv 0)) (aB (XN.r (cI (aJ (pv 1)) (XN.r (aG)))) aM))) (λh=>aZ oO.nd rfl (by first | exact B4 rfl | exact B3 rfl) h))
  (aL (cU (XW.xt (Bu (lQ (aJ (pv 5))) (Bu (cB (or_eq cT rfl) eX (aJ (pv 6)) (XN.r (aG)) (bI _)) (zV (cB An iI (aJ (pv 7)) (XN.r (aG)) (bI _)))))) (aX (bC (i:=7) aG (λh=>aZ oO.nd rfl (by first | exact B4 rfl | exact B3 rfl) h))) cF)
  (aX (bM (kY (aY (XR.n (aJ (pv 2))) (aY (XR.n (aJ (pv 3))) (aY (bA qO (hr.mono (by decide)) rfl (aB (aJ (pv 0)) (aB (XN.r (cI (aJ (pv 1)) (XN.r (aG)))) aM))) (aY (XR.n (aJ (pv 7))) (aY (XR.n (aJ (pv 6))) fW))))))))))⟩
theorem cJ:bN ["script", "panes", "rows", "many", "seals", "order", "pool", "boxes", "key", "ways", "k", "at", "follow", "first", "stone", "pane"] ["script", "panes", "rows"] (aP pM):=by walk_at "fs"
theorem Nu(R:Raw K mg "_law_stone" pM) (yJ:gH P w K mg base "_law_seals" 3 2 (gK K 2 sS)) (yK:gH P w K mg base "_law_order" 2 2 (gK K 2 pL)) (cA:gH P w K mg base "_law_great" 2 2 (gK K 2 cM)) (nT:gH P w K mg base "_law_record" 4 6 (gK K 6 jJ)) (bF:gH P w K mg base "_law_draw" 1 2 (gK K 2 bQ)) (fH:mg "range" = none) (cG:mg "len" = none):gH P w K mg base "_law_stone" 5 3 (gK K 3 pN):=by
 refine R.jT cJ (λ_ _ _ _ _ _ us hl=>match us,hl with | [_,_,_],_=>rfl) (λ_ _ _ _ _ _ _ hr=>?_)
 have cT:=hr.units
 have hu:=eN hr
 exact⟨_,aL (bC (i:=3) (iR (aJ (pv 1)) (aJ (pv 2))) (λh=>aZ cJ.nd rfl (by first | exact B4 rfl | exact B3 rfl) h))
  (aL (bC (i:=4) (bA yJ (hr.mono (by decide)) rfl (aB (aJ (pv 0)) (aB (aJ (pv 1)) aM))) (λh=>aZ cJ.nd rfl (by first | exact B4 rfl | exact B3 rfl) h))
  (aL (Gj (is:=[5,6]) (n:=2) (bA yK (hr.mono (by decide)) rfl (aB (aJ (pv 0)) (aB (aJ (pv 3)) aM))) (λh=>jH h (Pu rfl (mX (fK (i:=5) cJ.nd rfl (by first | exact B4 rfl | exact B3 rfl)) (mX (fK (i:=6) cJ.nd rfl (by first | exact B4 rfl | exact B3 rfl)) (Ik))))))
  (aL (bC (i:=7) (mD ["box"] [] rfl (.at (aP pM) ["script", "panes", "rows", "many", "seals", "order", "pool", "boxes", "key", "ways", "k", "at", "follow", "first", "stone", "pane"] (by decide +kernel)) (xK rfl fH (aB (aJ (pv 3)) aM)) (fZ (by decide +kernel) rfl rfl) (λ_ _ _ _ _=>fP) (λ_ _ _ _ _=>kY (aY aG (aY aG (aY (gA (XN.r (aG))) (aY (gA (XN.r (aG))) (aY aG fW))))))) (λh=>aZ cJ.nd rfl (by first | exact B4 rfl | exact B3 rfl) h))
  (aL (bC (i:=8) (lN (XN.r (bA cA (hr.mono (by decide)) rfl (aB (aJ (pv 0)) (aB (XN.r (aG)) aM)))) (XN.r (wV (XN.r (aG)) (XN.r (aG))))) (λh=>aZ cJ.nd rfl (by first | exact B4 rfl | exact B3 rfl) h))
  (aL (bC (i:=9) (cI (Bx (aJ (pv 5)) (Js (XN.r (aG))) (Jr)) (Br (aB (XN.r (aG)) aM))) (λh=>aZ cJ.nd rfl (by first | exact B4 rfl | exact B3 rfl) h))
  (aL (oK PassesOwn.never rfl (jP rfl fH (aB (XN.r (cD bT (bU rfl) rfl cG A8 (aB (aJ (pv 5)) aM))) aM)) (fK (i:=10) cJ.nd rfl (by first | exact B4 rfl | exact B3 rfl)) (aL (bC (i:=8) (cI (XN.r (cI (aJ (pv 8)) (XN.r (aG)))) (XN.r (bD (XN.r (bA cA (hr.mono (by decide)) rfl (aB (aJ (pv 0)) (aB (XN.r (cI (XN.r (aG)) (XN.r (iR (XN.r (aG)) (aJ (pv 10)))))) aM)))) (XN.r (wV (XN.r (aG)) (XN.r (aG))))))) (λh=>aZ cJ.nd rfl (by first | exact B4 rfl | exact B3 rfl) h))
  (aX (lD (pA (pv 7)) (bJ (aJ (pv 5)) (aJ (pv 10)) (λ_ _=>rfl)) (bA nT (hr.mono (by decide)) rfl (aB (aJ (pv 0)) (aB (XN.r (cI (XN.r (aG)) (XN.r (iR (XN.r (aG)) (aJ (pv 10)))))) (aB (aJ (pv 8)) (aB (bJ (aJ (pv 9)) (aJ (pv 10)) (λ_ _=>rfl)) (aB (aJ (pv 4)) (aB (XN.r (iJ)) aM))))))) (λa b c=>jH c (kJ a b set_list))))))
  (aL (oK PassesOwn.never rfl (jP rfl fH (aB (XN.r (cD bT (bU rfl) rfl cG A8 (aB (aJ (pv 6)) aM))) aM)) (fK (i:=10) cJ.nd rfl (by first | exact B4 rfl | exact B3 rfl)) (aL (bC (i:=11) (cI (XN.r (aG)) (XN.r (iR (XN.r (aG)) (XN.r (cI (XN.r (cD bT (bU rfl) rfl cG A8 (aB (aJ (pv 5)) aM))) (aJ (pv 10))))))) (λh=>aZ cJ.nd rfl (by first | exact B4 rfl | exact B3 rfl) h))
  (aL (bC (i:=12) (bD (XN.r (bA bF (hr.mono (by decide)) rfl (aB (aJ (pv 0)) (aB (aJ (pv 11)) aM)))) (aJ (pv 3))) (λh=>aZ cJ.nd rfl (by first | exact B4 rfl | exact B3 rfl) h))
  (aX (lD (pA (pv 7)) (bJ (aJ (pv 6)) (aJ (pv 10)) (λ_ _=>rfl)) (bA nT (hr.mono (by decide)) rfl (aB (aJ (pv 0)) (aB (XN.r (cI (aJ (pv 11)) (XN.r (aG)))) (aB (XN.r (bA cA (hr.mono (by decide)) rfl (aB (aJ (pv 0)) (aB (XN.r (cI (aJ (pv 11)) (XN.r (aG)))) aM)))) (aB (aJ (pv 12)) (aB (aJ (pv 4)) (aB (XN.r (iJ)) aM))))))) (λa b c=>jH c (kJ a b set_list)))))))
  (aL (bC (i:=13) aG (λh=>aZ cJ.nd rfl (by first | exact B4 rfl | exact B3 rfl) h))
  (aL (cU (cB TF iI (XN.r (cD bT (bU rfl) rfl cG A8 (aB (aJ (pv 5)) aM))) (XN.r (aG)) (bI _)) (aX (bC (i:=13) (XR.n (bJ (aJ (pv 5)) (XN.r (aG)) (λ_ _=>rfl))) (λh=>aZ cJ.nd rfl (by first | exact B4 rfl | exact B3 rfl) h))) cF)
  (aL (lD (pA (pv 7)) (XN.r (aG)) (bA nT (hr.mono (by decide)) rfl (aB (aJ (pv 0)) (aB (XN.r (aG)) (aB (XN.r (lN (XN.r (bA cA (hr.mono (by decide)) rfl (aB (aJ (pv 0)) (aB (XN.r (aG)) aM)))) (XN.r (wV (XN.r (aG)) (XN.r (aG)))))) (aB (aJ (pv 13)) (aB (aJ (pv 4)) (aB (XN.r (iJ)) aM))))))) (λa b c=>jH c (kJ a b set_list)))
  (aL (bC (i:=14) (rH fW) (λh=>aZ cJ.nd rfl (by first | exact B4 rfl | exact B3 rfl) h))
  (aL (oK PassesOwn.never rfl (jP rfl fH (aB (aJ (pv 1)) aM)) (fK (i:=15) cJ.nd rfl (by first | exact B4 rfl | exact B3 rfl)) (aX (Jx (pA (pv 14)) (cI (XN.r (mD ["place", "boxes", "pane", "panes"] [7,15,1] rfl (.at (aP pM) ["script", "panes", "rows", "many", "seals", "order", "pool", "boxes", "key", "ways", "k", "at", "follow", "first", "stone", "pane"] (by decide +kernel)) (xK rfl fH (aB (aJ (pv 2)) aM)) (fZ (by decide +kernel) rfl rfl) (λ_ _ _ _ _=>fP) (λ_ _ _ _ _=>XR.n (bJ (aJ (pv 1)) (XN.r (cI (aJ (pv 2)) (XN.r (iR (aJ (pv 3)) (aJ (pv 0)))))) (λ_ _=>rfl))))) (Br (aB (XN.r (kY (aY (XR.n (bJ (aJ (pv 4)) (aJ (pv 15)) (λ_ _=>rfl))) fW))) aM))) (λa b=>oE (vH F1 J6 J7 mL a (cP b gP))))))
  (aX (Uo (is:=[14,5,6]) (Qa (cP (pv 14) (cP (pv 5) (cP (pv 6) (gP)))))))))))))))))))⟩
theorem Nv:bN ["stone"] ["stone"] (aP uQ):=by walk_at "fs"
theorem Kq(R:Raw K mg "many_boxes" uQ) (cG:mg "len" = none):gH P w K mg base "many_boxes" 1 1 (gK K 1 qJ):=by
 refine R.jT Nv (λ_ _ _ _ _ _ us hl=>match us,hl with | [_],_=>rfl) (λ_ _ _ _ _ _ _ hr=>?_)
 have cT:=hr.units
 have hu:=eN hr
 exact⟨_,aX (bM (iR (XN.r (cD bT (bU rfl) rfl cG A8 (aB (aJ (pv 0)) aM))) (XN.r (lN (XN.r (cD bT (bU rfl) rfl cG A8 (aB (bJ (aJ (pv 0)) (XN.r (aG)) (λ_ _=>rfl)) aM))) (XN.r (aG))))))⟩
theorem DW:bN ["thing"] ["thing"] (aP vR):=by walk_at "fs"
theorem Wr(R:Raw K mg "is_grid" vR) (cG:mg "len" = none) (bK:mg "isinstance" = none) (fU:mg "list" = none) (tU:mg "all" = none):gH P w K mg base "is_grid" 1 1 (gK K 1 jX):=by
 refine R.jT DW (λ_ _ _ _ _ _ us hl=>match us,hl with | [_],_=>rfl) (λ_ _ _ _ _ _ _ hr=>?_)
 have cT:=hr.units
 have hu:=eN hr
 exact⟨_,aL (cU (XW.xt (Ga (nC (lQ (XN.r (pB (aJ (pv 0)) (lB (v:=.ty "list") rfl fU E4 rfl) rfl bK)))) (wY (nC (BP Lq Lq iI iI (XN.r (aG)) (XN.r (cD bT (bU rfl) rfl cG A8 (aB (aJ (pv 0)) aM))) (XN.r (aG))))))) (aX (bM (iJ))) cF)
  (aL (cU (nC (lQ (XN.r (cD xG (xH rfl) rfl tU J3 (aB (XN.r (mD ["pane"] [] rfl (.at (aP vR) ["thing"] (by decide +kernel)) (kZ (aJ (pv 0))) (fZ (by decide +kernel) rfl rfl) (λ_ _ _ _ _=>fP) (λ_ _ _ _ _=>pB (aJ (pv 0)) (lB (v:=.ty "list") rfl fU E4 rfl) rfl bK))) aM))))) (aX (bM (iJ))) cF)
  (aX (bM (lR (XN.r (Mu Lq Lq iI iI (XN.r (aG)) (XN.r (cD bT (bU rfl) rfl cG A8 (aB (bJ (aJ (pv 0)) (XN.r (aG)) (λ_ _=>rfl)) aM))) (XN.r (aG)))) (mC (cD xG (xH rfl) rfl tU J3 (aB (XN.r (mD ["pane", "thing"] [0] rfl (.at (aP vR) ["thing"] (by decide +kernel)) (kZ (aJ (pv 0))) (fZ (by decide +kernel) rfl rfl) (λ_ _ _ _ _=>fP) (λ_ _ _ _ _=>lO (or_eq cT rfl) eX (XN.r (cD bT (bU rfl) rfl cG A8 (aB (aJ (pv 0)) aM))) (XN.r (cD bT (bU rfl) rfl cG A8 (aB (bJ (aJ (pv 1)) (XN.r (aG)) (λ_ _=>rfl)) aM))) (bI _)))) aM)))))))⟩
theorem Ws:bN ["stone", "spot"] ["stone", "spot"] (aP Dj):=by walk_at "fs"
theorem Rm(R:Raw K mg "thing_at" Dj):gH P w K mg base "thing_at" 1 2 (gK K 2 rM):=by
 refine R.jT Ws (λ_ _ _ _ _ _ us hl=>match us,hl with | [_,_],_=>rfl) (λ_ _ _ _ _ _ _ hr=>?_)
 have cT:=hr.units
 have hu:=eN hr
 exact⟨_,aX (bM (XR.n (bJ (bJ (aJ (pv 0)) (bJ (aJ (pv 1)) (XN.r (aG)) (λ_ _=>rfl)) (λ_ _=>rfl)) (bJ (aJ (pv 1)) (XN.r (aG)) (λ_ _=>rfl)) (λ_ _=>rfl))))⟩
theorem DX:bN ["stone", "box"] ["stone", "box"] (aP Kg):=by walk_at "fs"
theorem Wt(R:Raw K mg "spot_of" Kg) (cG:mg "len" = none):gH P w K mg base "spot_of" 1 2 (gK K 2 Ae):=by
 refine R.jT DX (λ_ _ _ _ _ _ us hl=>match us,hl with | [_,_],_=>rfl) (λ_ _ _ _ _ _ _ hr=>?_)
 have cT:=hr.units
 have hu:=eN hr
 exact⟨_,aX (bM (kY (aY (bD (aJ (pv 1)) (XN.r (cD bT (bU rfl) rfl cG A8 (aB (aJ (pv 0)) aM)))) (aY (dF (aJ (pv 1)) (XN.r (cD bT (bU rfl) rfl cG A8 (aB (aJ (pv 0)) aM)))) fW))))⟩
theorem Rn:bN ["stone", "box"] ["stone", "box"] (aP yC):=by walk_at "fs"
theorem Nx(R:Raw K mg "record_at" yC) (Kr:gH P w K mg base "spot_of" 1 2 (gK K 2 Ae)) (Dq:gH P w K mg base "thing_at" 1 2 (gK K 2 rM)):gH P w K mg base "record_at" 2 2 (gK K 2 fJ):=by
 refine R.jT Rn (λ_ _ _ _ _ _ us hl=>match us,hl with | [_,_],_=>rfl) (λ_ _ _ _ _ _ _ hr=>?_)
 have cT:=hr.units
 have hu:=eN hr
 exact⟨_,aX (bM (bA Dq (hr.mono (by decide)) rfl (aB (aJ (pv 0)) (aB (XN.r (bA Kr (hr.mono (by decide)) rfl (aB (aJ (pv 0)) (aB (aJ (pv 1)) aM)))) aM))))⟩
theorem qP:bN ["stone", "found", "box"] ["stone"] (aP yD):=by walk_at "fs"
theorem Ny(R:Raw K mg "string_of" yD) (jQ:gH P w K mg base "record_at" 2 2 (gK K 2 fJ)) (fU:mg "list" = none) (zJ:iZ mg "HEAD" (0)) (uA:iZ mg "NEXT" (1)):gH P w K mg base "string_of" 3 1 (gK K 1 pO):=by
 refine R.jT qP (λ_ _ _ _ _ _ us hl=>match us,hl with | [_],_=>rfl) (λ_ _ _ _ _ _ _ hr=>?_)
 have cT:=hr.units
 have hu:=eN hr
 exact⟨_,aL (bC (i:=1) (Ug) (λh=>aZ qP.nd rfl (by first | exact B4 rfl | exact B3 rfl) h))
  (aL (bC (i:=2) (XR.n (bJ (XN.r (bA jQ (hr.mono (by decide)) rfl (aB (aJ (pv 0)) (aB (XN.r (kI zJ rfl)) aM)))) (XN.r (kI uA rfl)) (λ_ _=>rfl))) (λh=>aZ qP.nd rfl (by first | exact B4 rfl | exact B3 rfl) h))
  (aL (Zz 400 PassesOwn.never (XW.xt (Bu (cB (Fz cT rfl) Fy (aJ (pv 2)) (XN.r (kI zJ rfl)) (bI _)) (zV (Wd hu (aJ (pv 2)) (aJ (pv 1)))))) (aL (PN (pA (pv 1)) (aJ (pv 2)) (XN.r (iJ)) (λa b c=>KR hu a b c rfl))
  (aX (bC (i:=2) (XR.n (bJ (XN.r (bA jQ (hr.mono (by decide)) rfl (aB (aJ (pv 0)) (aB (aJ (pv 2)) aM)))) (XN.r (kI uA rfl)) (λ_ _=>rfl))) (λh=>aZ qP.nd rfl (by first | exact B4 rfl | exact B3 rfl) h)))))
  (aX (bM (vL Zt (Bc rfl) rfl fU E4 (aB (aJ (pv 1)) aM))))))⟩
theorem lW:bN ["stone", "boxes", "records"] ["stone"] (aP gD):=by walk_at "fs"
theorem yL(R:Raw K mg "is_sound_string" gD) (yM:gH P w K mg base "string_of" 3 1 (gK K 1 pO)) (jQ:gH P w K mg base "record_at" 2 2 (gK K 2 fJ)) (ji:mg "any" = none) (jj:mg "zip" = none) (tU:mg "all" = none) (zJ:iZ mg "HEAD" (0)) (uA:iZ mg "NEXT" (1)) (Wu:iZ mg "NOW" (3)) (Dr:iZ mg "NONE" (-1)) (Wv:iZ mg "AGE" (4)) (QZ:iZ mg "KEY" (0)):gH P w K mg base "is_sound_string" 4 1 (gK K 1 eQ):=by
 refine R.jT lW (λ_ _ _ _ _ _ us hl=>match us,hl with | [_],_=>rfl) (λ_ _ _ _ _ _ _ hr=>?_)
 have cT:=hr.units
 have hu:=eN hr
 exact⟨_,aL (bC (i:=1) (bA yM (hr.mono (by decide)) rfl (aB (aJ (pv 0)) aM)) (λh=>aZ lW.nd rfl (by first | exact B4 rfl | exact B3 rfl) h))
  (aL (cU (cB (Fz cT rfl) Fy (bJ (XN.r (bA jQ (hr.mono (by decide)) rfl (aB (aJ (pv 0)) (aB (bJ (XN.r (cI (Br (aB (XN.r (kI zJ rfl)) aM)) (aJ (pv 1)))) (XN.r (gA (XN.r (aG)))) (λ_ _=>rfl)) aM)))) (XN.r (kI uA rfl)) (λ_ _=>rfl)) (XN.r (kI zJ rfl)) (bI _)) (aX (bM (iJ))) cF)
  (aL (qG (i:=2) ["box", "stone"] [0] rfl (.at (aP gD) ["stone", "boxes", "records"] (by decide +kernel)) lW.nd rfl (by first | exact B4 rfl | exact B3 rfl) (kZ (aJ (pv 1))) (fZ (by decide +kernel) rfl rfl) (λ_ _ _ _ _=>fP) (λ_ _ _ _ _=>bA jQ (hr.mono (by decide)) rfl (aB (aJ (pv 1)) (aB (aJ (pv 0)) aM))))
  (aL (cU (lQ (XN.r (cD dw (dz rfl) rfl ji PyProof.Rows.boot_any (aB (XN.r (mD ["record"] [] rfl (.at (aP gD) ["stone", "boxes", "records"] (by decide +kernel)) (kZ (aJ (pv 2))) (fZ (by decide +kernel) rfl rfl) (λ_ _ _ _ _=>fP) (λ_ _ _ _ _=>lR (XN.r (lO (or_eq cT rfl) eX (bJ (aJ (pv 0)) (XN.r (kI Wv rfl)) (λ_ _=>rfl)) (XN.r (aG)) (bI _))) (mC (lO (or_eq cT rfl) eX (bJ (aJ (pv 0)) (XN.r (kI Wu rfl)) (λ_ _=>rfl)) (XN.r (kI Dr rfl)) (bI _)))))) aM)))) (aX (bM (iJ))) cF)
  (aX (bM (cD xG (xH rfl) rfl tU J3 (aB (XN.r (BW ["low", "high"] [] rfl (.at (aP gD) ["stone", "boxes", "records"] (by decide +kernel)) (aJ (pv 2)) (Bx (aJ (pv 2)) (Js (XN.r (aG))) (Jr)) rfl jj PyProof.Rows.boot_zip (QF rfl (by decide +kernel) rfl rfl rfl rfl) (λ_ _ _ _ _=>fP) (λ_ _ _ _ _=>lO An iI (bJ (aJ (pv 0)) (XN.r (kI QZ rfl)) (λ_ _=>rfl)) (bJ (aJ (pv 1)) (XN.r (kI QZ rfl)) (λ_ _=>rfl)) (bI _)))) aM)))))))⟩
theorem Ww:bN ["value"] ["value"] (aP Dk):=by walk_at "fs"
theorem Ro(R:Raw K mg "is_whole" Dk) (bK:mg "isinstance" = none) (Ho:mg "bool" = none) (Ks:mg "int" = none):gH P w K mg base "is_whole" 1 1 (gK K 1 iG):=by
 refine R.jT Ww (λ_ _ _ _ _ _ us hl=>match us,hl with | [_],_=>rfl) (λ_ _ _ _ _ _ _ hr=>?_)
 have cT:=hr.units
 have hu:=eN hr
 exact⟨_,aX (bM (lR (XN.r (pB (aJ (pv 0)) (lB (v:=.ty "int") rfl Ks N3 rfl) rfl bK)) (mC (Zq (XN.r (pB (aJ (pv 0)) (lB (v:=.ty "bool") rfl Ho Q6 rfl) rfl bK))))))⟩
theorem Rp:bN ["thing", "many"] ["thing", "many"] (aP sV):=by walk_at "fs"
theorem Nz(R:Raw K mg "are_whole" sV) (Ds:gH P w K mg base "is_whole" 1 1 (gK K 1 iG)) (tU:mg "all" = none) (cG:mg "len" = none) (bK:mg "isinstance" = none) (jM:mg "tuple" = none):gH P w K mg base "are_whole" 2 2 (gK K 2 dZ):=by
 refine R.jT Rp (λ_ _ _ _ _ _ us hl=>match us,hl with | [_,_],_=>rfl) (λ_ _ _ _ _ _ _ hr=>?_)
 have cT:=hr.units
 have hu:=eN hr
 exact⟨_,aX (bM (lR (XN.r (pB (aJ (pv 0)) (lB (v:=.ty "tuple") rfl jM K0 rfl) rfl bK)) (lR (XN.r (lO (or_eq cT rfl) eX (XN.r (cD bT (bU rfl) rfl cG A8 (aB (aJ (pv 0)) aM))) (aJ (pv 1)) (bI _))) (mC (cD xG (xH rfl) rfl tU J3 (aB (XN.r (mD ["number"] [] rfl (.at (aP sV) ["thing", "many"] (by decide +kernel)) (kZ (aJ (pv 0))) (fZ (by decide +kernel) rfl rfl) (λ_ _ _ _ _=>fP) (λ_ _ _ _ _=>bA Ds (hr.mono (by decide)) rfl (aB (aJ (pv 0)) aM)))) aM))))))⟩
theorem DY:bN ["thing"] ["thing"] (aP Kh):=by walk_at "fs"
theorem Wx(R:Raw K mg "is_seal" Kh) (mU:gH P w K mg base "are_whole" 2 2 (gK K 2 dZ)):gH P w K mg base "is_seal" 3 1 (gK K 1 mJ):=by
 refine R.jT DY (λ_ _ _ _ _ _ us hl=>match us,hl with | [_],_=>rfl) (λ_ _ _ _ _ _ _ hr=>?_)
 have cT:=hr.units
 have hu:=eN hr
 exact⟨_,aX (bM (lR (XN.r (bA mU (hr.mono (by decide)) rfl (aB (aJ (pv 0)) (aB (XN.r (aG)) aM)))) (mC (lO Ti iI (bJ (aJ (pv 0)) (XN.r (aG)) (λ_ _=>rfl)) (XN.r (aG)) (bI _)))))⟩
theorem Rq:bN ["thing", "boxes"] ["thing", "boxes"] (aP yE):=by walk_at "fs"
theorem Oa(R:Raw K mg "is_record" yE) (mU:gH P w K mg base "are_whole" 2 2 (gK K 2 dZ)) (Wv:iZ mg "AGE" (4)) (Wu:iZ mg "NOW" (3)) (Dr:iZ mg "NONE" (-1)) (jk:iZ mg "WAS" (2)) (uA:iZ mg "NEXT" (1)):gH P w K mg base "is_record" 3 2 (gK K 2 dC):=by
 refine R.jT Rq (λ_ _ _ _ _ _ us hl=>match us,hl with | [_,_],_=>rfl) (λ_ _ _ _ _ _ _ hr=>?_)
 have cT:=hr.units
 have hu:=eN hr
 exact⟨_,aL (cU (nC (lQ (XN.r (bA mU (hr.mono (by decide)) rfl (aB (aJ (pv 0)) (aB (XN.r (aG)) aM)))))) (aX (bM (iJ))) cF)
  (aX (bM (lR (XN.r (Mu Lq An iI iI (XN.r (aG)) (bJ (aJ (pv 0)) (XN.r (kI uA rfl)) (λ_ _=>rfl)) (aJ (pv 1)))) (lR (XN.r (lO Ti iI (bJ (aJ (pv 0)) (XN.r (kI jk rfl)) (λ_ _=>rfl)) (XN.r (kI Dr rfl)) (bI _))) (lR (XN.r (lO Ti iI (bJ (aJ (pv 0)) (XN.r (kI Wu rfl)) (λ_ _=>rfl)) (XN.r (kI Dr rfl)) (bI _))) (mC (lO Ti iI (bJ (aJ (pv 0)) (XN.r (kI Wv rfl)) (λ_ _=>rfl)) (XN.r (aG)) (bI _))))))))⟩
theorem Ku:bN ["pane", "boxes"] ["pane", "boxes"] (aP oM):=by walk_at "fs"
theorem Et(R:Raw K mg "is_full_pane" oM) (yN:gH P w K mg base "is_record" 3 2 (gK K 2 dC)) (Kv:gH P w K mg base "is_seal" 3 1 (gK K 1 mJ)) (tU:mg "all" = none):gH P w K mg base "is_full_pane" 4 2 (gK K 2 cQ):=by
 refine R.jT Ku (λ_ _ _ _ _ _ us hl=>match us,hl with | [_,_],_=>rfl) (λ_ _ _ _ _ _ _ hr=>?_)
 have cT:=hr.units
 have hu:=eN hr
 exact⟨_,aX (bM (lR (XN.r (bA Kv (hr.mono (by decide)) rfl (aB (bJ (aJ (pv 0)) (XN.r (gA (XN.r (aG)))) (λ_ _=>rfl)) aM))) (mC (cD xG (xH rfl) rfl tU J3 (aB (XN.r (mD ["thing", "boxes"] [1] rfl (.at (aP oM) ["pane", "boxes"] (by decide +kernel)) (kZ (Bx (aJ (pv 0)) (Jr) (Js (XN.r (gA (XN.r (aG))))))) (fZ (by decide +kernel) rfl rfl) (λ_ _ _ _ _=>fP) (λ_ _ _ _ _=>bA yN (hr.mono (by decide)) rfl (aB (aJ (pv 0)) (aB (aJ (pv 1)) aM))))) aM)))))⟩
theorem Hq:bN ["thing", "boxes"] ["thing"] (aP vV):=by walk_at "fs"
theorem Rr(R:Raw K mg "is_sound" vV) (Kw:gH P w K mg base "is_grid" 1 1 (gK K 1 jX)) (uR:gH P w K mg base "many_boxes" 1 1 (gK K 1 qJ)) (nU:gH P w K mg base "is_sound_string" 4 1 (gK K 1 eQ)) (rO:gH P w K mg base "is_full_pane" 4 2 (gK K 2 cQ)) (tU:mg "all" = none):gH P w K mg base "is_sound" 5 1 (gK K 1 bV):=by
 refine R.jT Hq (λ_ _ _ _ _ _ us hl=>match us,hl with | [_],_=>rfl) (λ_ _ _ _ _ _ _ hr=>?_)
 have cT:=hr.units
 have hu:=eN hr
 exact⟨_,aL (cU (nC (lQ (XN.r (bA Kw (hr.mono (by decide)) rfl (aB (aJ (pv 0)) aM))))) (aX (bM (iJ))) cF)
  (aL (bC (i:=1) (bA uR (hr.mono (by decide)) rfl (aB (aJ (pv 0)) aM)) (λh=>aZ Hq.nd rfl (by first | exact B4 rfl | exact B3 rfl) h))
  (aX (bM (lR (XN.r (cD xG (xH rfl) rfl tU J3 (aB (XN.r (mD ["pane", "boxes"] [1] rfl (.at (aP vV) ["thing", "boxes"] (by decide +kernel)) (kZ (aJ (pv 0))) (fZ (by decide +kernel) rfl rfl) (λ_ _ _ _ _=>fP) (λ_ _ _ _ _=>bA rO (hr.mono (by decide)) rfl (aB (aJ (pv 0)) (aB (aJ (pv 1)) aM))))) aM))) (mC (bA nU (hr.mono (by decide)) rfl (aB (aJ (pv 0)) aM)))))))⟩
theorem Rt:bN ["some"] ["some"] (aP yG):=by walk_at "fs"
theorem Ob(R:Raw K mg "_law_whole" yG) (bK:mg "isinstance" = none) (Ho:mg "bool" = none) (Ks:mg "int" = none):gH P w K mg base "_law_whole" 1 1 (gK K 1 sW):=by
 refine R.jT Rt (λ_ _ _ _ _ _ us hl=>match us,hl with | [_],_=>rfl) (λ_ _ _ _ _ _ _ hr=>?_)
 have cT:=hr.units
 have hu:=eN hr
 exact⟨_,aX (bM (lR (XN.r (pB (aJ (pv 0)) (lB (v:=.ty "int") rfl Ks N3 rfl) rfl bK)) (mC (Zq (XN.r (pB (aJ (pv 0)) (lB (v:=.ty "bool") rfl Ho Q6 rfl) rfl bK))))))⟩
theorem Dt:bN ["told", "due", "number"] ["told", "due"] (aP yH):=by walk_at "fs"
theorem Oc(R:Raw K mg "_law_tuple" yH) (yO:gH P w K mg base "_law_whole" 1 1 (gK K 1 sW)) (cG:mg "len" = none) (bK:mg "isinstance" = none) (jM:mg "tuple" = none):gH P w K mg base "_law_tuple" 2 2 (gK K 2 pP):=by
 refine R.jT Dt (λ_ _ _ _ _ _ us hl=>match us,hl with | [_,_],_=>rfl) (λ_ _ _ _ _ _ _ hr=>?_)
 have cT:=hr.units
 have hu:=eN hr
 exact⟨_,aL (cU (XW.xt (Ga (nC (lQ (XN.r (pB (aJ (pv 0)) (lB (v:=.ty "tuple") rfl jM K0 rfl) rfl bK)))) (wY (cB (Fz cT rfl) Fy (XN.r (cD bT (bU rfl) rfl cG A8 (aB (aJ (pv 0)) aM))) (XN.r (cD bT (bU rfl) rfl cG A8 (aB (aJ (pv 1)) aM))) (bI _))))) (aX (bM (iJ))) cF)
  (aL (gq [] PassesOwn.never rfl (kZ (aJ (pv 0))) (fK (i:=2) Dt.nd rfl (by first | exact B4 rfl | exact B3 rfl)) (aX (cU (nC (lQ (XN.r (bA yO (hr.mono (by decide)) rfl (aB (aJ (pv 2)) aM))))) (aX (bM (iJ))) cF)))
  (aX (bM (lO (or_eq cT rfl) eX (aJ (pv 0)) (aJ (pv 1)) (bI _)))))⟩
theorem uT:bN ["told", "due", "k", "j"] ["told", "due"] (aP yI):=by walk_at "fs"
theorem Od(R:Raw K mg "_law_alike" yI) (yP:gH P w K mg base "_law_tuple" 2 2 (gK K 2 pP)) (cG:mg "len" = none) (bK:mg "isinstance" = none) (fU:mg "list" = none) (fH:mg "range" = none):gH P w K mg base "_law_alike" 3 2 (gK K 2 pQ):=by
 refine R.jT uT (λ_ _ _ _ _ _ us hl=>match us,hl with | [_,_],_=>rfl) (λ_ _ _ _ _ _ _ hr=>?_)
 have cT:=hr.units
 have hu:=eN hr
 exact⟨_,aL (cU (XW.xt (Ga (nC (lQ (XN.r (pB (aJ (pv 0)) (lB (v:=.ty "list") rfl fU E4 rfl) rfl bK)))) (wY (cB (Fz cT rfl) Fy (XN.r (cD bT (bU rfl) rfl cG A8 (aB (aJ (pv 0)) aM))) (XN.r (cD bT (bU rfl) rfl cG A8 (aB (aJ (pv 1)) aM))) (bI _))))) (aX (bM (iJ))) cF)
  (aL (oK PassesOwn.never rfl (jP rfl fH (aB (XN.r (cD bT (bU rfl) rfl cG A8 (aB (aJ (pv 1)) aM))) aM)) (fK (i:=2) uT.nd rfl (by first | exact B4 rfl | exact B3 rfl)) (aL (cU (XW.xt (Ga (nC (lQ (XN.r (pB (bJ (aJ (pv 0)) (aJ (pv 2)) (λ_ _=>rfl)) (lB (v:=.ty "list") rfl fU E4 rfl) rfl bK)))) (wY (cB (Fz cT rfl) Fy (XN.r (cD bT (bU rfl) rfl cG A8 (aB (bJ (aJ (pv 0)) (aJ (pv 2)) (λ_ _=>rfl)) aM))) (XN.r (cD bT (bU rfl) rfl cG A8 (aB (bJ (aJ (pv 1)) (aJ (pv 2)) (λ_ _=>rfl)) aM))) (bI _))))) (aX (bM (iJ))) cF)
  (aX (oK PassesOwn.never rfl (jP rfl fH (aB (XN.r (cD bT (bU rfl) rfl cG A8 (aB (bJ (aJ (pv 1)) (aJ (pv 2)) (λ_ _=>rfl)) aM))) aM)) (fK (i:=3) uT.nd rfl (by first | exact B4 rfl | exact B3 rfl)) (aX (cU (nC (lQ (XN.r (bA yP (hr.mono (by decide)) rfl (aB (bJ (bJ (aJ (pv 0)) (aJ (pv 2)) (λ_ _=>rfl)) (aJ (pv 3)) (λ_ _=>rfl)) (aB (bJ (bJ (aJ (pv 1)) (aJ (pv 2)) (λ_ _=>rfl)) (aJ (pv 3)) (λ_ _=>rfl)) aM)))))) (aX (bM (iJ))) cF))))))
  (aX (bM (iJ))))⟩
theorem pU:bN ["script", "thing", "many", "some", "row", "at"] ["script", "thing", "many"] (aP Dl):=by walk_at "fs"
theorem Ru(R:Raw K mg "_law_bent" Dl) (bF:gH P w K mg base "_law_draw" 1 2 (gK K 2 bQ)) (cA:gH P w K mg base "_law_great" 2 2 (gK K 2 cM)) (fU:mg "list" = none) (cG:mg "len" = none) (jM:mg "tuple" = none):gH P w K mg base "_law_bent" 3 3 (gK K 3 vX):=by
 refine R.jT pU (λ_ _ _ _ _ _ us hl=>match us,hl with | [_,_,_],_=>rfl) (λ_ _ _ _ _ _ _ hr=>?_)
 have cT:=hr.units
 have hu:=eN hr
 exact⟨_,aL (bC (i:=3) (bA bF (hr.mono (by decide)) rfl (aB (aJ (pv 0)) (aB (XN.r (aG)) aM))) (λh=>aZ pU.nd rfl (by first | exact B4 rfl | exact B3 rfl) h))
  (aL (bC (i:=4) (vL rY (rZ rfl) rfl fU E4 (aB (aJ (pv 1)) aM)) (λh=>aZ pU.nd rfl (by first | exact B4 rfl | exact B3 rfl) h))
  (aL (bC (i:=5) (bD (XN.r (dF (aJ (pv 3)) (XN.r (aG)))) (XN.r (cD bT (bU rfl) rfl cG A8 (aB (aJ (pv 4)) aM)))) (λh=>aZ pU.nd rfl (by first | exact B4 rfl | exact B3 rfl) h))
  (aL (cU (cB (or_eq cT rfl) eX (XN.r (bD (aJ (pv 3)) (XN.r (aG)))) (XN.r (aG)) (bI _)) (aL (lD (pA (pv 4)) (aJ (pv 5)) (Ut (rH (aY (iJ) (aY (Qm) (aY (Qn) (aY (kY (aY aG fW)) (aY (rH (aY aG fW)) fW)))))) (XN.r (bD (XN.r (dF (aJ (pv 3)) (XN.r (aG)))) (XN.r (aG)))) (λ_ _=>rfl)) (λa b c=>jH c (kJ a b set_list)))
  (aX (xR (pv 4) rfl rfl jM))) cF)
  (aL (cU (cB (or_eq cT rfl) eX (XN.r (bD (aJ (pv 3)) (XN.r (aG)))) (XN.r (aG)) (bI _)) (aL (cU (cB (or_eq cT rfl) eX (XN.r (bD (XN.r (dF (aJ (pv 3)) (XN.r (aG)))) (XN.r (aG)))) (XN.r (aG)) (bI _)) (aX (Jx (pA (pv 4)) aG (λa b=>oE (vH F1 J6 J7 mL a (cP b gP))))) (aX (Uu (pA (pv 4)) (aJ (pv 5)) (λa b=>oE (vH F1 N1 N2 Aw a (cP b gP))))))
  (aX (xR (pv 4) rfl rfl jM))) cF)
  (aL (cU (cB (or_eq cT rfl) eX (XN.r (bD (aJ (pv 3)) (XN.r (aG)))) (XN.r (aG)) (bI _)) (aX (oH (pv 4))) cF)
  (aL (cU (cB (or_eq cT rfl) eX (XN.r (cD bT (bU rfl) rfl cG A8 (aB (aJ (pv 4)) aM))) (XN.r (aG)) (bI _)) (aX (bM (kY (aY (lN (XN.r (gA (XN.r (aG)))) (XN.r (bA cA (hr.mono (by decide)) rfl (aB (aJ (pv 0)) (aB (XN.r (aG)) aM))))) fW)))) cF)
  (aL (bC (i:=5) (cI (XN.r (aG)) (XN.r (bD (XN.r (dF (aJ (pv 3)) (XN.r (aG)))) (XN.r (aG))))) (λh=>aZ pU.nd rfl (by first | exact B4 rfl | exact B3 rfl) h))
  (aL (lD (pA (pv 4)) (aJ (pv 5)) (lN (XN.r (lN (bJ (Br (aB (XN.r (aG)) (aB (XN.r (aG)) (aB (XN.r (gA (XN.r (aG)))) (aB (XN.r (gA (XN.r (aG)))) (aB (XN.r (aG)) aM)))))) (aJ (pv 5)) (λ_ _=>rfl)) (XN.r (aG)))) (XN.r (bA cA (hr.mono (by decide)) rfl (aB (aJ (pv 0)) (aB (XN.r (aG)) aM))))) (λa b c=>jH c (kJ a b set_list)))
  (aL (cU (XW.xt (Bu (cB (or_eq cT rfl) eX (aJ (pv 5)) (XN.r (aG)) (bI _)) (zV (cB (or_eq cT rfl) eX (XN.r (bD (XN.r (dF (aJ (pv 3)) (XN.r (aG)))) (XN.r (aG)))) (XN.r (aG)) (bI _))))) (aX (lD (pA (pv 4)) (XN.r (aG)) (cI (aJ (pv 2)) (XN.r (bD (XN.r (dF (aJ (pv 3)) (XN.r (aG)))) (XN.r (aG))))) (λa b c=>jH c (kJ a b set_list)))) cF)
  (aX (xR (pv 4) rfl rfl jM)))))))))))⟩
theorem uU:bN ["panes", "rows", "made", "pane"] ["panes", "rows"] (aP sX):=by walk_at "fs"
theorem Oe(R:Raw K mg "_law_blank" sX) (fH:mg "range" = none):gH P w K mg base "_law_blank" 1 2 (gK K 2 mR):=by
 refine R.jT uU (λ_ _ _ _ _ _ us hl=>match us,hl with | [_,_],_=>rfl) (λ_ _ _ _ _ _ _ hr=>?_)
 have cT:=hr.units
 have hu:=eN hr
 exact⟨_,aL (bC (i:=2) (rH fW) (λh=>aZ uU.nd rfl (by first | exact B4 rfl | exact B3 rfl) h))
  (aL (oK PassesOwn.never rfl (jP rfl fH (aB (aJ (pv 0)) aM)) (fK (i:=3) uU.nd rfl (by first | exact B4 rfl | exact B3 rfl)) (aX (Jx (pA (pv 2)) (cI (XN.r (mD ["place"] [] rfl (.at (aP sX) ["panes", "rows", "made", "pane"] (by decide +kernel)) (xK rfl fH (aB (aJ (pv 1)) aM)) (fZ (by decide +kernel) rfl rfl) (λ_ _ _ _ _=>fP) (λ_ _ _ _ _=>kY (aY aG (aY aG (aY (gA (XN.r (aG))) (aY (gA (XN.r (aG))) (aY aG fW)))))))) (Br (aB (XN.r (kY (aY aG fW))) aM))) (λa b=>oE (vH F1 J6 J7 mL a (cP b gP))))))
  (aX (oH (pv 2))))⟩
theorem jN:bN ["script", "stone", "way", "some", "panes", "bad", "odd", "at"] ["script", "stone", "way"] (aP sY):=by walk_at "fs"
theorem Og(R:Raw K mg "_law_shape" sY) (bF:gH P w K mg base "_law_draw" 1 2 (gK K 2 bQ)) (tG:gH P w K mg base "_law_blank" 1 2 (gK K 2 mR)) (cG:mg "len" = none) (fU:mg "list" = none) (jM:mg "tuple" = none):gH P w K mg base "_law_shape" 2 3 (gK K 3 sZ):=by
 refine R.jT jN (λ_ _ _ _ _ _ us hl=>match us,hl with | [_,_,_],_=>rfl) (λ_ _ _ _ _ _ _ hr=>?_)
 have cT:=hr.units
 have hu:=eN hr
 exact⟨_,aL (bC (i:=3) (bA bF (hr.mono (by decide)) rfl (aB (aJ (pv 0)) (aB (XN.r (aG)) aM))) (λh=>aZ jN.nd rfl (by first | exact B4 rfl | exact B3 rfl) h))
  (aL (bC (i:=4) (cD bT (bU rfl) rfl cG A8 (aB (aJ (pv 1)) aM)) (λh=>aZ jN.nd rfl (by first | exact B4 rfl | exact B3 rfl) h))
  (aL (qG (i:=5) ["pane"] [] rfl (.at (aP sY) ["script", "stone", "way", "some", "panes", "bad", "odd", "at"] (by decide +kernel)) jN.nd rfl (by first | exact B4 rfl | exact B3 rfl) (kZ (aJ (pv 1))) (fZ (by decide +kernel) rfl rfl) (λ_ _ _ _ _=>fP) (λ_ _ _ _ _=>vL rY (rZ rfl) rfl fU E4 (aB (aJ (pv 0)) aM)))
  (aL (cU (cB (or_eq cT rfl) eX (aJ (pv 2)) (XN.r (aG)) (bI _)) (je (rH (aY (Qm) (aY aG (aY (iJ) (aY (Qn) (aY (kY (aY aG fW)) fW)))))) (λh=>aZ jN.nd rfl (by first | exact B4 rfl | exact B3 rfl) h) (aZ jN.nd rfl (by first | exact B4 rfl | exact B3 rfl) (Yp (Jt rfl) (pv 6) (Aq (cP (wM (Bv rfl) rfl jM K0 (cP (pv 5) gP)) (cP (LC (Yw Yg (pv 5) KZ) rfl rfl (λz=>by cases z) (D8 rfl)) (cP (Aq gP) (cP (Yp (Jt rfl) (pv 5) (Aq (cP Yh gP))) gP))))))) (XN.r (bD (aJ (pv 3)) (XN.r (aG)))) (λh=>wK (Tp (Ue rfl) (pv 6) h (λ_ _=>rfl)))) cF)
  (aL (cU (cB (or_eq cT rfl) eX (aJ (pv 2)) (XN.r (aG)) (bI _)) (aX (bM (bA tG (hr.mono (by decide)) rfl (aB (aJ (pv 4)) (aB (XN.r (iR (XN.r (aG)) (XN.r (bD (aJ (pv 3)) (XN.r (aG)))))) aM))))) cF)
  (aL (cU (cB (or_eq cT rfl) eX (aJ (pv 2)) (XN.r (aG)) (bI _)) (aX (bM (bA tG (hr.mono (by decide)) rfl (aB (XN.r (cI (XN.r (aG)) (XN.r (bD (aJ (pv 3)) (XN.r (aG)))))) (aB (XN.r (lN (XN.r (cD bT (bU rfl) rfl cG A8 (aB (bJ (aJ (pv 5)) (XN.r (aG)) (λ_ _=>rfl)) aM))) (XN.r (aG)))) aM))))) cF)
  (aL (bC (i:=7) (bD (aJ (pv 3)) (aJ (pv 4))) (λh=>aZ jN.nd rfl (by first | exact B4 rfl | exact B3 rfl) h))
  (aL (cU (XW.xt (Ga (cB (or_eq cT rfl) eX (aJ (pv 4)) (XN.r (aG)) (bI _)) (wY (cB (or_eq cT rfl) eX (XN.r (bD (XN.r (dF (aJ (pv 3)) (XN.r (aG)))) (XN.r (aG)))) (XN.r (aG)) (bI _))))) (aX (lD (pA (pv 5)) (aJ (pv 7)) (vL Zu (Bv rfl) rfl jM K0 (aB (bJ (aJ (pv 5)) (aJ (pv 7)) (λ_ _=>rfl)) aM)) (λa b c=>jH c (kJ a b set_list)))) (aX (cU (cB (or_eq cT rfl) eX (XN.r (bD (XN.r (dF (aJ (pv 3)) (XN.r (aG)))) (XN.r (aG)))) (XN.r (aG)) (bI _)) (aX (QJ (Ca (pA (pv 5)) (aJ (pv 7)) (λ_ _=>rfl)) (XN.r (aG)) (kY (aY aG (aY aG (aY (gA (XN.r (aG))) (aY (gA (XN.r (aG))) (aY aG fW)))))) (λa b c=>oE (vH F1 PySem.F.slot_list_insert PySem.F.type_list_insert Wj a (cP b (cP c gP)))))) (aX (Uu (Ca (pA (pv 5)) (aJ (pv 7)) (λ_ _=>rfl)) (XN.r (aG)) (λa b=>oE (vH F1 N1 N2 Aw a (cP b gP))))))))
  (aX (oH (pv 5))))))))))⟩
theorem oR:bN ["stone", "some", "bad", "odd", "at"] ["stone", "some"] (aP qK):=by walk_at "fs"
theorem Ky(R:Raw K mg "_law_placed" qK) (fU:mg "list" = none) (cG:mg "len" = none):gH P w K mg base "_law_placed" 1 2 (gK K 2 qL):=by
 refine R.jT oR (λ_ _ _ _ _ _ us hl=>match us,hl with | [_,_],_=>rfl) (λ_ _ _ _ _ _ _ hr=>?_)
 have cT:=hr.units
 have hu:=eN hr
 exact⟨_,aL (qG (i:=2) ["pane"] [] rfl (.at (aP qK) ["stone", "some", "bad", "odd", "at"] (by decide +kernel)) oR.nd rfl (by first | exact B4 rfl | exact B3 rfl) (kZ (aJ (pv 0))) (fZ (by decide +kernel) rfl rfl) (λ_ _ _ _ _=>fP) (λ_ _ _ _ _=>vL rY (rZ rfl) rfl fU E4 (aB (aJ (pv 0)) aM)))
  (aL (bC (i:=3) (Ut (rH (aY (Qm) (aY aG (aY (iJ) (aY (Qn) (aY (Ug) (aY (gA (XN.r (aG))) fW))))))) (XN.r (bD (XN.r (dF (aJ (pv 1)) (XN.r (aG)))) (XN.r (aG)))) (λ_ _=>rfl)) (λh=>aZ oR.nd rfl (by first | exact B4 rfl | exact B3 rfl) h))
  (aL (bC (i:=4) (bD (XN.r (dF (aJ (pv 1)) (XN.r (aG)))) (XN.r (cD bT (bU rfl) rfl cG A8 (aB (aJ (pv 2)) aM)))) (λh=>aZ oR.nd rfl (by first | exact B4 rfl | exact B3 rfl) h))
  (aL (cU (cB (or_eq cT rfl) eX (XN.r (bD (aJ (pv 1)) (XN.r (aG)))) (XN.r (aG)) (bI _)) (aX (Mw (pA (pv 2)) (aJ (pv 4)) (pv 3) (λa b c=>jH c (kJ a b set_list)))) (aX (Mw (Ca (pA (pv 2)) (aJ (pv 4)) (λ_ _=>rfl)) (XN.r (bD (XN.r (dF (aJ (pv 1)) (XN.r (aG)))) (XN.r (cD bT (bU rfl) rfl cG A8 (aB (bJ (aJ (pv 2)) (aJ (pv 4)) (λ_ _=>rfl)) aM))))) (pv 3) (λa b c=>jH c (kJ a b set_list)))))
  (aX (oH (pv 2))))))⟩
theorem cR:bN ["script", "stone", "order", "way", "some", "panes", "bad", "box", "old", "k", "near", "key"] ["script", "stone", "order", "way"] (aP qM):=by walk_at "fs"
theorem Kz(R:Raw K mg "_law_strung" qM) (bF:gH P w K mg base "_law_draw" 1 2 (gK K 2 bQ)) (cA:gH P w K mg base "_law_great" 2 2 (gK K 2 cM)) (cG:mg "len" = none) (fU:mg "list" = none):gH P w K mg base "_law_strung" 3 4 (gK K 4 qN):=by
 refine R.jT cR (λ_ _ _ _ _ _ us hl=>match us,hl with | [_,_,_,_],_=>rfl) (λ_ _ _ _ _ _ _ hr=>?_)
 have cT:=hr.units
 have hu:=eN hr
 exact⟨_,aL (bC (i:=4) (bA bF (hr.mono (by decide)) rfl (aB (aJ (pv 0)) (aB (XN.r (aG)) aM))) (λh=>aZ cR.nd rfl (by first | exact B4 rfl | exact B3 rfl) h))
  (aL (bC (i:=5) (cD bT (bU rfl) rfl cG A8 (aB (aJ (pv 1)) aM)) (λh=>aZ cR.nd rfl (by first | exact B4 rfl | exact B3 rfl) h))
  (aL (qG (i:=6) ["pane"] [] rfl (.at (aP qM) ["script", "stone", "order", "way", "some", "panes", "bad", "box", "old", "k", "near", "key"] (by decide +kernel)) cR.nd rfl (by first | exact B4 rfl | exact B3 rfl) (kZ (aJ (pv 1))) (fZ (by decide +kernel) rfl rfl) (λ_ _ _ _ _=>fP) (λ_ _ _ _ _=>vL rY (rZ rfl) rfl fU E4 (aB (aJ (pv 0)) aM)))
  (aL (cU (cB (or_eq cT rfl) eX (aJ (pv 3)) (XN.r (aG)) (bI _)) (aL (bC (i:=7) (XR.n (bJ (aJ (pv 2)) (XN.r (gA (XN.r (aG)))) (λ_ _=>rfl))) (λh=>aZ cR.nd rfl (by first | exact B4 rfl | exact B3 rfl) h))
  (aL (bC (i:=8) (XR.n (bJ (bJ (aJ (pv 1)) (XN.r (bD (aJ (pv 7)) (aJ (pv 5)))) (λ_ _=>rfl)) (XN.r (dF (aJ (pv 7)) (aJ (pv 5)))) (λ_ _=>rfl))) (λh=>aZ cR.nd rfl (by first | exact B4 rfl | exact B3 rfl) h))
  (aL (lD (Ca (pA (pv 6)) (XN.r (bD (aJ (pv 7)) (aJ (pv 5)))) (λ_ _=>rfl)) (XN.r (dF (aJ (pv 7)) (aJ (pv 5)))) (kY (aY (XR.n (bJ (aJ (pv 8)) (XN.r (aG)) (λ_ _=>rfl))) (aY (XR.n (bJ (aJ (pv 2)) (XN.r (bD (aJ (pv 4)) (XN.r (cD bT (bU rfl) rfl cG A8 (aB (aJ (pv 2)) aM))))) (λ_ _=>rfl))) (aY (XR.n (bJ (aJ (pv 8)) (XN.r (aG)) (λ_ _=>rfl))) (aY (XR.n (bJ (aJ (pv 8)) (XN.r (aG)) (λ_ _=>rfl))) (aY (XR.n (bJ (aJ (pv 8)) (XN.r (aG)) (λ_ _=>rfl))) fW)))))) (λa b c=>jH c (kJ a b set_list)))
  (aX (oH (pv 6)))))) cF)
  (aL (cU (cB (or_eq cT rfl) eX (aJ (pv 3)) (XN.r (aG)) (bI _)) (aL (bC (i:=9) (cI (XN.r (aG)) (XN.r (bD (aJ (pv 4)) (XN.r (lN (XN.r (cD bT (bU rfl) rfl cG A8 (aB (aJ (pv 2)) aM))) (XN.r (aG))))))) (λh=>aZ cR.nd rfl (by first | exact B4 rfl | exact B3 rfl) h))
  (aL (bC (i:=7) (XR.n (bJ (aJ (pv 2)) (aJ (pv 9)) (λ_ _=>rfl))) (λh=>aZ cR.nd rfl (by first | exact B4 rfl | exact B3 rfl) h))
  (aL (bC (i:=8) (XR.n (bJ (bJ (aJ (pv 1)) (XN.r (bD (aJ (pv 7)) (aJ (pv 5)))) (λ_ _=>rfl)) (XN.r (dF (aJ (pv 7)) (aJ (pv 5)))) (λ_ _=>rfl))) (λh=>aZ cR.nd rfl (by first | exact B4 rfl | exact B3 rfl) h))
  (aL (bC (i:=10) (XR.n (bJ (aJ (pv 2)) (XN.r (lN (aJ (pv 9)) (XN.r (aG)))) (λ_ _=>rfl))) (λh=>aZ cR.nd rfl (by first | exact B4 rfl | exact B3 rfl) h))
  (aL (bC (i:=11) (XR.n (bJ (bJ (bJ (aJ (pv 1)) (XN.r (bD (aJ (pv 10)) (aJ (pv 5)))) (λ_ _=>rfl)) (XN.r (dF (aJ (pv 10)) (aJ (pv 5)))) (λ_ _=>rfl)) (XN.r (aG)) (λ_ _=>rfl))) (λh=>aZ cR.nd rfl (by first | exact B4 rfl | exact B3 rfl) h))
  (aL (bC (i:=11) (lN (aJ (pv 11)) (XN.r (iR (XN.r (bD (XN.r (dF (aJ (pv 4)) (XN.r (aG)))) (XN.r (aG)))) (XN.r (bA cA (hr.mono (by decide)) rfl (aB (aJ (pv 0)) (aB (XN.r (aG)) aM))))))) (λh=>aZ cR.nd rfl (by first | exact B4 rfl | exact B3 rfl) h))
  (aL (lD (Ca (pA (pv 6)) (XN.r (bD (aJ (pv 7)) (aJ (pv 5)))) (λ_ _=>rfl)) (XN.r (dF (aJ (pv 7)) (aJ (pv 5)))) (kY (aY (XR.n (aJ (pv 11))) (aY (XR.n (bJ (aJ (pv 8)) (XN.r (aG)) (λ_ _=>rfl))) (aY (XR.n (bJ (aJ (pv 8)) (XN.r (aG)) (λ_ _=>rfl))) (aY (XR.n (bJ (aJ (pv 8)) (XN.r (aG)) (λ_ _=>rfl))) (aY (XR.n (bJ (aJ (pv 8)) (XN.r (aG)) (λ_ _=>rfl))) fW)))))) (λa b c=>jH c (kJ a b set_list)))
  (aX (oH (pv 6)))))))))) cF)
  (aL (bC (i:=7) (XR.n (bJ (aJ (pv 2)) (XN.r (bD (aJ (pv 4)) (XN.r (cD bT (bU rfl) rfl cG A8 (aB (aJ (pv 2)) aM))))) (λ_ _=>rfl))) (λh=>aZ cR.nd rfl (by first | exact B4 rfl | exact B3 rfl) h))
  (aL (bC (i:=8) (XR.n (bJ (bJ (aJ (pv 1)) (XN.r (bD (aJ (pv 7)) (aJ (pv 5)))) (λ_ _=>rfl)) (XN.r (dF (aJ (pv 7)) (aJ (pv 5)))) (λ_ _=>rfl))) (λh=>aZ cR.nd rfl (by first | exact B4 rfl | exact B3 rfl) h))
  (aL (lD (Ca (pA (pv 6)) (XN.r (bD (aJ (pv 7)) (aJ (pv 5)))) (λ_ _=>rfl)) (XN.r (dF (aJ (pv 7)) (aJ (pv 5)))) (kY (aY (XR.n (bJ (aJ (pv 8)) (XN.r (aG)) (λ_ _=>rfl))) (aY (XR.n (bJ (aJ (pv 8)) (XN.r (aG)) (λ_ _=>rfl))) (aY (XR.n (bJ (aJ (pv 8)) (XN.r (aG)) (λ_ _=>rfl))) (aY (gA (XN.r (aG))) (aY aG fW)))))) (λa b c=>jH c (kJ a b set_list)))
  (aX (oH (pv 6))))))))))⟩
theorem lA:bN ["script", "stone", "order", "way", "some", "bad", "pane", "at"] ["script", "stone", "order"] (aP tD):=by walk_at "fs"
theorem Oh(R:Raw K mg "_law_wrong" tD) (bF:gH P w K mg base "_law_draw" 1 2 (gK K 2 bQ)) (yQ:gH P w K mg base "_law_shape" 2 3 (gK K 3 sZ)) (uV:gH P w K mg base "_law_placed" 1 2 (gK K 2 qL)) (uW:gH P w K mg base "_law_strung" 3 4 (gK K 4 qN)) (Du:gH P w K mg base "_law_bent" 3 3 (gK K 3 vX)) (cG:mg "len" = none) (Ks:mg "int" = none) (fU:mg "list" = none):gH P w K mg base "_law_wrong" 4 3 (gK K 3 tE):=by
 refine R.jT lA (λ_ _ _ _ _ _ us hl=>match us,hl with | [_,_,_],_=>rfl) (λ_ _ _ _ _ _ _ hr=>?_)
 have cT:=hr.units
 have hu:=eN hr
 exact⟨_,aL (bC (i:=3) (bD (XN.r (bA bF (hr.mono (by decide)) rfl (aB (aJ (pv 0)) (aB (XN.r (aG)) aM)))) (XN.r (aG))) (λh=>aZ lA.nd rfl (by first | exact B4 rfl | exact B3 rfl) h))
  (aL (cU (cB An iI (aJ (pv 3)) (XN.r (aG)) (bI _)) (aX (bM (bA yQ (hr.mono (by decide)) rfl (aB (aJ (pv 0)) (aB (aJ (pv 1)) (aB (aJ (pv 3)) aM)))))) cF)
  (aL (cU (cB (or_eq cT rfl) eX (aJ (pv 3)) (XN.r (aG)) (bI _)) (aX (bM (bA uV (hr.mono (by decide)) rfl (aB (aJ (pv 1)) (aB (XN.r (bA bF (hr.mono (by decide)) rfl (aB (aJ (pv 0)) (aB (XN.r (aG)) aM)))) aM))))) cF)
  (aL (cU (XW.xt (Bu (cB An iI (aJ (pv 3)) (XN.r (aG)) (bI _)) (zV (cB TF iI (XN.r (cD bT (bU rfl) rfl cG A8 (aB (aJ (pv 2)) aM))) (XN.r (vL QC QB rfl Ks N3 (aB (XN.r (lO (or_eq cT rfl) eX (aJ (pv 3)) (XN.r (aG)) (bI _))) aM))) (bI _))))) (aX (bM (bA uW (hr.mono (by decide)) rfl (aB (aJ (pv 0)) (aB (aJ (pv 1)) (aB (aJ (pv 2)) (aB (aJ (pv 3)) aM))))))) cF)
  (aL (bC (i:=4) (bA bF (hr.mono (by decide)) rfl (aB (aJ (pv 0)) (aB (XN.r (aG)) aM))) (λh=>aZ lA.nd rfl (by first | exact B4 rfl | exact B3 rfl) h))
  (aL (qG (i:=5) ["pane"] [] rfl (.at (aP tD) ["script", "stone", "order", "way", "some", "bad", "pane", "at"] (by decide +kernel)) lA.nd rfl (by first | exact B4 rfl | exact B3 rfl) (kZ (aJ (pv 1))) (fZ (by decide +kernel) rfl rfl) (λ_ _ _ _ _=>fP) (λ_ _ _ _ _=>vL rY (rZ rfl) rfl fU E4 (aB (aJ (pv 0)) aM)))
  (jc (Ca (pA (pv 5)) (XN.r (bD (aJ (pv 4)) (XN.r (cD bT (bU rfl) rfl cG A8 (aB (aJ (pv 5)) aM))))) (λ_ _=>rfl)) (λh=>aZ lA.nd rfl (by first | exact B4 rfl | exact B3 rfl) h) (XN.r (bD (XN.r (dF (aJ (pv 4)) (XN.r (cD bT (bU rfl) rfl cG A8 (aB (aJ (pv 5)) aM))))) (XN.r (cD bT (bU rfl) rfl cG A8 (aB (aJ (pv 6)) aM))))) (λh=>aZ lA.nd rfl (by first | exact B4 rfl | exact B3 rfl) h) (bA Du (hr.mono (by decide)) rfl (aB (aJ (pv 0)) (aB (bJ (aJ (pv 6)) (aJ (pv 7)) (λ_ _=>rfl)) (aB (XN.r (iR (XN.r (cD bT (bU rfl) rfl cG A8 (aB (aJ (pv 5)) aM))) (XN.r (lN (XN.r (cD bT (bU rfl) rfl cG A8 (aB (aJ (pv 6)) aM))) (XN.r (aG)))))) aM)))) (λh=>jH h (kJ (pv 6) (pv 7) set_list)) (wK (pv 5))))))))⟩
theorem Dv:bN ["script", "panes", "rows", "stone", "order", "pool", "handed"] ["script"] (aP QX):=by walk_at "fs"
theorem jl{f:Addr}{fd:FuncData}(F:IK K "law" "law" QX f fd) (bF:gH P w K mg base "_law_draw" 1 2 (gK K 2 bQ)) (yR:gH P w K mg base "_law_stone" 5 3 (gK K 3 pN)) (yS:gH P w K mg base "_law_alike" 3 2 (gK K 2 pQ)) (rP:gH P w K mg base "is_sound" 5 1 (gK K 1 bV)) (yU:gH P w K mg base "_law_wrong" 4 3 (gK K 3 tE)) (fU:mg "list" = none) (ik:∀ns:List Int,ns.length≤63→jh [.lst (ns.map D.int)]=some (.bl true)):wL P w K mg base Xx 6 f fd ["script"] (spL K):=by
 refine F.okL Dv (λcdv A outer s H E hr=>?_) ik
 have cT:=hr.units
 have hu:=eN hr
 exact⟨_,aL (bC (i:=1) (cI (XN.r (aG)) (XN.r (bD (XN.r (bA bF (hr.mono (by decide)) rfl (aB (aJ (pv 0)) (aB (XN.r (aG)) aM)))) (XN.r (aG))))) (λh=>aZ Dv.nd rfl (by first | exact B4 rfl | exact B3 rfl) h))
  (aL (bC (i:=2) (cI (XN.r (aG)) (XN.r (bD (XN.r (bA bF (hr.mono (by decide)) rfl (aB (aJ (pv 0)) (aB (XN.r (aG)) aM)))) (XN.r (aG))))) (λh=>aZ Dv.nd rfl (by first | exact B4 rfl | exact B3 rfl) h))
  (aL (Gj (is:=[3,4,5]) (n:=3) (bA yR (hr.mono (by decide)) rfl (aB (aJ (pv 0)) (aB (aJ (pv 1)) (aB (aJ (pv 2)) aM)))) (λh=>jH h (Pu rfl (mX (fK (i:=3) Dv.nd rfl (by first | exact B4 rfl | exact B3 rfl)) (mX (fK (i:=4) Dv.nd rfl (by first | exact B4 rfl | exact B3 rfl)) (mX (fK (i:=5) Dv.nd rfl (by first | exact B4 rfl | exact B3 rfl)) (Ik)))))))
  (aL (qG (i:=6) ["pane"] [] rfl (.at (aP QX) ["script", "panes", "rows", "stone", "order", "pool", "handed"] (by decide +kernel)) Dv.nd rfl (by first | exact B4 rfl | exact B3 rfl) (kZ (aJ (pv 3))) (fZ (by decide +kernel) rfl rfl) (λ_ _ _ _ _=>fP) (λ_ _ _ _ _=>vL rY (rZ rfl) rfl fU E4 (aB (aJ (pv 0)) aM)))
  (aL (cU (XW.xt (Ga (cB Ge Gf (XN.r (bA rP (hr.mono (by decide)) rfl (aB (aJ (pv 6)) aM))) (XN.r (iJ)) (bI _)) (wY (nC (lQ (XN.r (bA yS (hr.mono (by decide)) rfl (aB (aJ (pv 6)) (aB (aJ (pv 3)) aM))))))))) (aX (bM (iJ))) cF)
  (aL (cU (cB Ge Gf (XN.r (bA rP (hr.mono (by decide)) rfl (aB (XN.r (bA yU (hr.mono (by decide)) rfl (aB (aJ (pv 0)) (aB (aJ (pv 3)) (aB (aJ (pv 4)) aM))))) aM))) (XN.r (iJ)) (bI _)) (aX (bM (iJ))) cF)
  (aX (bM (lO ao fu (XN.r (bA rP (hr.mono (by decide)) rfl (aB (aJ (pv 6)) aM))) (XN.r (iJ)) (bI _)))))))))⟩
end
end Rs

namespace Rs
open PySem L2
local macro_rules | `(tactic| walk_at "lt")=>`(tactic| exact D8 rfl)
local macro_rules | `(tactic| walk_at "sc")=>`(tactic| first | omega | with_reducible assumption | exact T6 (by decide) | exact Rf (by omega) (by omega) | exact aAK (by omega) (by omega))
local macro_rules | `(tactic| walk_at "op")=>`(tactic| first | with_reducible assumption | with_reducible exact pI _ _ | with_reducible exact eO _ _ | with_reducible exact iV _ _ | with_reducible exact sG _ _ | with_reducible exact zZ _ _ | with_reducible exact Uv _ _ | with_reducible exact vN _ _ | with_reducible exact Aa _ _ | with_reducible exact mQ _ | with_reducible exact iC _ | with_reducible exact vO _ | ((with_reducible apply nJ);walk_at "sc") | ((with_reducible apply cV);walk_at "sc") | ((with_reducible apply fQ);(walk_at "sc");walk_at "sc") | ((with_reducible apply CQ);exact⟨by decide,by decide,by omega⟩) | ((with_reducible apply Mx);(walk_at "sc");walk_at "sc"))
local macro_rules | `(tactic| walk_at "ea")=>`(tactic| first | with_reducible exact CV | ((with_reducible apply aD);(walk_at "ev");walk_at "ea"))
local macro_rules | `(tactic| walk_at "ev")=>`(tactic| first | ((with_reducible apply QR);exact rfl) | with_reducible exact vq | with_reducible assumption | ((with_reducible apply aQ);(walk_at "ev");(walk_at "ev");walk_at "op") | ((with_reducible apply cZ);(walk_at "ea");walk_at "op") | ((with_reducible apply bH);(walk_at "ea");exact rfl;with_reducible assumption) | ((with_reducible apply cL);(walk_at "ev");exact rfl) | ((with_reducible apply sI);walk_at "ev") | ((with_reducible apply sH);(walk_at "ea");walk_at "lt") | ((with_reducible apply Ab);(walk_at "ea");walk_at "lt"))
local macro_rules | `(tactic| walk_at "et")=>`(tactic| first | ((with_reducible apply dO);walk_at "et") | ((with_reducible apply Cv);(walk_at "et");walk_at "et") | ((with_reducible apply Ka);(walk_at "et");walk_at "et") | ((with_reducible apply dB);walk_at "ev"))
local macro_rules | `(tactic| walk_at "set")=>`(tactic| (apply Cr;(walk_at "ev");(walk_at "lt")))
local macro_rules | `(tactic| walk_at "q")=>`(tactic| (apply iD;(walk_at "ev");(walk_at "lt")))
theorem oU{f:FE}{e:DE}{d:D}{T t:String}(h:f e=some d)(ht:Wk d=some t)(hT:T∈Mv):qX T f e=some (.bl (nZ t T)):=by
 unfold qX
 rw[h]
 show QG T d=_
 unfold QG
 rw[if_pos hT,ht]
 rfl
def fV(ns:List Int)(k:Int):Int:=if ns.length=0 then 0 else
 ((ns.getD (k%ns.length).toNat 0*(48271+7919*(k/ns.length)*(k/ns.length))+k*k*104729)%2147483647)*((ns.getD (k%ns.length).toNat 0*(48271+7919*(k/ns.length)*(k/ns.length))+k*k*104729)%2147483647)%2147483629
theorem lF(ns:List Int)(k:Int):0≤fV ns k∧fV ns k<2147483629:=by
 unfold fV
 split
 ·exact⟨by decide,by decide⟩
 ·exact⟨B9 _ (by decide),B6 _ (by decide)⟩
theorem gW{ns:List Int}{k:Int}(hl:ns.length≤63)(h0:0≤k)(h1:k≤1000):bQ [aU ns,.int k]=some (.int (fV ns k)):=by
 refine dH rfl ?_
 unfold Nh fV
 by_cases c:ns.length=0
 ·rw[if_pos c]
  apply Rh
  ·walk_at "et"
  ·exact decide_eq_true (by omega)
  apply Ux
  ·walk_at "ev"
  ·rfl
 ·rw[if_neg c]
  have cp:(0:Int)<ns.length:=by omega
  have cq:(ns.length:Int)<1073741824:=by omega
  have m0:=B9 k (show (ns.length:Int)≠0 by omega)
  have m1:=B6 k cp
  have t0:0≤k/(ns.length:Int):=U9 h0 (by omega)
  have t1:k/(ns.length:Int)≤1000:=Int.le_trans (U1 _ h0) h1
  apply Cu
  ·walk_at "et"
  ·exact decide_eq_false (by omega)
  apply zH
  apply Cr
  ·walk_at "ev"
  ·walk_at "lt"
  generalize k/(ns.length:Int)=tn at *
  have q1:0≤tn*tn:=O4 t0 t0
  have q2:tn*tn≤1000*1000:=V3 t1 t1 t0 (by decide)
  have q3:7919*tn*tn=7919*(tn*tn):=Int.mul_assoc _ _ _
  apply Cr
  ·walk_at "ev"
  ·walk_at "lt"
  have k2:0≤k*k:=O4 h0 h0
  have k3:k*k≤1000*1000:=V3 h1 h1 h0 (by decide)
  apply Cr
  ·walk_at "ev"
  ·walk_at "lt"
  apply Cr
  ·walk_at "ev"
  ·walk_at "lt"
  generalize hM:(ns.getD (k%ns.length).toNat 0*(48271+7919*tn*tn)+k*k*104729)%2147483647=M
  have b0:0≤M:=by rw[←hM];exact B9 _ (by decide)
  have b1:M<2147483647:=by rw[←hM];exact B6 _ (by decide)
  apply eV
  walk_at "ev"
theorem Wy{ns:List Int}{k:Int}(h:ns.length=0):fV ns k=0:=by unfold fV;rw[if_pos h]
def jY(ns:List Int)(k:Int):Int:=if fV ns k%3=0 then fV ns k/3%7 else if fV ns k%3=1 then fV ns k/3 else(fV ns k ^ (6:Int).toNat+ns.getD (k%ns.length).toNat 0%10 ^ (57:Int).toNat)%10 ^ (57:Int).toNat
theorem rQ(ns:List Int)(k:Int):0≤jY ns k∧jY ns k<10 ^ 57:=by
 obtain⟨b0,b1⟩:=lF ns k
 have big:(2147483629:Int)<10 ^ 57:=by decide
 unfold jY
 generalize fV ns k=r at *
 split
 ·have h1:=B9 (r/3) (by decide:(7:Int)≠0)
  have h2:=B6 (r/3) (by decide:(0:Int)<7)
  generalize r/3%7=x at *
  omega
 ·split
  ·have h1:0≤r/3:=U9 b0 (by decide)
   have h2:r/3≤r:=U1 _ b0
   generalize r/3=x at *
   omega
  ·exact⟨B9 _ (Int.ne_of_gt (T6 (by decide))),B6 _ (T6 (by decide))⟩
theorem jZ{ns:List Int}{k:Int}(hl:ns.length≤63)(h0:0≤k)(h1:k≤1000):cM [aU ns,.int k]=some (.int (jY ns k)):=by
 refine dH rfl ?_
 unfold Gu jY
 have hd:=gW hl h0 h1
 obtain⟨b0,b1⟩:=lF ns k
 have hz:ns.length=0→fV ns k=0:=Wy
 walk_at "set"
 generalize fV ns k=r at *
 apply Mz
 ·walk_at "et"
 ·intro hb
  rw[if_pos (of_decide_eq_true hb)]
  apply Ux
  ·walk_at "ev"
  ·rfl
 intro hb
 have hb:=of_decide_eq_false hb
 rw[if_neg hb]
 apply zH
 apply Mz
 ·walk_at "et"
 ·intro hb2
  rw[if_pos (of_decide_eq_true hb2)]
  apply Ux
  ·walk_at "ev"
  ·rfl
 intro hb2
 rw[if_neg (of_decide_eq_false hb2)]
 apply zH
 have hn:ns.length≠0:=λz=>hb (by rw[hz z];rfl)
 have cp:(0:Int)<ns.length:=by omega
 have m0:=B9 k (show (ns.length:Int)≠0 by omega)
 have m1:=B6 k cp
 apply eV
 walk_at "ev"
def tH(ns:List Int)(k:Int):Int:=if fV ns k/7%4=0 then -1 else jY ns k
theorem Hr(ns:List Int)(k:Int):-1≤tH ns k:=by
 unfold tH
 have:=(rQ ns k).1
 split
 ·exact Q5 _
 ·exact Int.le_trans (by decide) this
theorem Hs{ns:List Int}{k:Int}(hl:ns.length≤63)(h0:0≤k)(h1:k≤1000):nR [aU ns,.int k]=some (.int (tH ns k)):=by
 refine dH rfl ?_
 unfold Dg tH
 have hd:=gW hl h0 h1
 have hg:=jZ hl h0 h1
 apply Mz
 ·walk_at "et"
 ·intro hb
  rw[if_pos (of_decide_eq_true hb)]
  apply Ux
  ·walk_at "ev"
  ·rfl
 intro hb
 rw[if_neg (of_decide_eq_false hb)]
 apply zH
 apply eV
 walk_at "ev"
theorem EY{ns:List Int}{P:Nat}(hl:ns.length≤63)(hP:P≤8):∃aK:List Int,sS [aU ns,.int P]=some (aU aK)∧aK.length=P∧∀s∈aK,0≤s:=by
 suffices h:∃aK:List Int,xZ ([aU ns,D.int P].map SD.fro++D9 (6-2) SD.no)=.ret (aU aK)∧aK.length=P∧∀s∈aK,0≤s by
  obtain⟨aK,h1,h2⟩:=h
  exact⟨aK,dH rfl h1,h2⟩
 unfold xZ
 obtain⟨env',h1,aK,v3,v4,v5,rfl,h3,h4⟩:=Cz (i:=3) (fi:=jE (aA (aF 1) aN)) (n:=P)
  (gb:=(aW (bW 4 (bG 2 bQ (aA (aF 0) (aA (f2 dD (fC (.int 4)) (aF 3)) aN))))
 (aW (bW 5 (f2 dD (aF 3) (f2 nA (aF 1) (f2 cO (f2 jB (aF 4) (fC (.int 4))) (fC (.int 30))))))
 (aW (jU (fB (f2 pH (f2 cO (aF 4) (fC (.int 4))) (fC (.int 0)))) (bW 5 (fC (.int 0))) cN)
 (aW (jU (fB (f2 pH (f2 cO (aF 4) (fC (.int 4))) (fC (.int 1)))) (bW 5 (bG 2 cM (aA (aF 0) (aA (f2 dD (fC (.int 400)) (aF 3)) aN)))) cN)
 (xO 2 gU (fO (aF 5))))))))
  (env:=[.fro (aU ns),.fro (.int P),.own (.lst []),.no,.no,.no])
  (λn env=>∃(aK:List Int)(v3 v4 v5:SD),env=[.fro (aU ns),.fro (.int P),.own (aU aK),v3,v4,v5]∧aK.length=n∧∀s∈aK,0≤s)
  (by
   have:=My (fs:=aA (aF 1) aN) (e:=rE [.fro (aU ns),.fro (.int P),.own (.lst []),.no,.no,.no]) (n:=P) rfl (by omega) (by omega)
   rw[this,C7])
  ⟨[],_,_,_,rfl,rfl,λs hs=>absurd hs (by simp)⟩ (by
   rintro k env hk ⟨aK,v3,v4,v5,rfl,h1,h2⟩
   refine⟨by walk_at "lt", ?_⟩
   have hd:=gW (k:=4+(k:Int)) hl (by omega) (by omega)
   have hg:=jZ (k:=400+(k:Int)) hl (by omega) (by omega)
   obtain⟨b0,b1⟩:=lF ns (4+(k:Int))
   have g0:=(rQ ns (400+(k:Int))).1
   generalize fV ns (4+(k:Int))=r at *
   generalize jY ns (400+(k:Int))=gr at *
   have p1:=B9 (r/4) (by decide:(30:Int)≠0)
   have p2:=B6 (r/4) (by decide:(0:Int)<30)
   have p3:0≤(P:Int)*(r/4%30):=O4 (by omega) p1
   have fin:∀(z:Int)(v3 v4:SD),0≤z→∃env',xO 2 gU (fO (aF 5)) [.fro (aU ns),.fro (.int P),.own (aU aK),v3,v4,.own (.int z)]=.next env'∧∃(aK:List Int)(v3 v4 v5:SD),env'=[.fro (aU ns),.fro (.int P),.own (aU aK),v3,v4,v5]∧aK.length=k+1∧∀s∈aK,0≤s:=by
    intro z v3 v4 hz
    refine⟨_,Rg (ds:=aK.map D.int) (d:=.int z) rfl (by walk_at "ev") (by rw[A5];omega),aK++[z],v3,v4,.own (.int z),?_,by rw[B5,h1];rfl,?_⟩
    ·rw[Ri];rfl
    ·intro s hs
     rcases G8.mp hs with q | q
     ·exact h2 s q
     ·rw[F2.mp q];exact hz
   by_cases c1:r%4=1
   ·obtain⟨env',e1,e2⟩:=fin gr (.fro (.int k)) (.own (.int r)) g0
    refine⟨env',?_,e2⟩
    walk_at "set"
    walk_at "set"
    apply Cu
    ·walk_at "et"
    ·exact decide_eq_false (by omega)
    apply zH
    apply Rh
    ·walk_at "et"
    ·exact decide_eq_true c1
    walk_at "set"
    exact e1
   ·by_cases c0:r%4=0
    ·obtain⟨env',e1,e2⟩:=fin 0 (.fro (.int k)) (.own (.int r)) (by decide)
     refine⟨env',?_,e2⟩
     walk_at "set"
     walk_at "set"
     apply Rh
     ·walk_at "et"
     ·exact decide_eq_true c0
     walk_at "set"
     apply Cu
     ·walk_at "et"
     ·exact decide_eq_false c1
     apply zH
     exact e1
    ·obtain⟨env',e1,e2⟩:=fin ((k:Int)+(P:Int)*(r/4%30)) (.fro (.int k)) (.own (.int r)) (by omega)
     refine⟨env',?_,e2⟩
     walk_at "set"
     walk_at "set"
     apply Cu
     ·walk_at "et"
     ·exact decide_eq_false c0
     apply zH
     apply Cu
     ·walk_at "et"
     ·exact decide_eq_false c1
     apply zH
     exact e1)
 refine⟨aK,?_,h3,h4⟩
 walk_at "set"
 apply VR h1
 exact pJ rfl
theorem FJ(i:Int):sW [.int i]=some (.bl true):=by
 refine dH rfl ?_
 unfold Gz
 apply eV
 exact Ac (oU (t := "int") rfl rfl (by decide)) (Nb (b:=false) (oU (t := "int") rfl rfl (by decide)))
theorem FN(ns:List Int):pP [dTup ns,dTup ns]=some (.bl true):=by
 suffices h:∃d,pP [dTup ns,dTup ns]=some d∧d=.bl true by
  obtain⟨d,h1,rfl⟩:=h
  exact h1
 refine dR rfl ?_
 unfold Hf
 have hlen:cY [dTup ns]=some (.int ns.length):=by unfold dTup;rw[vO,A5]
 apply nP
 ·apply Cv
  ·exact dO (dB (b:=true) (oU (t := "tuple") rfl rfl (by decide)))
  ·walk_at "et"
 ·rw[decide_eq_true rfl];rfl
 apply jG
 refine wg (xs:=ns.map D.int) (xN:=[.fro (dTup ns),.fro (dTup ns),.no]) (λn env=>∃v,env=[.fro (dTup ns),.fro (dTup ns),v]) rfl (Nf rfl) ⟨_,rfl⟩ ?_ ?_
 ·rintro k x env hx ⟨v,rfl⟩
  rw[B8]at hx
  cases q:ns[k]? with
  | none=>rw[q]at hx;cases hx
  | some z=>
   rw[q]at hx
   cases hx
   have hw:=FJ z
   refine⟨by walk_at "lt", ?_⟩
   apply DG
   ·walk_at "et"
   ·rfl
   exact⟨_,rfl,_,rfl⟩
 ·rintro env' ⟨v,rfl⟩
  apply lV
  ·exact aQ rfl rfl (QQ ns ns)
  ·exact⟨_,rfl,by rw[decide_eq_true rfl]⟩
def bR(p:List (List Int)):D:=.lst (p.map dTup)
def bB(s:List (List (List Int))):D:=.lst (s.map bR)
theorem pW{s:List (List (List Int))}{k:Nat}{p:List (List Int)}(h:s[k]?=some p):dW (bB s) (.int k)=some (bR p):=by
 unfold bB
 exact Jz (by omega) (by rw[C7,B8,h];rfl)
theorem sO{p:List (List Int)}{k:Nat}{t:List Int}(h:p[k]?=some t):dW (bR p) (.int k)=some (dTup t):=by
 unfold bR
 exact Jz (by omega) (by rw[C7,B8,h];rfl)
theorem mV(s:List (List (List Int))):cY [bB s]=some (.int s.length):=by unfold bB;rw[iC,A5]
theorem Oi(p:List (List Int)):cY [bR p]=some (.int p.length):=by unfold bR;rw[iC,A5]
theorem FQ(s:List (List (List Int)))(hs:s.length≤1000)(hp:∀p∈s,p.length≤1000):pQ [bB s,bB s]=some (.bl true):=by
 suffices h:∃d,pQ [bB s,bB s]=some d∧d=.bl true by
  obtain⟨d,h1,rfl⟩:=h
  exact h1
 refine dR rfl ?_
 unfold Hg
 have hlen:=mV s
 apply nP
 ·apply Cv
  ·exact dO (dB (b:=true) (oU (t := "list") rfl rfl (by decide)))
  ·walk_at "et"
 ·rw[decide_eq_true rfl];rfl
 apply jG
 refine sJ (n:=s.length) (λn env=>∃v2 v3,env=[.fro (bB s),.fro (bB s),v2,v3]) (lE (aD (cZ (aD rfl rfl) hlen) rfl) (by omega)) ⟨_,_,rfl⟩ ?_ ?_
 ·rintro k env hk ⟨v2,v3,rfl⟩
  refine⟨by walk_at "lt", ?_⟩
  have ep:s[k]?=some s[k]:=A6 hk
  have ix:=pW ep
  have lp:=Oi s[k]
  have hpl:=hp _ (F4 hk)
  apply nP
  ·apply Cv
   ·exact dO (dB (b:=true) (oU (t := "list") (aQ rfl rfl ix) rfl (by decide)))
   ·walk_at "et"
  ·rw[decide_eq_true rfl];rfl
  apply jG
  refine DP (n:=s[k].length) (λn env=>∃v3,env=[.fro (bB s),.fro (bB s),.fro (.int k),v3]) (lE (aD (cZ (aD (aQ rfl rfl ix) rfl) lp) rfl) (by omega)) ⟨_,rfl⟩ ?_ ?_
  ·rintro j env hj ⟨v3,rfl⟩
   refine⟨by walk_at "lt", ?_⟩
   have et:s[k][j]?=some s[k][j]:=A6 hj
   have ixt:=sO et
   have ht:=FN s[k][j]
   apply DG
   ·walk_at "et"
   ·rfl
   exact⟨_,rfl,_,rfl⟩
  ·rintro env' ⟨v3,rfl⟩
   exact⟨_,rfl,_,_,rfl⟩
 ·rintro env' ⟨v2,v3,rfl⟩
  apply lV
  ·walk_at "ev"
  ·exact⟨_,rfl,rfl⟩
theorem jm{ns aK:List Int}{k:Int}(hl:ns.length≤63)(h0:0≤k)(h1:k≤1000)(hs:0<aK.length)(hs2:aK.length≤8)(hs0:∀s∈aK,0≤s):∃a:Int,vQ [aU ns,.int k,aU aK]=some (.int a)∧0≤a:=by
 suffices h:∃d,vQ [aU ns,.int k,aU aK]=some d∧∃a:Int,d=.int a∧0≤a by
  obtain⟨d,h1,a,rfl,h2⟩:=h
  exact⟨a,h1,h2⟩
 refine dR rfl ?_
 unfold Vc
 have hd:=gW hl h0 h1
 have hg:=jZ hl h0 h1
 have g0:=(rQ ns k).1
 obtain⟨b0,b1⟩:=lF ns k
 walk_at "q"
 generalize fV ns k=r at *
 generalize jY ns k=gr at *
 apply nO
 ·walk_at "et"
 ·intro _
  apply nQ
  ·walk_at "ev"
  ·exact⟨_,rfl,0,rfl,by decide⟩
 intro _
 apply jG
 apply nO
 ·walk_at "et"
 ·intro _
  have cp:(0:Int)<aK.length:=by omega
  have m0:=B9 (r/5) (show (aK.length:Int)≠0 by omega)
  have m1:=B6 (r/5) cp
  apply nQ
  ·walk_at "ev"
  ·refine⟨_,rfl,_,rfl,hs0 _ ?_⟩
   rw[A7,A6 (by omega)]
   exact F4 _
 intro _
 apply jG
 apply lV
 ·walk_at "ev"
 ·exact⟨_,rfl,gr,rfl,g0⟩
theorem yV{ns aK:List Int}{k key follow:Int}{qQ:Bool}(hl:ns.length≤63)(h0:0≤k)(h1:k≤990)(hs:0<aK.length)(hs2:aK.length≤8)(hs0:∀s∈aK,0≤s) :
  ∃was now eE:Int,jJ [aU ns,.int k,.int key,.int follow,aU aK,.bl qQ]=some (dTup [key,follow,was,now,eE])∧-1≤was∧-1≤now∧0≤eE∧(qQ=true→eE=0→0≤now):=by
 suffices h:∃d,jJ [aU ns,.int k,.int key,.int follow,aU aK,.bl qQ]=some d∧∃was now eE:Int,d=dTup [key,follow,was,now,eE]∧-1≤was∧-1≤now∧0≤eE∧(qQ=true→eE=0→0≤now) by
  obtain⟨d,h1,a,b,c,rfl,h2⟩:=h
  exact⟨a,b,c,h1,h2⟩
 refine dR rfl ?_
 unfold Dh
 obtain⟨eE,ha,a0⟩:=jm (k:=k) hl h0 (by omega) hs hs2 hs0
 have hm1:=Hs (k:=k+1) hl (by omega) (by omega)
 have hm2:=Hs (k:=k+2) hl (by omega) (by omega)
 have b1:=Hr ns (k+1)
 have b2:=Hr ns (k+2)
 walk_at "q"
 walk_at "q"
 generalize tH ns (k+1)=now at *
 generalize tH ns (k+2)=was at *
 by_cases c:qQ=true∧eE=0∧now<0
 ·obtain⟨rfl,rfl,c3⟩:=c
  apply Gq
  ·walk_at "et"
  ·rw[decide_eq_true rfl,decide_eq_true c3];rfl
  walk_at "q"
  apply lV
  ·walk_at "ev"
  ·exact⟨_,rfl,was,0,0,rfl,b2,by decide,by decide,λ_ _=>by decide⟩
 ·apply nP
  ·walk_at "et"
  ·rw[R3,R3,decide_eq_false_iff_not,decide_eq_false_iff_not]
   by_cases c1:qQ=true
   ·by_cases c2:eE=0
    ·exact .inr (.inr λc3=>c ⟨c1,c2,c3⟩)
    ·exact .inr (.inl c2)
   ·exact .inl (by simpa using c1)
  apply jG
  apply lV
  ·walk_at "ev"
  ·exact⟨_,rfl,was,now,eE,rfl,b2,b1,a0,λc1 c2=>by
    by_cases c3:now<0
    ·exact absurd ⟨c1,c2,c3⟩ c
    ·omega⟩
def lY(m:Nat):List Int:=(C5 (m-1)).map λi:Nat=>(1:Int)+(i:Int)
theorem yW(m:Nat):(lY m).length=m-1:=by unfold lY;rw[A5,D3]
theorem yX{m:Nat}{x:Int}:x∈lY m↔1≤x∧x<m:=by
 unfold lY
 rw[D6]
 constructor
 ·rintro⟨i,hi,rfl⟩
  rw[F8]at hi
  omega
 ·intro h
  exact⟨(x-1).toNat,F8.mpr (by omega),by omega⟩
theorem zK(m:Nat):(lY m).Nodup:=by
 unfold lY
 rw[List.nodup_iff_pairwise_ne,List.pairwise_map]
 exact(List.nodup_range (n:=m-1)).imp λh z=>h (by omega)
theorem FW{ns:List Int}{m:Nat}(hl:ns.length≤63)(h1:1≤m)(h2:m≤64):∃order pool:List Int,pL [aU ns,.int m]=some (.tup [aU order,aU pool])∧(order++pool).Perm (lY m):=by
 suffices h:∃d,pL [aU ns,.int m]=some d∧∃order pool:List Int,d=.tup [aU order,aU pool]∧(order++pool).Perm (lY m) by
  obtain⟨d,h1,o,p,rfl,h2⟩:=h
  exact⟨o,p,h1,h2⟩
 refine dR rfl ?_
 unfold Gv
 have hd2:=gW (k:=2) hl (by decide) (by decide)
 obtain⟨b0,b1⟩:=lF ns 2
 have wu:dJ (Gh (aA (fC (.int 1)) (aA (aF 1) aN))) [] dX (fO (aF 0)) (rE ([aU ns,D.int m].map SD.fro++D9 (7-2) SD.no))=some (aU (lY m)):=by
  refine Cm (CT (i:=1) (j:=m) rfl (by decide) (by decide) (by omega) (by omega)) (by rw[uM];omega) ?_
  refine(xV (φ:=id) (λ_ _=>rfl) ?_).trans ?_
  ·intro x hx
   obtain⟨k,hk,rfl⟩:=Cq hx
   exact cL rfl rfl
  ·rw[Q7]
   unfold gR lY
   rw[G3]
   have:((m:Int)-1).toNat=m-1:=by omega
   rw[this]
   rfl
 apply iD wu (by walk_at "lt")
 walk_at "q"
 generalize fV ns 2=r at *
 walk_at "q"
 have cnt:∃c:Nat,c≤m-1∧Qs (λr'=>r'=.next [.fro (aU ns),.fro (.int m),.own (aU (lY m)),.own (.int r),.own (.int c),.no,.no]) (jU (fB (f2 Yb (f2 cO (aF 3) (fC (.int 3))) (fC (.int 0)))) (bW 4 (f2 cO (f2 jB (aF 3) (fC (.int 3))) (aF 1))) cN [.fro (aU ns),.fro (.int m),.own (aU (lY m)),.own (.int r),.own (.int ((m:Int)-1)),.no,.no]):=by
  by_cases c:r%3=0
  ·refine⟨m-1,B7 _,?_⟩
   apply Uy
   ·walk_at "et"
   ·intro hb
    rw[decide_eq_true c]at hb
    cases hb
   ·intro _
    apply WD
    rw[show ((m-1:Nat):Int)=(m:Int)-1 by omega]
  ·have cp:(0:Int)<m:=by omega
   have m0:=B9 (r/3) (show (m:Int)≠0 by omega)
   have m1:=B6 (r/3) cp
   refine⟨(r/3%m).toNat,by omega,?_⟩
   apply Uy
   ·walk_at "et"
   ·intro _
    apply CZ
    ·walk_at "ev"
    ·walk_at "lt"
    ·rw[S2 m0];rfl
   ·intro hb
    rw[decide_eq_false c]at hb
    cases hb
 obtain⟨c,hc,hq⟩:=cnt
 apply rK (vy hq)
 walk_at "q"
 refine sJ (n:=c) (λn env=>∃(order pool:List Int)(v:SD),env=[.fro (aU ns),.fro (.int m),.own (aU pool),.own (.int r),.own (.int c),.own (aU order),v]∧order.length=n∧(order++pool).Perm (lY m)) (lE (aD rfl rfl) (by omega)) ⟨[],lY m,_,rfl,rfl,List.Perm.refl _⟩ ?_ ?_
 ·rintro k env hk ⟨order,pool,v,rfl,hn,hp⟩
  refine⟨by walk_at "lt", ?_⟩
  have hlen:order.length+pool.length=m-1:=by rw[←B5,hp.length_eq,yW]
  have hd:=gW (k:=12+6*(k:Int)) hl (by omega) (by omega)
  generalize fV ns (12+6*(k:Int))=s at *
  have cp:(0:Int)<pool.length:=by omega
  have m0:=B9 s (show (pool.length:Int)≠0 by omega)
  have m1:=B6 s cp
  have e:=Kc (i:=5) (j:=2) (f:=f2 cO (bG 2 bQ (aA (aF 0) (aA (f2 dD (fC (.int 12)) (f2 nA (fC (.int 6)) (aF 6))) aN))) (fL cY (aA (aF 2) aN)))
   (env:=[.fro (aU ns),.fro (.int m),.own (aU pool),.own (.int r),.own (.int c),.own (aU order),.fro (.int k)]) (ns:=order) (ms:=pool) (k:=s%pool.length) rfl rfl (by walk_at "ev") (by decide) (by omega) (by omega) m0 m1
  refine⟨_,e,order++[pool.getD (s%pool.length).toNat 0],pool.eraseIdx (s%pool.length).toNat,_,rfl,by rw[B5,hn];rfl,?_⟩
  have q1:=Dc pool (s%pool.length).toNat 0 (by omega)
  rw[List.append_assoc]
  exact(q1.append_left order).trans hp
 ·rintro env' ⟨order,pool,v,rfl,hn,hp⟩
  apply DK (ds:=[aU order,aU pool]) rfl (by decide) (by decide)
  exact⟨_,rfl,order,pool,rfl,hp⟩
def iT(m:Nat)(b:List Int):Prop:=∃key follow was now eE:Int,b=[key,follow,was,now,eE]∧0≤follow∧follow<m∧-1≤was∧-1≤now∧0≤eE
def aO(P R:Nat)(aH:List (List Int))(aK:List Int):List (List (List Int)):=(C5 P).map λp=>((C5 R).map λr=>aH.getD (p+P*r) [])++[[aK.getD p 0]]
def WL(order:List Int)(aH:List (List Int))(keys:List Int)(k:Nat):Prop:=∃was now eE:Int,aH[(order.getD k 0).toNat]?=some [keys.getD k 0,(order++[0]).getD (k+1) 0,was,now,eE]∧(eE=0→0≤now)
theorem FZ{P R p r:Nat}(hp:p<P)(hr:r<R):p+P*r<P*R:=by
 have h1:P*(r+1)≤P*R:=Nat.mul_le_mul_left P hr
 rw[Nat.mul_succ]at h1
 omega
theorem GC{order:List Int}{k:Nat}(h:k<order.length):(order.drop 1++[0]).getD k 0=(order++[0]).getD (k+1) 0:=by
 cases order with
 | nil=>simp at h
 | cons a l=>rfl
theorem getD_mem{l:List Int}{k:Nat}(h:k<l.length):l.getD k 0∈l:=by
 rw[A7,A6 h]
 exact F4 h
theorem qR{ns:List Int}{k:Nat}(h:k<ns.length):dW (aU ns) (.int k)=some (.int (ns.getD k 0)):=by
 have:=Mx (ns:=ns) (i:=(k:Int)) (by omega) (by omega)
 rw[C7]at this
 exact this
theorem Dw(aH:List (List Int))(i:Nat)(b:List Int):D.lst ((aH.map dTup).set i (dTup b))=bR (aH.set i b):=by unfold bR;rw[N8]
theorem vY{l:List Int}(h:l.Nodup){i j:Nat}(hi:i<l.length)(hj:j<l.length)(hij:i≠j):l.getD i 0≠l.getD j 0:=by
 rw[A7,A7,A6 hi,A6 hj]
 show l[i]≠l[j]
 have hpw:=P1.mp h
 rcases T0 i j with q | q
 ·exact hpw i j hi hj q
 ·exact λe=>hpw j i hj hi (by omega) e.symm
theorem Af{m:Nat}{aH:List (List Int)}{i:Nat}{b:List Int}(h:∀b∈aH,iT m b)(hb:iT m b):∀c∈aH.set i b,iT m c:=λc hc=>by
 rcases J4 hc with q | q
 ·exact h c q
 ·rw[q];exact hb
theorem La{order:List Int}{aH:List (List Int)}{keys:List Int}{k i:Nat}{b:List Int}(h:WL order aH keys k)(hne:i≠(order.getD k 0).toNat):WL order (aH.set i b) keys k:=by
 obtain⟨was,now,eE,h1,h2⟩:=h
 exact⟨was,now,eE,by rw[C8 hne];exact h1,h2⟩
theorem RB{order:List Int}{aH:List (List Int)}{keys:List Int}{k:Nat}{y:Int}(h:WL order aH keys k)(hk:k<keys.length):WL order aH (keys++[y]) k:=by
 obtain⟨was,now,eE,h1,h2⟩:=h
 refine⟨was,now,eE,?_,h2⟩
 rw[h1,A7,A7 (l:=keys++[y]),E8 hk]
def Keyed(order:List Int)(aH:List (List Int))(keys:List Int):Prop:=keys.length=order.length∧keys.Pairwise (·<·)∧∀k,k<order.length→WL order aH keys k
theorem GD{ns:List Int}{P R:Nat}(hl:ns.length≤63)(hP:1≤P)(qY:P≤8)(hR:1≤R)(uB:R≤8):∃(aH:List (List Int))(aK order pool:List Int),
    pN [aU ns,.int P,.int R]=some (.tup [bB (aO P R aH aK),aU order,aU pool])∧aH.length=P*R∧aK.length=P∧(∀s∈aK,0≤s)∧(∀b∈aH,iT (P*R) b)∧(order++pool).Perm (lY (P*R)) ∧
    (∃key was now eE:Int,aH[0]?=some [key,(order++[0]).getD 0 0,was,now,eE])∧∃keys,Keyed order aH keys:=by
  suffices h:∃d,pN [aU ns,.int P,.int R]=some d∧∃(aH:List (List Int))(aK order pool:List Int),d=.tup [bB (aO P R aH aK),aU order,aU pool]∧aH.length=P*R∧aK.length=P∧(∀s∈aK,0≤s)∧(∀b∈aH,iT (P*R) b)∧(order++pool).Perm (lY (P*R)) ∧
    (∃key was now eE:Int,aH[0]?=some [key,(order++[0]).getD 0 0,was,now,eE])∧∃keys,Keyed order aH keys by
    obtain⟨d,h1,a,b,c,e,rfl,h2⟩:=h
    exact⟨a,b,c,e,h1,h2⟩
  refine dR rfl ?_
  unfold Gw
  have hlt:∀p r,p<P→r<R→p+P*r<P*R:=λp r h1 h2=>FZ h1 h2
  have aAL:P*R≤8*8:=R4 qY uB
  have hm1:1*1≤P*R:=R4 hP hR
  have hmul:f2 nA (aF 1) (aF 2) (rE ([aU ns,D.int P,D.int R].map SD.fro++D9 (16-3) SD.no))=some (.int ((P*R:Nat):Int)):=by
    rw[L9]
    exact aQ rfl rfl (nJ (Rf (by omega) (by omega)))
  apply iD hmul (by walk_at "lt")
  generalize P*R=m at *
  obtain⟨aK,hse,hsl,hs0⟩:=EY hl qY
  walk_at "q"
  obtain⟨order,pool,hor,hperm⟩:=FW (m:=m) hl (by omega) (by omega)
  apply WK (ds:=[aU order,aU pool]) (by walk_at "ev") rfl rfl
  have hnd:(order++pool).Nodup:=hperm.nodup_iff.mpr (zK m)
  have hnd':=T2.mp hnd
  have hlen:order.length+pool.length=m-1:=by rw[←B5,hperm.length_eq,yW]
  have hom:∀x∈order,1≤x∧x<m:=λx hx=>yX.mp (hperm.mem_iff.mp (L4 _ hx))
  have hpm:∀x∈pool,1≤x∧x<m:=λx hx=>yX.mp (hperm.mem_iff.mp (E3 _ hx))
  have hbx:dJ (jE (aA (aF 3) aN)) [] dX (pG (aA (fC (.int 0)) (aA (fC (.int 0)) (aA (mH (fC (.int 1))) (aA (mH (fC (.int 1))) (aA (fC (.int 0)) aN))))))
      (rE (mG ((([aU ns,D.int P,D.int R].map SD.fro++D9 (16-3) SD.no).set 3 (.own (.int m))).set 4 (.own (aU aK))) [5,6] [aU order,aU pool]))=some (bR ((C5 m).map λ_=>[0,0,-1,-1,0])):=by
    have:=uN (fi:=jE (aA (aF 3) aN)) (fr:=[]) (fe:=pG (aA (fC (.int 0)) (aA (fC (.int 0)) (aA (mH (fC (.int 1))) (aA (mH (fC (.int 1))) (aA (fC (.int 0)) aN)))))) (n:=m) (φ:=λ_=>dTup [0,0,-1,-1,0])
      (e:=rE (mG ((([aU ns,D.int P,D.int R].map SD.fro++D9 (16-3) SD.no).set 3 (.own (.int m))).set 4 (.own (aU aK))) [5,6] [aU order,aU pool]))
      (lE (aD rfl rfl) (by omega)) (by omega) (λk hk=>by
        show _=some (D.tup [.int 0,.int 0,.int (-1),.int (-1),.int 0])
        walk_at "ev")
    rw[this]
    unfold bR
    rw[G3]
    rfl
  apply iD hbx (by walk_at "lt")
  have hg3:=jZ (k:=3) hl (by decide) (by decide)
  walk_at "q"
  generalize wy:jY ns 3-10 ^ G5 56=key0
  generalize Ht:order.drop 1++[0]=ways
  have hwl:order.length≤ways.length:=by rw[←Ht,B5,J0];simp;omega
  have wz:∀k,k<order.length→ways.getD k 0=(order++[0]).getD (k+1) 0:=λk hk=>by rw[←Ht];exact GC hk
  have hwm:∀k,k<order.length→0≤ways.getD k 0∧ways.getD k 0<m:=λk hk=>by
    have:ways.getD k 0∈ways:=getD_mem (by omega)
    rw[←Ht]at this
    rcases G8.mp this with q | q
    · have:=hom _ (R5 q)
      rw[Ht]at this
      omega
    · have:=F2.mp q
      rw[Ht]at this
      omega
  refine iD (d:=aU ways) ?_ (by walk_at "lt") ?_
  · rw[←Ht]
    refine aQ (a:=aU (order.drop 1)) (b:=aU [0]) ?_ rfl (Dd _ _ (by rw[J0];simp;omega))
    rw[show (aU (order.drop 1))=.lst (tR (order.map D.int) (some 1) none) by rw[Wm]]
    exact Rj rfl rfl rfl (.inl rfl)
  refine sJ (n:=order.length) (λn env=>∃(aH:List (List Int))(key:Int)(v10:SD),env=[.fro (aU ns),.fro (.int P),.fro (.int R),.own (.int m),.own (aU aK),.own (aU order),.own (aU pool),.own (bR aH),.own (.int key),.own (aU ways),v10,.no,.no,.no,.no,.no] ∧
    aH.length=m∧(∀b∈aH,iT m b)∧∃keys:List Int,keys.length=n∧keys.Pairwise (·<·)∧(∀y∈keys,y≤key)∧∀k,k<n→WL order aH keys k) (lE (aD (cZ (aD rfl rfl) (mQ order)) rfl) (by omega))
    ⟨(C5 m).map λ_=>[0,0,-1,-1,0],key0,.no,(by rw[←wy];rfl),by rw[A5,D3],λb hb=>by
      obtain⟨_,_,rfl⟩:=D6.mp hb
      exact⟨0,0,-1,-1,0,rfl,by decide,by omega,by decide,by decide,by decide⟩,[],rfl,.nil,(λ_ z=>nomatch z),λk hk=>absurd hk (by omega)⟩ ?_ ?_
  · rintro k env hk ⟨aH,key,v10,rfl,hb1,hb2,keys,hb4,hb5,hb6,hb3⟩
    refine⟨by walk_at "lt", ?_⟩
    have hg:=jZ (k:=16+6*(k:Int)) hl (by omega) (by omega)
    generalize jY ns (16+6*(k:Int))=gr at hg
    walk_at "q"
    have hkk:key<key+1+gr%10 ^ G5 55:=by
      have z0:=B9 gr (show (10:Int) ^ G5 55≠0 by decide)
      generalize gr%10 ^ G5 55=z at *
      omega
    generalize key+1+gr%10 ^ G5 55=key' at hkk ⊢
    obtain⟨was,now,eE,hrec,r1,r2,r3,r4⟩:=yV (k:=13+6*(k:Int)) (key:=key') (follow:=ways.getD k 0) (qQ:=true) hl (by omega) (by omega) (aK:=aK) (by omega) (by omega) hs0
    have hix:=qR hk
    have hiw:=qR (ns:=ways) (k:=k) (by omega)
    have hx:=hom _ (getD_mem hk)
    have hw:=hwm k hk
    refine Va (ds:=aH.map dTup) rfl (k:=order.getD k 0) (d:=dTup [key',ways.getD k 0,was,now,eE]) (by walk_at "ev") (by walk_at "ev") (by omega) (by rw[A5];omega) ?_
    refine⟨_,rfl,aH.set (order.getD k 0).toNat [key',ways.getD k 0,was,now,eE],key',_,by rw[Dw];rfl,by rw[D7];exact hb1,Af hb2 ⟨_,_,_,_,_,rfl,hw.1,hw.2,r1,r2,r3⟩,keys++[key'],by rw[B5,hb4];rfl,List.pairwise_append.mpr ⟨hb5,List.pairwise_singleton _ _,λa ha b hb=>by
      rw[F2.mp hb]
      have:=hb6 a ha
      omega⟩,λy hy=>?_,λj hj=>?_⟩
    · rcases G8.mp hy with z | z
      · have:=hb6 y z;omega
      · rw[F2.mp z];exact Q5 _
    by_cases c:j=k
    · subst c
      refine⟨was,now,eE,?_,r4 rfl⟩
      rw[←wz j hk,D1 (by omega),A7 (l:=keys++[key']),E6 (by omega),hb4,L3]
      rfl
    · have hjk:j<k:=by omega
      have hne:=vY hnd'.1 (i:=k) (j:=j) hk (by omega) (by omega)
      have hy:=hom _ (getD_mem (show j<order.length by omega))
      exact RB (La (hb3 j hjk) (by omega)) (by omega)
  rintro env ⟨aH,key,v10,rfl,hb1,hb2,keys,hb4,hb5,hb6,hb3⟩
  clear hb6
  refine sJ (n:=pool.length) (λn env=>∃(aH:List (List Int))(v10 v11 lg:SD),env=[.fro (aU ns),.fro (.int P),.fro (.int R),.own (.int m),.own (aU aK),.own (aU order),.own (aU pool),.own (bR aH),.own (.int key),.own (aU ways),v10,v11,lg,.no,.no,.no] ∧
    aH.length=m∧(∀b∈aH,iT m b)∧∀k,k<order.length→WL order aH keys k) (lE (aD (cZ (aD rfl rfl) (mQ pool)) rfl) (by omega)) ⟨aH,_,_,_,rfl,hb1,hb2,hb3⟩ ?_ ?_
  · clear hb1 hb2 hb3
    rintro k env hk ⟨aH,v10,v11,lg,rfl,hb1,hb2,hb3⟩
    refine⟨by walk_at "lt", ?_⟩
    walk_at "q"
    have hd:=gW (k:=12+6*((order.length:Int)+(k:Int))) hl (by omega) (by omega)
    have hg:=jZ (k:=12+6*((order.length:Int)+(k:Int))+4) hl (by omega) (by omega)
    generalize fV ns (12+6*((order.length:Int)+(k:Int)))=r at hd
    generalize jY ns (12+6*((order.length:Int)+(k:Int))+4)=gr at hg
    have m0:=B9 r (show (m:Int)≠0 by omega)
    have m1:=B6 r (show (0:Int)<m by omega)
    walk_at "q"
    obtain⟨was,now,eE,hrec,r1,r2,r3,r4⟩:=yV (k:=12+6*((order.length:Int)+(k:Int))+1) (key:=gr) (follow:=r%m) (qQ:=false) hl (by omega) (by omega) (aK:=aK) (by omega) (by omega) hs0
    have hix:=qR hk
    have hx:=hpm _ (getD_mem hk)
    refine Va (ds:=aH.map dTup) rfl (k:=pool.getD k 0) (d:=dTup [gr,r%m,was,now,eE]) (by walk_at "ev") (by walk_at "ev") (by omega) (by rw[A5];omega) ?_
    refine⟨_,rfl,aH.set (pool.getD k 0).toNat [gr,r%m,was,now,eE],_,_,_,by rw[Dw];rfl,by rw[D7];exact hb1,Af hb2 ⟨_,_,_,_,_,rfl,m0,m1,r1,r2,r3⟩,λj hj=>?_⟩
    have hy:=hom _ (getD_mem hj)
    have hne:=hnd'.2.2 _ (getD_mem hj) _ (getD_mem hk)
    exact La (hb3 j hj) (by omega)
  clear hb1 hb2 hb3
  rintro env ⟨uX,v10',v11,lg,rfl,hb1,hb2,hb3⟩
  walk_at "q"
  have hfirst:Qs (λr=>r=.next [.fro (aU ns),.fro (.int P),.fro (.int R),.own (.int m),.own (aU aK),.own (aU order),.own (aU pool),.own (bR uX),.own (.int key),.own (aU ways),v10',v11,lg,.own (.int ((order++[0]).getD 0 0)),.no,.no])
      (jU (fB (f2 sy (fL cY (aA (aF 5) aN)) (fC (.int 0)))) (bW 13 (fO (f2 dW (aF 5) (fC (.int 0))))) cN [.fro (aU ns),.fro (.int P),.fro (.int R),.own (.int m),.own (aU aK),.own (aU order),.own (aU pool),.own (bR uX),.own (.int key),.own (aU ways),v10',v11,lg,.own (.int 0),.no,.no]):=by
    apply Uy
    · walk_at "et"
    · intro hb
      have hb:=of_decide_eq_true hb
      have hix:=qR (ns:=order) (k:=0) (by omega)
      have aCt:dW (aU order) (.int 0)=some (.int (order.getD 0 0)):=hix
      apply CZ
      · walk_at "ev"
      · walk_at "lt"
      · cases order with
        | nil=>simp at hb
        | cons a l=>rfl
    · intro hb
      have hb:=of_decide_eq_false hb
      apply WD
      cases order with
      | nil=>rfl
      | cons a l=>simp at hb
  apply rK (vy hfirst)
  have hg8:=jZ (k:=408) hl (by decide) (by decide)
  generalize jY ns 408=gr at hg8
  generalize hfi:(order++[0]).getD 0 0=first at *
  have hfb:0≤first∧first<m:=by
    have h0:(order++[0]).getD 0 0∈order++[0]:=getD_mem (by simp)
    rw[hfi]at h0
    rcases G8.mp h0 with q | q
    · have:=hom _ q;omega
    · have:=F2.mp q;omega
  obtain⟨was,now,eE,hrec,r1,r2,r3,r4⟩:=yV (k:=409) (key:=gr-10 ^ G5 56) (follow:=first) (qQ:=false) hl (by decide) (by decide) (aK:=aK) (by omega) (by omega) hs0
  refine jf (ds:=uX.map dTup) rfl (k:=0) (d:=dTup [gr-10 ^ G5 56,first,was,now,eE]) (by walk_at "ev") (by walk_at "ev") (by decide) (by rw[A5];omega) ?_
  rw[Dw]
  have hc1:(uX.set (0:Int).toNat [gr-10 ^ G5 56,first,was,now,eE]).length=m:=by rw[D7];exact hb1
  have hc2:=Af (i:=(0:Int).toNat) hb2 (show iT m [gr-10 ^ G5 56,first,was,now,eE]from⟨_,_,_,_,_,rfl,hfb.1,hfb.2,r1,r2,r3⟩)
  have hc3:∀k,k<order.length→WL order (uX.set (0:Int).toNat [gr-10 ^ G5 56,first,was,now,eE]) keys k:=λk hk=>La (hb3 k hk) (by
    have:=hom _ (getD_mem hk)
    show (0:Int).toNat≠_
    omega)
  have hc4:(uX.set (0:Int).toNat [gr-10 ^ G5 56,first,was,now,eE])[0]?=some [gr-10 ^ G5 56,first,was,now,eE]:=D1 (by omega)
  generalize uX.set (0:Int).toNat [gr-10 ^ G5 56,first,was,now,eE]=bx at *
  walk_at "q"
  refine sJ (n:=P) (λn env=>∃(v15:SD),env=[.fro (aU ns),.fro (.int P),.fro (.int R),.own (.int m),.own (aU aK),.own (aU order),.own (aU pool),.own (bR bx),.own (.int key),.own (aU ways),v10',v11,lg,.own (.int first),.own (.lst ((C5 n).map λp=>bR (((C5 R).map λr=>bx.getD (p+P*r) [])++[[aK.getD p 0]]))),v15])
    (lE (aD rfl rfl) (by omega)) ⟨_,rfl⟩ ?_ ?_
  · rintro p env hp ⟨v15,rfl⟩
    refine⟨by walk_at "lt", ?_⟩
    have hsx:=qR (ns:=aK) (k:=p) (by omega)
    refine DN (ds:=(C5 p).map λp=>bR (((C5 R).map λr=>bx.getD (p+P*r) [])++[[aK.getD p 0]])) (d:=bR (((C5 R).map λr=>bx.getD (p+P*r) [])++[[aK.getD p 0]])) rfl ?_ (by rw[A5,D3];omega) ?_
    · have e:bR (((C5 R).map λr=>bx.getD (p+P*r) [])++[[aK.getD p 0]])=.lst (((C5 R).map λr=>dTup (bx.getD (p+P*r) []))++[dTup [aK.getD p 0]]):=by
        unfold bR
        rw[G1,G3]
        rfl
      rw[e]
      refine aQ (uN (n:=R) (φ:=λr=>dTup (bx.getD (p+P*r) [])) (lE (aD rfl rfl) (by omega)) (by omega) ?_) (Ab (aD (sH (aD (cL (aQ rfl rfl hsx) rfl) rfl) (by walk_at "lt")) rfl) (by walk_at "lt")) (xW ?_ ?_)
      · intro r hr
        have hi:=hlt p r hp hr
        have hbx:dW (bR bx) (.int ((p:Int)+(P:Int)*(r:Int)))=some (dTup (bx.getD (p+P*r) [])):=by
          have:((p:Int)+(P:Int)*(r:Int))=((p+P*r:Nat):Int):=by rw[Int.natCast_add,L9]
          rw[this]
          exact sO (pK (by omega))
        refine cL (aQ rfl (aQ rfl (aQ rfl rfl (nJ (Rf (by omega) (by omega)))) (pI _ _)) hbx) (jW _)
      · rw[Cw]
        rw[vP (λd hd=>by obtain⟨r,_,rfl⟩:=D6.mp hd;exact jW _)]
        rfl
      · rw[A5,D3];simp;omega
    · refine⟨_,rfl,.fro (.int p),?_⟩
      rw[V0,G1]
      rfl
  · rintro env' ⟨v15,rfl⟩
    apply DK (ds:=[bB (aO P R bx aK),aU order,aU pool]) ?_ (by decide) (by decide)
    · exact⟨_,rfl,bx,aK,order,pool,rfl,hc1,hsl,hs0,hc2,hperm,⟨gr-10 ^ G5 56,was,now,eE,by rw[hc4,hfi]⟩,keys,hb4,hb5,hc3⟩
    · unfold bB aO
      rw[G3]
      rfl
theorem RC{s:List (List (List Int))}{b:Int}(h:0<s.length)(h2:s.length≤1000):Ae [bB s,.int b]=some (dTup [b%s.length,b/s.length]):=by
 refine dH rfl ?_
 unfold Vd
 have hlen:=mV s
 apply eV
 show _=some (D.tup [.int (b%s.length),.int (b/s.length)])
 walk_at "ev"
theorem GF{s:List (List (List Int))}{p:List (List Int)}{t:List Int}{i j:Nat}(h1:s[i]?=some p)(h2:p[j]?=some t):rM [bB s,dTup [(i:Int),(j:Int)]]=some (dTup t):=by
 refine dH rfl ?_
 unfold Ni
 apply eV
 exact cL (aQ (aQ rfl (aQ rfl rfl (gB (by decide) rfl)) (pW h1)) (aQ rfl rfl (gB (by decide) rfl)) (sO h2)) (jW _)
theorem GJ{s:List (List (List Int))}{b:Nat}{p:List (List Int)}{t:List Int}(h:0<s.length)(h2:s.length≤1000)(h1:s[b%s.length]?=some p)(h3:p[b/s.length]?=some t):fJ [bB s,.int b]=some (dTup t):=by
 refine dH rfl ?_
 unfold Gx
 have hs:=RC (b:=(b:Int)) h h2
 have ht:rM [bB s,dTup [(b:Int)%s.length,(b:Int)/s.length]]=some (dTup t):=GF (i:=b%s.length) (j:=b/s.length) h1 h3
 apply eV
 walk_at "ev"
theorem kW(P R:Nat)(aH:List (List Int))(aK:List Int):(aO P R aH aK).length=P:=by unfold aO;rw[A5,D3]
theorem oV{P R:Nat}{aH:List (List Int)}{aK:List Int}{p:Nat}(h:p<P):(aO P R aH aK)[p]?=some (((C5 R).map λr=>aH.getD (p+P*r) [])++[[aK.getD p 0]]):=by
 unfold aO
 rw[B8,O2 h]
 rfl
theorem mK{P R:Nat}{aH:List (List Int)}{aK:List Int}{q:List (List Int)}(h:q∈aO P R aH aK):q.length=R+1:=by
 unfold aO at h
 obtain⟨p,_,rfl⟩:=D6.mp h
 rw[B5,A5,D3]
 rfl
theorem Dy{P R:Nat}{aH:List (List Int)}{aK:List Int}{p r:Nat}(hr:r<R):(((C5 R).map λr=>aH.getD (p+P*r) [])++[[aK.getD p 0]])[r]?=some (aH.getD (p+P*r) []):=by
 rw[E8 (by rw[A5,D3];exact hr),B8,O2 hr]
 rfl
theorem Hu{P R:Nat}{aH:List (List Int)}{aK:List Int}{p:Nat}:(((C5 R).map λr=>aH.getD (p+P*r) [])++[[aK.getD p 0]])[R]?=some [aK.getD p 0]:=by
 rw[E6 (by rw[A5,D3];exact B7 _),A5,D3,L3]
 rfl
theorem GK{P R:Nat}{aH:List (List Int)}{aK:List Int}{b:Nat}(hP:0<P)(hb:b<P*R):∃q,(aO P R aH aK)[b%P]?=some q∧q[b/P]?=some (aH.getD b []):=by
 have h1:b%P<P:=Nat.mod_lt _ hP
 have h2:b/P<R:=R6 hb
 refine⟨_,oV h1,?_⟩
 rw[Dy h2,V1]
theorem pX{fi:FA}{fr:List Nat}{e:DE}{s:List (List (List Int))}(h1:fi e=some (s.map bR))(hs:s.length≤1000):dJ fi fr dX (fL dList (aA (aF 0) aN)) e=some (bB s):=by
 unfold bB
 exact iW (φ:=bR) h1 hs λp hp=>by
  unfold bR
  exact cZ (aD rfl rfl) (Wl (vP λd hd=>by obtain⟨t,_,rfl⟩:=D6.mp hd;exact jW t))
theorem Oj(r:Int):∃P:Nat,1+r%8=(P:Int)∧1≤P∧P≤8:=by
 have h0:=B9 r (by decide:(8:Int)≠0)
 have h1:=B6 r (by decide:(0:Int)<8)
 exact⟨(1+r%8).toNat,by omega,by omega,by omega⟩
theorem gY{f:FE}{e:DE}{d:D}{T t:String}{b:Bool}(h:f e=some d)(ht:Wk d=some t)(hT:T∈Mv)(hb:nZ t T=b):qX T f e=some (.bl b):=by
 rw[←hb]
 exact oU h ht hT
theorem Ag{f f':FE}{e:DE}(h:f e=some (.bl false)):jD f f' e=some (.bl false):=by unfold jD;rw[dB h];rfl
theorem Ah{f1 f2 f3:FE}{e:DE}{a b c:Int}(h1:f1 e=some (.int a))(h2:f2 e=some (.int b))(h3:f3 e=some (.int c)):Ra Wa Wa f1 f2 f3 e=some (decide (a≤b)&&decide (b≤c)):=by
 unfold Ra
 rw[h1,h2,h3]
 dsimp only[C4]
 rw[Aa,C4]
 by_cases q:a≤b
 ·rw[decide_eq_true q]
  dsimp only
  rw[Aa]
  rfl
 ·rw[decide_eq_false q]
  rfl
theorem RD{f1 f2 f3:FE}{e:DE}{a b c:Int}(h1:f1 e=some (.int a))(h2:f2 e=some (.int b))(h3:f3 e=some (.int c)):Rb Wa Wa f1 f2 f3 e=some (.bl (decide (a≤b)&&decide (b≤c))):=by
 unfold Rb
 rw[Ah h1 h2 h3]
 rfl
theorem RG{f1 f2 f3:FE}{e:DE}{a b c:Int}(h1:f1 e=some (.int a))(h2:f2 e=some (.int b))(h3:f3 e=some (.int c)):Rb Wa Xz f1 f2 f3 e=some (.bl (decide (a≤b)&&decide (b<c))):=by
 unfold Rb
 rw[QV h1 h2 h3]
 rfl
theorem RJ{F:Option D}{b:Bool}(h:∃d,F=some d∧d=.bl b):F=some (.bl b):=by
 obtain⟨d,h1,rfl⟩:=h
 exact h1
def Ol(ps:List (List D)):D:=.lst (ps.map D.lst)
theorem Om(s:List (List (List Int))):bB s=Ol (s.map λq=>q.map dTup):=by unfold bB Ol;rw[G3];rfl
theorem GP(ps:List (List D)):cY [Ol ps]=some (.int ps.length):=by unfold Ol;rw[iC,A5]
theorem WM{ps:List (List D)}{k:Nat}{q:List D}(h:ps[k]?=some q):dW (Ol ps) (.int k)=some (.lst q):=by
 unfold Ol
 exact Jz (by omega) (by rw[C7,B8,h];rfl)
theorem nW{d:D}{t:String}(h:Wk d=some t)(hs:nZ t "list" = false):jX [d]=some (.bl false):=by
 refine RJ (dR rfl ?_)
 unfold vU
 exact Gq (b:=true) (vp (dO (b:=false) (dB (gY rfl h (by decide) hs)))) rfl (nQ rfl ⟨_,rfl,rfl⟩)
theorem Dz{ds:List D}(h:ds.length<1∨8<ds.length):jX [.lst ds]=some (.bl false):=by
 refine RJ (dR rfl ?_)
 unfold vU
 refine Gq (b:=true) ((CP (dO (b:=true) (dB (gY (t := "list") rfl rfl (by decide) (by decide))))).trans ((dO (Ah (a:=1) (b:=ds.length) (c:=8) rfl (cZ (aD rfl rfl) (iC ds)) rfl)).trans ?_)) rfl (nQ rfl ⟨_,rfl,rfl⟩)
 rcases h with h | h
 ·rw[decide_eq_false (show ¬(1:Int)≤ds.length by omega)];rfl
 ·rw[decide_eq_false (show ¬(ds.length:Int)≤8 by omega),F5];rfl
def Oo:D→Bool
 | .lst _=>true
 | _=>false
theorem jn{d:D}{e:DE}(h:∃t,Wk d=some t):qX "list" (aF 0) (some d::e)=some (.bl (Oo d)):=by
 obtain⟨t,h⟩:=h
 cases d with
 | non=>cases h;exact gY (t := "NoneType") rfl rfl (by decide) (show nZ "NoneType" "list" = false by decide)
 | bl _=>cases h;exact gY (t := "bool") rfl rfl (by decide) (show nZ "bool" "list" = false by decide)
 | int _=>cases h;exact gY (t := "int") rfl rfl (by decide) (show nZ "int" "list" = false by decide)
 | str _=>cases h;exact gY (t := "str") rfl rfl (by decide) (show nZ "str" "list" = false by decide)
 | lst _=>cases h;exact gY (t := "list") rfl rfl (by decide) (show nZ "list" "list" = true by decide)
 | tup _=>cases h;exact gY (t := "tuple") rfl rfl (by decide) (show nZ "tuple" "list" = false by decide)
 | dk _ _=>cases h;exact gY (t := "dict") rfl rfl (by decide) (show nZ "dict" "list" = false by decide)
 | dt _ _=>cases h
 | ins _ _ _=>cases h
theorem Oq{ds:List D}(h1:1≤ds.length)(h8:ds.length≤8)(ht:∀d∈ds,∃t,Wk d=some t)(hx:∃d∈ds,Oo d=false):jX [.lst ds]=some (.bl false):=by
 refine RJ (dR rfl ?_)
 unfold vU
 refine nP (b:=false) ((CP (dO (b:=true) (dB (gY (t := "list") rfl rfl (by decide) (by decide))))).trans ((dO (Ah (a:=1) (b:=ds.length) (c:=8) rfl (cZ (aD rfl rfl) (iC ds)) rfl)).trans ?_)) rfl (jG ?_)
 ·rw[decide_eq_true (show (1:Int)≤ds.length by omega),decide_eq_true (show (ds.length:Int)≤8 by omega)]
  rfl
 have hc1:dJ (lJ (aF 0)) [] dX (qX "list" (aF 0)) (rE [.fro (.lst ds)])=some (.lst (ds.map λd=>D.bl (Oo d))):=
  iW (xs:=ds) (ψ:=id) (φ:=λd=>D.bl (Oo d)) ((nM rfl).trans (by rw[Q7])) (by omega) λd hd=>jn (ht d hd)
 refine Gq (dO (dB (cZ (aD hc1 rfl) (lM Oo ds)))) ?_ (nQ rfl ⟨_,rfl,rfl⟩)
 obtain⟨d,hd,hb⟩:=hx
 cases q:ds.all Oo with
 | false=>rfl
 | true=>rw[F3.mp q d hd]at hb;cases hb
theorem Ot{ps:List (List D)}{q0:List D}(h1:ps[0]?=some q0)(h8:ps.length≤8):jX [Ol ps]=some (.bl ((decide ((2:Int)≤(q0.length:Int))&&decide ((q0.length:Int)≤9))&&ps.all λq=>decide ((q.length:Int)=(q0.length:Int)))):=by
 have hl:0<ps.length:=(C9.mp h1).1
 refine RJ (dR rfl ?_)
 unfold vU
 have ix0:=WM h1
 refine nP (b:=false) ((CP (dO (b:=true) (dB (gY (t := "list") rfl rfl (by decide) (by decide))))).trans ((dO (Ah (a:=1) (b:=ps.length) (c:=8) rfl (cZ (aD rfl rfl) (GP ps)) rfl)).trans ?_)) rfl (jG ?_)
 ·rw[decide_eq_true (show (1:Int)≤ps.length by omega),decide_eq_true (show (ps.length:Int)≤8 by omega)]
  rfl
 have hc1:dJ (lJ (aF 0)) [] dX (qX "list" (aF 0)) (rE [.fro (Ol ps)])=some (.lst (ps.map λq=>D.bl ((λ_=>true) q))):=
  iW (xs:=ps) (ψ:=D.lst) (φ:=λ_=>D.bl true) (nM rfl) (by omega) λq _=>gY (t := "list") rfl rfl (by decide) (by decide)
 refine nP (dO (dB (cZ (aD hc1 rfl) (lM (λ_=>true) ps)))) (by simp) (jG ?_)
 have hc2:dJ (lJ (aF 0)) [0] dX (f2 pH (fL cY (aA (aF 0) aN)) (fL cY (aA (f2 dW (aF 1) (fC (.int 0))) aN))) (rE [.fro (Ol ps)])=some (.lst (ps.map λq=>D.bl (decide ((q.length:Int)=(q0.length:Int))))):=by
  refine iW (xs:=ps) (ψ:=D.lst) (φ:=λq=>D.bl (decide ((q.length:Int)=(q0.length:Int)))) (nM rfl) (by omega) λq hq=>?_
  exact aQ (cZ (aD rfl rfl) (iC q)) (cZ (aD (aQ rfl rfl ix0) rfl) (iC _)) (iV _ _)
 exact lV (jV (RD (a:=2) (c:=9) rfl (cZ (aD (aQ rfl rfl ix0) rfl) (iC _)) rfl) (cZ (aD hc2 rfl) (lM (λq=>decide ((q.length:Int)=(q0.length:Int))) ps))) ⟨_,rfl,rfl⟩
theorem Ou{ps:List (List D)}{R:Nat}(hl:1≤ps.length)(h8:ps.length≤8)(lq:1≤R)(hR:R≤8)(h:∀q∈ps,q.length=R+1):jX [Ol ps]=some (.bl true):=by
 have e0:ps[0]?=some ps[0]:=A6 hl
 have l0:=h _ (F4 hl)
 rw[Ot e0 h8,l0,decide_eq_true (show (2:Int)≤((R+1:Nat):Int) by omega),decide_eq_true (show ((R+1:Nat):Int)≤9 by omega),F3.mpr λq hq=>decide_eq_true (by rw[h q hq])]
 rfl
theorem Lb{ps:List (List D)}{q0 q:List D}(h1:ps[0]?=some q0)(h8:ps.length≤8)(hq:q∈ps)(h:q0.length<2∨9<q0.length∨q.length≠q0.length):jX [Ol ps]=some (.bl false):=by
 rw[Ot h1 h8]
 congr 2
 rcases h with h | h | h
 ·rw[decide_eq_false (show ¬(2:Int)≤(q0.length:Int) by omega)];rfl
 ·rw[decide_eq_false (show ¬(q0.length:Int)≤9 by omega),F5];rfl
 ·cases z:(ps.all λq=>decide ((q.length:Int)=(q0.length:Int)))with
  | false=>rw[F5]
  | true=>
   have:=of_decide_eq_true (F3.mp z q hq)
   omega
theorem gF{d:D}(h:jX [d]=some (.bl false)):bV [d]=some (.bl false):=by
 refine RJ (dR rfl ?_)
 unfold vW
 exact Gq (b:=true) (dO (b:=false) (dB (bH (aD rfl rfl) rfl h))) rfl (nQ rfl ⟨_,rfl,rfl⟩)
theorem Ve{ps:List (List D)}{R:Nat}(hl:1≤ps.length)(h8:ps.length≤8)(h:∀q∈ps,q.length=R+1):qJ [Ol ps]=some (.int ((ps.length*R:Nat):Int)):=by
 have e0:ps[0]?=some ps[0]:=A6 hl
 have l0:=h _ (F4 hl)
 refine dH rfl ?_
 unfold Di
 apply eV
 rw[L9]
 have e:(R:Int)=((ps[0].length:Nat):Int)-1:=by omega
 rw[e]
 exact aQ (cZ (aD rfl rfl) (GP ps)) (aQ (cZ (aD (aQ rfl rfl (WM e0)) rfl) (iC _)) rfl (eO _ _)) (nJ (Rf (by omega) (by omega)))
section
variable{ps:List (List D)}{R:Nat}{c:Bool}
open Classical in
theorem Hv(h8:ps.length≤8){m:Int}(hf:∀q∈ps,∃b,cQ [.lst q,.int m]=some (.bl b)):dJ (lJ (aF 0)) [1] dX (bG 2 cQ (aA (aF 0) (aA (aF 1) aN))) (rE [.fro (Ol ps),.own (.int m)])=some (.lst (ps.map λq=>D.bl (decide (cQ [.lst q,.int m]=some (.bl true))))):=by
 refine iW (xs:=ps) (ψ:=D.lst) (φ:=λq=>D.bl (decide (cQ [.lst q,.int m]=some (.bl true)))) (nM rfl) (by omega) λq hq=>bH (aD rfl (aD rfl rfl)) rfl ?_
 obtain⟨b,hb⟩:=hf q hq
 rw[hb]
 cases b with
 | true=>rw[decide_eq_true rfl]
 | false=>rw[decide_eq_false (λz=>by cases z)]
open Classical in
theorem Rw(hl:1≤ps.length)(h8:ps.length≤8)(lq:1≤R)(hR:R≤8)(h:∀q∈ps,q.length=R+1)(hf:∀q∈ps,∃b,cQ [.lst q,.int ((ps.length*R:Nat):Int)]=some (.bl b))(hx:∃q∈ps,cQ [.lst q,.int ((ps.length*R:Nat):Int)]=some (.bl false)):bV [Ol ps]=some (.bl false):=by
 refine RJ (dR rfl ?_)
 unfold vW
 refine nP (b:=false) (dO (b:=true) (dB (bH (aD rfl rfl) rfl (Ou hl h8 lq hR h)))) rfl (jG ?_)
 refine iD (bH (aD rfl rfl) rfl (Ve hl h8 h)) (by walk_at "lt") ?_
 refine lV (Ag ((cZ (aD (Hv h8 hf) rfl) (lM _ ps)).trans ?_)) ⟨_,rfl,rfl⟩
 obtain⟨q,hq,e⟩:=hx
 congr 2
 cases z:(ps.all _)with
 | false=>rfl
 | true=>
  have:=of_decide_eq_true (F3.mp z q hq)
  rw[e]at this
  cases this
open Classical in
theorem Wz(hl:1≤ps.length)(h8:ps.length≤8)(lq:1≤R)(hR:R≤8)(h:∀q∈ps,q.length=R+1)(hf:∀q∈ps,cQ [.lst q,.int ((ps.length*R:Nat):Int)]=some (.bl true))(hs:eQ [Ol ps]=some (.bl c)):bV [Ol ps]=some (.bl c):=by
 refine RJ (dR rfl ?_)
 unfold vW
 refine nP (b:=false) (dO (b:=true) (dB (bH (aD rfl rfl) rfl (Ou hl h8 lq hR h)))) rfl (jG ?_)
 refine iD (bH (aD rfl rfl) rfl (Ve hl h8 h)) (by walk_at "lt") ?_
 refine lV (Ac ((cZ (aD (Hv h8 λq hq=>⟨_,hf q hq⟩) rfl) (lM _ ps)).trans ?_) (bH (aD rfl rfl) rfl hs)) ⟨_,rfl,rfl⟩
 congr 2
 exact F3.mpr λq hq=>decide_eq_true (hf q hq)
end
theorem zL{d:D}{t:String}(h:Wk d=some t):iG [d]=some (.bl (nZ t "int" && !nZ t "bool")):=
 dH rfl (eV (jV (oU rfl h (by decide)) (Nb (oU rfl h (by decide)))))
theorem rR(n:Int):iG [.int n]=some (.bl true):=zL (t := "int") rfl
theorem rT{d:D}{t:String}{n:Int}(h:Wk d=some t)(hs:nZ t "tuple" = false):dZ [d,.int n]=some (.bl false):=
 dH rfl (eV (Ag (gY rfl h (by decide) hs)))
theorem vZ{ds:List D}{n:Int}(h:(ds.length:Int)≠n):dZ [.tup ds,.int n]=some (.bl false):=
 dH rfl (eV (Ac (gY (t := "tuple") rfl rfl (by decide) (by decide)) (Ag ((aQ (cZ (aD rfl rfl) (vO ds)) rfl (iV _ _)).trans (by rw[decide_eq_false h])))))
open Classical in
theorem wA{ds:List D}{n:Int}(hl:ds.length≤1000)(hw:∀d∈ds,∃b,iG [d]=some (.bl b)):∃b,dZ [.tup ds,.int n]=some (.bl b)∧(b=true↔(ds.length:Int)=n∧∀d∈ds,iG [d]=some (.bl true)):=by
 have hc:dJ (lJ (aF 0)) [] dX (bG 1 iG (aA (aF 0) aN)) (rE [.fro (.tup ds),.fro (.int n)])=some (.lst (ds.map λd=>D.bl (decide (iG [d]=some (.bl true))))):=by
  refine iW (xs:=ds) (ψ:=id) (φ:=λd=>D.bl (decide (iG [d]=some (.bl true)))) ((Nf rfl).trans (by rw[Q7])) hl λd hd=>bH (aD rfl rfl) rfl ?_
  obtain⟨b,hb⟩:=hw d hd
  show iG [d]=_
  rw[hb]
  cases b with
  | true=>rw[decide_eq_true rfl]
  | false=>rw[decide_eq_false (λz=>by cases z)]
 refine⟨_,dH rfl (eV (jV (a:=true) (gY (t := "tuple") rfl rfl (by decide) (by decide)) (jV (aQ (cZ (aD rfl rfl) (vO ds)) rfl (iV _ _)) (cZ (aD hc rfl) (lM _ ds))))),?_⟩
 rw[Bool.true_and,K1,decide_eq_true_iff,F3]
 exact and_congr_right λ_=>forall_congr' λd=>forall_congr' λ_=>decide_eq_true_iff
theorem wB{t:List Int}{n:Int}(h:t.length≤1000)(hn:n=t.length):dZ [dTup t,.int n]=some (.bl true):=by
 obtain⟨b,h1,h2⟩:=wA (ds:=t.map D.int) (n:=n) (by rw[A5];exact h) λd hd=>by obtain⟨i,_,rfl⟩:=D6.mp hd;exact⟨_,rR i⟩
 have:b=true:=h2.mpr ⟨by rw[A5,hn],λd hd=>by obtain⟨i,_,rfl⟩:=D6.mp hd;exact rR i⟩
 rw[this]at h1
 exact h1
theorem Hw{d:D}(h:dZ [d,.int 1]=some (.bl false)):mJ [d]=some (.bl false):=
 dH rfl (eV (Ag (bH (aD rfl (aD rfl rfl)) rfl h)))
theorem uY(x:Int):mJ [dTup [x]]=some (.bl (decide (x≥0))):=
 dH rfl (eV (Ac (bH (aD rfl (aD rfl rfl)) rfl (wB (t:=[x]) (D8 rfl) rfl)) (aQ (aQ rfl rfl rfl) rfl (vN x 0))))
theorem Ov{d:D}{m:Int}(h:dZ [d,.int 5]=some (.bl false)):dC [d,.int m]=some (.bl false):=by
 refine RJ (dR rfl ?_)
 unfold yF
 exact Gq (b:=true) (dO (b:=false) (dB (bH (aD rfl (aD rfl rfl)) rfl h))) rfl (nQ rfl ⟨_,rfl,rfl⟩)
theorem mW(a b c d e m:Int):dC [dTup [a,b,c,d,e],.int m]=some (.bl ((decide (0≤b)&&decide (b<m))&&(decide (c≥-1)&&(decide (d≥-1)&&decide (e≥0))))):=by
 refine RJ (dR rfl ?_)
 unfold yF
 refine nP (b:=false) (dO (b:=true) (dB (bH (aD rfl (aD rfl rfl)) rfl (wB (t:=[a,b,c,d,e]) (n:=5) (D8 rfl) rfl)))) rfl (jG ?_)
 exact lV (jV (RG (a:=0) (b:=b) (c:=m) rfl rfl rfl) (jV (aQ rfl rfl (vN c (-1))) (jV (aQ rfl rfl (vN d (-1))) (aQ rfl rfl (vN e 0))))) ⟨_,rfl,rfl⟩
theorem yZ{m:Nat}{r:List Int}(h:iT m r):dC [dTup r,.int m]=some (.bl true):=by
 obtain⟨a,b,c,d,e,rfl,h1,h2,h3,h4,h5⟩:=h
 rw[mW,decide_eq_true h1,decide_eq_true h2,decide_eq_true (show c≥-1 from h3),decide_eq_true (show d≥-1 from h4),decide_eq_true (show e≥0 from h5)]
 rfl
open Classical in
theorem Ea{r:List D}{x:D}{m:Int}{bs:Bool}(hr:r.length≤1000)(hS:mJ [x]=some (.bl bs))(hR:∀d∈r,∃b,dC [d,.int m]=some (.bl b)):∃b,cQ [.lst (r++[x]),.int m]=some (.bl b)∧(b=true↔bs=true∧∀d∈r,dC [d,.int m]=some (.bl true)):=by
 have hc:dJ (lJ (IW false (aF 0) (uI) (oZ (mH (fC (.int 1)))))) [1] dX (bG 2 dC (aA (aF 0) (aA (aF 1) aN))) (rE [.fro (.lst (r++[x])),.fro (.int m)])=some (.lst (r.map λd=>D.bl (decide (dC [d,.int m]=some (.bl true))))):=by
  refine iW (xs:=r) (ψ:=id) (φ:=λd=>D.bl (decide (dC [d,.int m]=some (.bl true)))) (nM ((Rj (lo:=none) (hi:=some (-1)) rfl rfl (Gs (sI rfl)) (.inl rfl)).trans ?_)) hr λd hd=>bH (aD rfl (aD rfl rfl)) rfl ?_
  ·rw[Ng,List.dropLast_concat,Q7]
  ·obtain⟨b,hb⟩:=hR d hd
   show dC [d,.int m]=_
   rw[hb]
   cases b with
   | true=>rw[decide_eq_true rfl]
   | false=>rw[decide_eq_false (λz=>by cases z)]
 refine⟨_,dH rfl (eV (jV (bH (aD (aQ (b:=.int (-1)) rfl (sI rfl) (Ke (x:=x) ?_)) rfl) rfl hS) (cZ (aD hc rfl) (lM _ r)))),?_⟩
 ·rw[List.getLast?_concat]
 rw[K1,F3]
 exact and_congr_right λ_=>forall_congr' λd=>forall_congr' λ_=>decide_eq_true_iff
theorem Ox{q:List (List Int)}{x:Int}{m:Nat}(hq:∀t∈q,iT m t)(hx:0≤x)(hl:q.length≤8):cQ [.lst ((q++[[x]]).map dTup),.int m]=some (.bl true):=by
 rw[G1]
 obtain⟨b,h1,h2⟩:=Ea (r:=q.map dTup) (x:=dTup [x]) (m:=m) (by rw[A5];omega) (uY x) λd hd=>by obtain⟨t,ht,rfl⟩:=D6.mp hd;exact⟨_,yZ (hq t ht)⟩
 have:b=true:=h2.mpr ⟨decide_eq_true hx,λd hd=>by obtain⟨t,ht,rfl⟩:=D6.mp hd;exact yZ (hq t ht)⟩
 rw[this]at h1
 exact h1
theorem GQ{q:List (List Int)}{x:Int}{m:Nat}{j:Nat}{d:D}(hq:∀t∈q,iT m t)(hx:0≤x)(hl:q.length≤8)(hj:j≤q.length)(hs:j=q.length→mJ [d]=some (.bl false))(hr:j<q.length→dC [d,.int m]=some (.bl false)):cQ [.lst (((q++[[x]]).map dTup).set j d),.int m]=some (.bl false):=by
 rw[G1]
 have tr:∀e∈q.map dTup,∃b,dC [e,.int m]=some (.bl b):=λe he=>by obtain⟨t,ht,rfl⟩:=D6.mp he;exact⟨_,yZ (hq t ht)⟩
 rcases T0 j q.length with c | c
 ·rw[List.set_append_left _ _ (by rw[A5];exact c)]
  obtain⟨b,h1,h2⟩:=Ea (r:=(q.map dTup).set j d) (x:=dTup [x]) (m:=m) (by rw[D7,A5];omega) (uY x) λe he=>by
   rcases J4 he with z | z
   ·exact tr e z
   ·rw[z];exact⟨_,hr c⟩
  cases b with
  | false=>exact h1
  | true=>
   have:=(h2.mp rfl).2 d (N9 (by rw[A5];exact c) d)
   rw[hr c]at this
   cases this
 ·have e:j=q.length:=by omega
  rw[List.set_append_right _ _ (by rw[A5];exact c),A5,e,L3]
  obtain⟨b,h1,h2⟩:=Ea (r:=q.map dTup) (x:=d) (m:=m) (by rw[A5];omega) (hs e) tr
  cases b with
  | false=>exact h1
  | true=>exact absurd (h2.mp rfl).1 (by decide)
def Chain(aH:List (List Int))(ord:List Int)(z:Int):Prop:=∀k,k≤ord.length→∃key was now eE:Int,aH[(([0]++ord).getD k 0).toNat]?=some [key,(ord++[z]).getD k 0,was,now,eE]
theorem Eb{P R:Nat}{aH:List (List Int)}{aK:List Int}{x:Int}{t:List Int}(hP:0<P)(qY:P≤8)(h0:0≤x)(h1:x<(P*R:Nat))(ht:aH[x.toNat]?=some t):fJ [bB (aO P R aH aK),.int x]=some (dTup t):=by
 obtain⟨q,q1,q2⟩:=GK (aH:=aH) (aK:=aK) (b:=x.toNat) hP (show x.toNat<P*R by omega)
 have hl:=kW P R aH aK
 have:=GJ (s:=aO P R aH aK) (b:=x.toNat) (by omega) (by omega) (by rw[hl];exact q1) (by rw[hl];exact q2)
 rw[S2 h0,Ad ht]at this
 exact this
theorem Xa{P R:Nat}{aH:List (List Int)}{aK ord:List Int}{z:Int}(hP:0<P)(qY:P≤8)(hR:0<R)(hz:z=0∨z∈ord)(hc:Chain aH ord z)(hb:∀x∈ord,1≤x∧x<(P*R:Nat))(hn:ord.Nodup)(hl:ord.length≤64):pO [bB (aO P R aH aK)]=some (aU ord):=by
 suffices h:∃d,pO [bB (aO P R aH aK)]=some d∧d=aU ord by
  obtain⟨d,h1,rfl⟩:=h
  exact h1
 have hm:0<P*R:=Nat.mul_pos hP hR
 generalize hbd:P*R=m at *
 have nx:∀k,k≤ord.length→∃t:List Int,fJ [bB (aO P R aH aK),.int (([0]++ord).getD k 0)]=some (dTup t)∧dW (dTup t) (.int 1)=some (.int ((ord++[z]).getD k 0)):=λk hk=>by
  obtain⟨key,was,now,eE,h1⟩:=hc k hk
  have hx:([0]++ord).getD k 0∈[0]++ord:=getD_mem (by rw[B5];simp;omega)
  have hx2:0≤([0]++ord).getD k 0∧([0]++ord).getD k 0<((P*R:Nat):Int):=by
   rw[hbd]
   rcases G8.mp hx with q | q
   ·have:=F2.mp q;omega
   ·have:=hb _ q;omega
  exact⟨_,Eb hP qY hx2.1 hx2.2 h1,gB (by decide) rfl⟩
 refine dR rfl ?_
 unfold Gy
 walk_at "q"
 obtain⟨t0,ht0,hx0⟩:=nx 0 (K9 _)
 have aCw:fJ [bB (aO P R aH aK),.int 0]=some (dTup t0):=ht0
 walk_at "q"
 refine QT (n:=ord.length) (λn env=>n≤ord.length∧env=[.fro (bB (aO P R aH aK)),.own (.dk ((ord.take (ord.length-n)).map G4) ((ord.take (ord.length-n)).map λ_=>D.bl true)),.own (.int ((ord++[z]).getD (ord.length-n) 0))]) ⟨B7 _,by rw[L3];rfl⟩ (by omega) ?_ ?_
 ·rintro n env ⟨hnl,rfl⟩
  by_cases c:n=0
  ·left
   subst c
   have e:(ord++[z]).getD (ord.length-0) 0=z:=by rw[P7,A7,E6 (B7 _),L3];rfl
   rw[e]
   by_cases c0:z=0
   ·refine Jy (dB ((aQ rfl rfl (sG z 0)).trans ?_))
    rw[decide_eq_true c0]
    rfl
   ·refine(Rc (dB (b:=true) ((aQ rfl rfl (sG _ _)).trans ?_))).trans (dB (aQ rfl rfl ?_))
    ·rw[decide_eq_false c0];rfl
    ·show (some (D.bl (!(posK ((ord.take (ord.length-0)).map G4) (G4 z)).isSome)):Option D)=_
     rw[P7,U2]
     cases q:posK (ord.map G4) (G4 z:Key)with
     | some j=>rfl
     | none=>exact absurd (Vb.mpr (hz.resolve_left c0)) (wX.mp q)
  ·right
   generalize hk:ord.length-n=k
   have hkl:k<ord.length:=by omega
   have e:(ord++[z]).getD k 0=ord.getD k 0:=by rw[A7,A7,E8 hkl]
   have hx:=hb _ (getD_mem hkl)
   have hnew:ord.getD k 0∉ord.take k:=by
    intro zz
    obtain⟨j,hj,ej⟩:=I0 zz
    rw[K7]at hj
    rw[T3]at ej
    have:=vY hn (i:=j) (j:=k) (by omega) hkl (by omega)
    rw[A7,A6 (show j<ord.length by omega)]at this
    exact this ej
   rw[e]
   obtain⟨t,ht,hxt⟩:=nx (k+1) hkl
   have ht':fJ [bB (aO P R aH aK),.int (ord.getD k 0)]=some (dTup t):=ht
   refine⟨?_,by omega,_,VR (QS (k:=G4 (ord.getD k 0)) rfl rfl rfl rfl (De hnew) rfl (by rw[A5,K7];omega)) (zY (cL (aQ (bH (aD rfl (aD rfl rfl)) rfl ht') rfl hxt) rfl) (by walk_at "lt")),by omega,?_⟩
   ·refine(Rc (dB (b:=true) ((aQ rfl rfl (sG _ _)).trans ?_))).trans (dB (aQ rfl rfl ?_))
    ·rw[decide_eq_false (by omega)];rfl
    ·show (some _:Option D)=_
     rw[De hnew]
     rfl
   ·have e2:ord.length-(n-1)=k+1:=by omega
    have e3:ord.take (k+1)=ord.take k++[ord.getD k 0]:=by rw[List.take_add_one,pK (d:=0) hkl];rfl
    rw[e2,e3,G1,G1]
    rfl
 ·rintro env n ⟨hnl,rfl⟩ hf
  by_cases c:n=0
  ·subst c
   rw[P7,U2]
   apply lV (cZ (aD rfl rfl) rfl)
   exact⟨_,rfl,Wn ord⟩
  ·exfalso
   generalize hk:ord.length-n=k at hf
   have hkl:k<ord.length:=by omega
   have e:(ord++[z]).getD k 0=ord.getD k 0:=by rw[A7,A7,E8 hkl]
   have hx:=hb _ (getD_mem hkl)
   have hnew:ord.getD k 0∉ord.take k:=by
    intro zz
    obtain⟨j,hj,ej⟩:=I0 zz
    rw[K7]at hj
    rw[T3]at ej
    have:=vY hn (i:=j) (j:=k) (by omega) hkl (by omega)
    rw[A7,A6 (show j<ord.length by omega)]at this
    exact this ej
   rw[e]at hf
   have:(uH (fB (f2 Yb (aF 2) (fC (.int (0))))) (fB (f2 (Wb true) (aF 2) (aF 1)))) (rE [.fro (bB (aO P R aH aK)),.own (.dk ((ord.take k).map G4) ((ord.take k).map λ_=>D.bl true)),.own (.int (ord.getD k 0))])=some true:=by
    refine(Rc (dB (b:=true) ((aQ rfl rfl (sG _ _)).trans ?_))).trans (dB (aQ rfl rfl ?_))
    ·rw[decide_eq_false (by omega)];rfl
    ·show (some _:Option D)=_
     rw[De hnew]
     rfl
   rw[this]at hf
   cases hf
theorem Hx{c:D→D→Option Bool}{el:D→D→Option D}{β:D×D→Bool}:∀{xs:List (D×D)},(∀p∈xs,c p.1 p.2=some true)→(∀p∈xs,el p.1 p.2=some (.bl (β p)))→rJ c el xs=some (xs.map λp=>.bl (β p))
 | [],_,_=>rfl
 | (x,y)::r,h1,h2=>by
  unfold rJ
  rw[h1 (x,y) E5,C4,if_pos rfl,h2 (x,y) E5,C4,Hx (λp hp=>h1 p (D5 _ hp)) λp hp=>h2 p (D5 _ hp)]
  rfl
theorem RK{α:Type}(l:List α):tR l (some 1) none=l.drop 1:=by
 cases l with
 | nil=>rfl
 | cons a r=>exact jg (c:=1) (by simp)
theorem RL{α:Type}(p:α→Bool)(l:List α):NZ [.lst (l.map λx=>D.bl (p x))]=some (.bl (l.any p)):=by
 show (qT (l.map λx=>D.bl (p x))).map _=_
 rw[xF]
 show some (D.bl ((l.map p).any id))=_
 rw[List.any_map]
 rfl
section
variable{P R:Nat}{aH:List (List Int)}{aK ord:List Int}{z:Int}
theorem jo(od:List Int):dW (aU ([0]++od)) (.int (-1))=some (.int (([0]++od).getD od.length 0)):=Ke (by
  rw[T4,L8,show ([(0:Int)]++od).length-1=od.length by simp,pK (d:=(0:Int)) (by simp)]
  rfl)
abbrev R_(aH:List (List Int))(x:Int):List Int:=aH.getD x.toNat []
def Ec(aH:List (List Int))(x:Int):Bool:=decide ((R_ aH x).getD 4 0=0)&&decide ((R_ aH x).getD 3 0=-1)
theorem Ed(hP:0<P)(qY:P≤8)(hR:0<R)(hz:z=0∨z∈ord)(hc:Chain aH ord z)(hb:∀x∈ord,1≤x∧x<(P*R:Nat))(hn:ord.Nodup)(hl:ord.length≤64)(hlen:aH.length=P*R)(hrec:∀b∈aH,iT (P*R) b):∃b,eQ [bB (aO P R aH aK)]=some (.bl b) ∧
  (b=true↔z=0∧(∀x∈ord,Ec aH x=false)∧∀i,i+1<ord.length→(R_ aH (ord.getD i 0)).getD 0 0<(R_ aH (ord.getD (i+1) 0)).getD 0 0):=by
 have hm0:0<P*R:=Nat.mul_pos hP hR
 suffices hh:∃y,eQ [bB (aO P R aH aK)]=some y∧∃b,y=.bl b ∧
  (b=true↔z=0∧(∀x∈ord,Ec aH x=false)∧∀i,i+1<ord.length→(R_ aH (ord.getD i 0)).getD 0 0<(R_ aH (ord.getD (i+1) 0)).getD 0 0) by
  obtain⟨y,h1,b,rfl,h2⟩:=hh
  exact⟨b,h1,h2⟩
 refine dR rfl ?_
 unfold rN
 refine iD (d:=aU ord) (bH (aD rfl rfl) rfl (Xa hP qY hR hz hc hb hn hl)) (by walk_at "lt") ?_
 obtain⟨key,was,now,eE,e⟩:=hc ord.length (B7 _)
 have hy:(0:Int)≤([0]++ord).getD ord.length 0∧([0]++ord).getD ord.length 0<((P*R:Nat):Int):=by
  have:=getD_mem (l:=[0]++ord) (k:=ord.length) (by simp)
  rcases E9.mp this with q | q
  ·rw[q];omega
  ·have:=hb _ q;omega
 have e0:(ord++[z]).getD ord.length 0=z:=by
  rw[A7,E6 (B7 _),L3]
  rfl
 refine nO (dB (aQ (aQ (bH (aD rfl (aD (aQ (aQ (a:=aU [0]) (Ab (aD rfl rfl) (by decide)) rfl (Dd [0] ord (by simp;omega))) (sI rfl) (jo ord)) rfl)) rfl (Eb hP qY hy.1 hy.2 e)) rfl rfl) rfl (sG _ _))) (λhb1=>?_) (λhb1=>jG ?_)
 ·refine nQ rfl ⟨_,rfl,false,rfl,?_⟩
  rw[e0]at hb1
  constructor
  ·intro q;cases q
  ·rintro⟨q,_⟩
   rw[decide_eq_true q]at hb1
   cases hb1
 rw[e0]at hb1
 have z0:z=0:=by
  by_cases q:z=0
  ·exact q
  ·rw[decide_eq_false q]at hb1;cases hb1
 have hat:∀x∈ord,aH[x.toNat]?=some (R_ aH x):=λx hx=>by
  have x1:=hb x hx
  exact pK (by rw[hlen];omega)
 have yu:∀x∈ord,∃a b c d e:Int,R_ aH x=[a,b,c,d,e]:=λx hx=>by
  obtain⟨a,b,c,d,e,q,_⟩:=hrec _ (D2 (hat x hx))
  exact⟨a,b,c,d,e,q⟩
 refine iD (d:=.lst (ord.map λx=>dTup (R_ aH x))) (iW (xs:=ord) (ψ:=D.int) (φ:=λx=>dTup (R_ aH x)) (nM rfl) (by omega) λx hx=>by
  have x1:=hb x hx
  exact bH (aD rfl (aD rfl rfl)) rfl (Eb hP qY (by omega) x1.2 (hat x hx))) (by walk_at "lt") ?_
 have hc1:dJ (lJ (aF 2)) [] dX (jD (f2 pH (f2 dW (aF 0) (fC (.int (4)))) (fC (.int 0))) (f2 pH (f2 dW (aF 0) (fC (.int (3)))) (fC (.int (-1))))) (rE [.fro (bB (aO P R aH aK)),.own (aU ord),.own (.lst (ord.map λx=>dTup (R_ aH x)))])=some (.lst (ord.map λx=>D.bl (Ec aH x))):=by
  refine iW (xs:=ord) (ψ:=λx=>dTup (R_ aH x)) (φ:=λx=>D.bl (Ec aH x)) (nM rfl) (by omega) λx hx=>?_
  obtain⟨a,b,c,d,e,q⟩:=yu x hx
  unfold Ec
  rw[q]
  exact jV (aQ rfl rfl (iV e 0)) (aQ rfl rfl (iV d (-1)))
 refine nO (dB (cZ (aD hc1 rfl) (RL (Ec aH) ord))) (λha=>?_) (λha=>jG ?_)
 ·refine nQ rfl ⟨_,rfl,false,rfl,?_⟩
  constructor
  ·intro q;cases q
  ·rintro⟨_,q,_⟩
   obtain⟨x,hx,hxb⟩:=M7.mp ha
   rw[q x hx]at hxb
   cases hxb
 have hno:∀x∈ord,Ec aH x=false:=λx hx=>by
  cases q:Ec aH x with
  | false=>rfl
  | true=>rw[M7.mpr ⟨x,hx,q⟩]at ha;cases ha
 let kf:D→Int:=λd=>match d with | .tup (.int k::_)=>k | _=>0
 have yw:∀x∈ord,kf (dTup (R_ aH x))=(R_ aH x).getD 0 0:=λx hx=>by
  obtain⟨a,b,c,d,e,q⟩:=yu x hx
  rw[q]
  rfl
 have hzp:xQ (aF 2) (IW false (aF 2) (oZ (fC (.int 1))) (uI)) [] dX (f2 Xz (f2 dW (aF 0) (fC (.int (0)))) (f2 dW (aF 1) (fC (.int (0))))) (rE [.fro (bB (aO P R aH aK)),.own (aU ord),.own (.lst (ord.map λx=>dTup (R_ aH x)))])=some (.lst (((ord.map λx=>dTup (R_ aH x)).zip ((ord.map λx=>dTup (R_ aH x)).drop 1)).map λp=>.bl (decide (kf p.1<kf p.2)))):=by
  have hs:=Rj (b:=false) (f:=aF 2) (l:=oZ (fC (.int 1))) (h:=uI) (e:=rE [.fro (bB (aO P R aH aK)),.own (aU ord),.own (.lst (ord.map λx=>dTup (R_ aH x)))]) (lo:=some 1) (hi:=none) (ds:=ord.map λx=>dTup (R_ aH x)) rfl (Gs rfl) rfl (.inl rfl)
  rw[RK]at hs
  unfold xQ
  rw[show aF 2 (rE [.fro (bB (aO P R aH aK)),.own (aU ord),.own (.lst (ord.map λx=>dTup (R_ aH x)))])=some (.lst (ord.map λx=>dTup (R_ aH x)))from rfl,C4,hs,C4]
  dsimp only
  rw[if_pos (by rw[A5];omega),Hx (β:=λp=>decide (kf p.1<kf p.2)) (λ_ _=>rfl) λp hp=>?_]
  ·rfl
  have m1:=N5 hp
  obtain⟨x,hx,e1⟩:=D6.mp m1.1
  obtain⟨y,hy',e2⟩:=D6.mp (R5 m1.2)
  obtain⟨a1,a2,a3,a4,a5,q1⟩:=yu x hx
  obtain⟨c1,c2,c3,c4,c5,q2⟩:=yu y hy'
  rw[←e1,←e2,q1,q2]
  exact aQ rfl rfl (zZ a1 c1)
 refine lV (cZ (aD hzp rfl) (lM (λp:D×D=>decide (kf p.1<kf p.2)) _)) ⟨_,rfl,_,rfl,?_⟩
 rw[F3]
 have hmem:∀i (h1:i+1<ord.length),(dTup (R_ aH (ord.getD i 0)),dTup (R_ aH (ord.getD (i+1) 0)))∈(ord.map λx=>dTup (R_ aH x)).zip ((ord.map λx=>dTup (R_ aH x)).drop 1):=λi h1=>by
  have hlz:i<((ord.map λx=>dTup (R_ aH x)).zip ((ord.map λx=>dTup (R_ aH x)).drop 1)).length:=by
   rw[N6,J0,A5];omega
  have:=F4 hlz
  rw[P6,M9,T5,M9]at this
  have e1:ord.getD i 0=ord[i]'(by omega):=by rw[A7,A6 (show i<ord.length by omega)];rfl
  have e2:ord.getD (i+1) 0=ord[1+i]'(by omega):=by
   rw[A7,A6 h1]
   show ord[i+1]=_
   congr 1
   omega
  rw[e1,e2]
  exact this
 have yx:∀i,i<ord.length→ord.getD i 0∈ord:=λi hi=>getD_mem hi
 constructor
 ·intro hall
  refine⟨z0,hno,λi h1=>?_⟩
  have:=of_decide_eq_true (hall _ (hmem i h1))
  rw[yw _ (yx i (by omega)),yw _ (yx (i+1) h1)]at this
  exact this
 ·rintro⟨_,_,hk⟩ p hp
  obtain⟨i,hi,ei⟩:=I0 hp
  rw[N6,J0,A5]at hi
  have h1:i+1<ord.length:=by omega
  have q:=hk i h1
  have e1:ord.getD i 0=ord[i]'(by omega):=by rw[A7,A6 (show i<ord.length by omega)];rfl
  have e2:ord.getD (i+1) 0=ord[1+i]'(by omega):=by
   rw[A7,A6 h1]
   show ord[i+1]=_
   congr 1
   omega
  rw[P6,M9,T5,M9]at ei
  rw[←yw _ (yx i (by omega)),←yw _ (yx (i+1) h1),e1,e2]at q
  rw[←ei]
  exact decide_eq_true q
theorem wC{s:List (List Int)}(hrec:∀b∈aH,iT (P*R) b)(hlen:aH.length=P*R)(hs0:∀s∈aK,0≤s)(uB:R≤8)(hs:s∈aO P R aH aK):∃(q:List (List Int))(x:Int),s=q++[[x]]∧q.length=R∧(∀t∈q,iT (P*R) t)∧0≤x:=by
 unfold aO at hs
 obtain⟨p,hp,rfl⟩:=D6.mp hs
 have hp:=F8.mp hp
 refine⟨_,_,rfl,by rw[A5,D3],λt ht=>?_,?_⟩
 ·obtain⟨r,hr,rfl⟩:=D6.mp ht
  have:=FZ hp (F8.mp hr)
  exact hrec _ (D2 (pK (by rw[hlen];exact this)))
 ·rw[A7]
  cases q:aK[p]? with
  | none=>exact Q5 _
  | some x=>exact hs0 x (D2 q)
theorem Oz{c:Bool}(hP:0<P)(qY:P≤8)(hR:0<R)(uB:R≤8)(hlen:aH.length=P*R)(hrec:∀b∈aH,iT (P*R) b)(hs0:∀s∈aK,0≤s)(h:eQ [bB (aO P R aH aK)]=some (.bl c)):bV [bB (aO P R aH aK)]=some (.bl c):=by
 rw[Om]at h ⊢
 have hl:=kW P R aH aK
 have hl2:((aO P R aH aK).map λq=>q.map dTup).length=P:=by rw[A5,hl]
 refine Wz (R:=R) (by omega) (by omega) hR uB (λq hq=>?_) (λq hq=>?_) h
 ·obtain⟨s,hs,rfl⟩:=D6.mp hq
  rw[A5,mK hs]
 ·obtain⟨s,hs,rfl⟩:=D6.mp hq
  obtain⟨q,x,rfl,h1,h2,h3⟩:=wC hrec hlen hs0 uB hs
  rw[hl2]
  exact Ox h2 h3 (by omega)
theorem Ef{a j:Nat}{s:List (List Int)}{d:D}(hP:0<P)(qY:P≤8)(hR:0<R)(uB:R≤8)(hlen:aH.length=P*R)(hrec:∀b∈aH,iT (P*R) b)(hs0:∀s∈aK,0≤s)(ha:(aO P R aH aK)[a]?=some s)(hj:j≤R)(hs:j=R→mJ [d]=some (.bl false))(hr:j<R→dC [d,.int ((P*R:Nat):Int)]=some (.bl false)) :
    bV [.lst (((aO P R aH aK).map bR).set a (.lst ((s.map dTup).set j d)))]=some (.bl false):=by
  have hl:=kW P R aH aK
  have e:(((aO P R aH aK).map bR).set a (.lst ((s.map dTup).set j d)))=((((aO P R aH aK).map λq=>q.map dTup).set a ((s.map dTup).set j d)).map D.lst):=by
    rw[N8,G3]
    rfl
  rw[e]
  have hl2:(((aO P R aH aK).map λq=>q.map dTup).set a ((s.map dTup).set j d)).length=P:=by rw[D7,A5,hl]
  have hbad:cQ [.lst ((s.map dTup).set j d),.int ((P*R:Nat):Int)]=some (.bl false):=by
    obtain⟨q,x,rfl,h1,h2,h3⟩:=wC hrec hlen hs0 uB (D2 ha)
    exact GQ h2 h3 (by omega) (by omega) (λz=>hs (by omega)) (λz=>hr (by omega))
  have hal:a<P:=by have:=(C9.mp ha).1;omega
  have cs:∀q∈((aO P R aH aK).map λq=>q.map dTup).set a ((s.map dTup).set j d),(∃t∈aO P R aH aK,q=t.map dTup)∨q=(s.map dTup).set j d:=λq hq=>by
    rcases J4 hq with z | z
    · obtain⟨t,ht,rfl⟩:=D6.mp z
      exact .inl ⟨t,ht,rfl⟩
    · exact .inr z
  refine Rw (R:=R) (by omega) (by omega) hR uB (λq hq=>?_) (λq hq=>?_) ⟨_,N9 (by rw[A5,hl];exact hal) _,by rw[hl2];exact hbad⟩
  · rcases cs q hq with ⟨t,ht,rfl⟩ | rfl
    · rw[A5,mK ht]
    · rw[D7,A5,mK (D2 ha)]
  · rw[hl2]
    rcases cs q hq with ⟨t,ht,rfl⟩ | rfl
    · obtain⟨q,x,rfl,h1,h2,h3⟩:=wC hrec hlen hs0 uB ht
      exact⟨_,Ox h2 h3 (by omega)⟩
    · exact⟨_,hbad⟩
end
theorem uZ{i a b:Nat}{f f' g:FE}{env:EN}{s:List (List (List Int))}{q:List (List Int)}{t:List Int}(h1:env[i]?=some (.own (bB s)))(h2:g (rE env)=some (.int (a:Int)))(h3:f (rE env)=some (.int (b:Int)))(h4:f' (rE env)=some (dTup t))(h5:s[a]?=some q)(h6:b<q.length) :
  jF i (Ul gU g) f f' env=.next (env.set i (.own (bB (s.set a (q.set b t))))):=by
 have hk:(s.map bR)[a]?=some (bR q):=by rw[B8,h5];rfl
 have hp:Ul gU g (rE env)=some [.ix a]:=by
  unfold Ul gU
  rw[C4,h2,C4]
  dsimp only
  rw[if_pos (by omega),C7]
  rfl
 have hget:lK [.ix a] (bB s)=some (.lst (q.map dTup)):=by
  show ((s.map bR)[a]?).bind (lK [])=_
  rw[hk]
  rfl
 have aAN:∀d:List D,jR [.ix a] (bB s) (.lst d)=.lst ((s.map bR).set a (.lst d)):=λd=>by
  show (match (s.map bR)[a]? with | some c=>_ | none=>_)=_
  rw[hk]
  rfl
 have hix:Ek (q.map dTup).length (b:Int)=some b:=by
  unfold Ek
  rw[if_pos (by omega),if_pos (by rw[A5];omega),C7]
 unfold jF
 rw[h1,hp,h3,h4]
 dsimp only
 rw[hget]
 dsimp only
 rw[hix]
 dsimp only
 rw[aAN,←N8]
 show SR.next (env.set i (.own (.lst ((s.map bR).set a (bR (q.set b t))))))=_
 rw[←N8]
 rfl
theorem Rx{P R:Nat}{aH:List (List Int)}{aK:List Int}{b:Nat}{t:List Int}{q:List (List Int)}(hP:0<P)(hb:b<P*R)(hl:aH.length=P*R)(hq:(aO P R aH aK)[b%P]?=some q):(aO P R aH aK).set (b%P) (q.set (b/P) t)=aO P R (aH.set b t) aK:=by
 have h1:b%P<P:=Nat.mod_lt _ hP
 have h2:b/P<R:=R6 hb
 rw[oV h1]at hq
 cases hq
 apply P0
 intro p
 by_cases hp:p<P
 ·rw[oV (aH:=aH.set b t) hp]
  by_cases c:b%P=p
  ·rw[c,D1 (by rw[kW];exact hp)]
   congr 1
   apply P0
   intro r
   by_cases hr:r<R
   ·rw[Dy (aH:=aH.set b t) hr]
    by_cases cr:b/P=r
    ·rw[cr,D1 (by rw[B5,A5,D3];omega)]
     have e:p+P*r=b:=by rw[←c,←cr];exact V1 b P
     rw[e,A7,D1 (by omega)]
     rfl
    ·rw[C8 cr,Dy hr]
     have e:b≠p+P*r:=λz=>cr (by
      rw[z,Nat.add_mul_div_left _ _ hP,Nat.div_eq_of_lt hp,N7])
     rw[A7,A7,C8 e]
   ·by_cases cr:r=R
    ·rw[cr,C8 (by omega),Hu,Hu]
    ·rw[K5 (by rw[D7,B5,A5,D3];simp;omega),K5 (by rw[B5,A5,D3];simp;omega)]
  ·rw[C8 c,oV hp]
   congr 2
   apply S0
   intro r _
   have e:b≠p+P*r:=λz=>c (by rw[z,Nat.add_mul_mod_self_left,Nat.mod_eq_of_lt hp])
   rw[A7,A7,C8 e]
 ·rw[K5 (by rw[D7,kW];omega),K5 (by rw[kW];omega)]
section
variable{env:EN}{Pr:SR→Prop}{i j k:Nat}{π:FP}{f g:FE}{d d0:D}{p:List L2.Step}{ds:List D}
theorem wD{e:DE}(h:g e=some (.int (k:Int))):Ul gU g e=some [.ix k]:=by
 unfold Ul gU
 rw[C4,h,C4]
 dsimp only
 rw[if_pos (by omega),C7]
 rfl
theorem Ai{c:D}(h:ds[k]?=some c):lK [.ix k] (.lst ds)=some c:=by
 show (ds[k]?).bind (lK [])=_
 rw[h]
 rfl
theorem Aj{c:D}(h:ds[k]?=some c)(d:D):jR [.ix k] (.lst ds) d=.lst (ds.set k d):=by
 show (match ds[k]? with | some c=>_ | none=>_)=_
 rw[h]
 rfl
theorem Ld{n:Nat}(h:j<n):Ek n (j:Int)=some j:=by
 unfold Ek
 rw[if_pos (by omega),if_pos (by omega),C7]
theorem qW{a b c:GS}(h:Qs Pr (aW a (aW b c) env)):Qs Pr (aW (aW a b) c env):=by
 have e:aW (aW a b) c env=aW a (aW b c) env:=by
  unfold aW
  cases a env<;>rfl
 rw[e]
 exact h
theorem Ry{g1 g2:GS}(h:g1 env=.ret d)(k:Pr (.ret d)):Qs Pr (aW g1 g2 env):=by rw[Ci h];exact k
theorem Hy{g1:GS}(h:g1 env=.ret d)(k:Pr (.ret d)):Qs Pr (g1 env):=by rw[h];exact k
theorem oW(h:env[i]?=some (.own (.lst ds))):qI i env=.ret (.tup ds):=by unfold qI;rw[h]
theorem Pa(h1:env[i]?=some (.own d0))(hp:π (rE env)=some p)(h2:f (rE env)=some (.int (k:Int)))(hg:lK p d0=some (.lst ds))(hk:k<ds.length)(hl:ds.length<1000):Cg i π f env=.next (env.set i (.own (jR p d0 (.lst (ds.eraseIdx k))))):=by
 unfold Cg
 rw[h1,hp,h2]
 dsimp only
 rw[hg]
 dsimp only
 rw[if_pos ⟨by omega,by rw[C7];exact hk,hl⟩,C7]
theorem GR(h1:env[i]?=some (.own d0))(hp:π (rE env)=some p)(h2:g (rE env)=some (.int 0))(h3:f (rE env)=some d)(hg:lK p d0=some (.lst ds))(hl:ds.length<1000):Gm i π g f env=.next (env.set i (.own (jR p d0 (.lst (d::ds))))):=by
 unfold Gm
 rw[h1,hp,h2,h3]
 dsimp only
 rw[hg]
 dsimp only
 rw[if_pos ⟨rfl,hl⟩]
theorem nY(h1:env[i]?=some (.own d0))(hp:π (rE env)=some p)(h2:g (rE env)=some (.int (k:Int)))(h3:f (rE env)=some d)(hg:lK p d0=some (.lst ds))(hk:k<ds.length):jF i π g f env=.next (env.set i (.own (jR p d0 (.lst (ds.set k d))))):=by
 unfold jF
 rw[h1,hp,h2,h3]
 dsimp only
 rw[hg]
 dsimp only
 rw[Ld hk]
theorem Hz(hj:env[j]?=some (.own d))(h1:(env.set j .no)[i]?=some (.own d0))(hp:π (rE (env.set j .no))=some p)(h2:g (rE (env.set j .no))=some (.int (k:Int)))(hg:lK p d0=some (.lst ds))(hk:k<ds.length):uL i π g j env=.next ((env.set j .no).set i (.own (jR p d0 (.lst (ds.set k d))))):=by
 unfold uL
 rw[hj]
 dsimp only
 rw[h1,hp,h2]
 dsimp only
 rw[hg]
 dsimp only
 rw[Ld hk]
theorem RM{q t a:Nat}{f2 f3:FE}{cs:List D}(h1:env[i]?=some (.own d0))(hp:π (rE env)=some p)(hg:lK p d0=some (.lst cs))(hc:i≠q∧i≠t∧q≠t∧q<env.length∧t<env.length)(h2:f2 (rE (env.set q (.fro (.lst cs))))=some (.int (a:Int))) (h3:f3 (rE ((env.set q (.fro (.lst cs))).set t (.fro (.int (a:Int)))))=some d) (ha:a<cs.length):CJ i π q t f2 f3 env=.ret (jR p d0 (.lst (cs.set a d))):=by
 unfold CJ
 rw[h1,hp]
 dsimp only
 rw[hg]
 dsimp only
 rw[if_pos hc,h2]
 dsimp only
 rw[h3,Ld ha]
theorem jq{o b:Nat}{f1 fe:FE}{es:List D}(h1:env[b]?=some (.own (.lst ds)))(h2:f1 (rE env)=some (.lst es))(h3:fe (rE ((env.set b .no).set o .no))=some (.int (k:Int)))(hc:o≠b∧o<env.length∧ds.length≤1000∧es.length≤1000)(hd:(es++[.tup ds,.dk [.inl 0] [.lst ds],.lst [],.lst (ds++[.non])])[k]?=some d):CK o b f1 fe env=.ret d:=by
 unfold CK
 rw[h1,h2,h3]
 dsimp only
 rw[if_pos hc,show Av (es++[.tup ds,.dk [.inl 0] [.lst ds],.lst [],.lst (ds++[.non])]) (k:Int)=some d from Ck (by omega) (by rw[C7];exact hd)]
theorem Vf{c:D}(h:ds[k]?=some c):BX (.lst ds) (.int (k:Int))=some c:=Ck (by omega) (by rw[C7];exact h)
theorem natOf{x:Int}{n:Nat}(h0:0≤x)(h1:x<n):∃k:Nat,x=(k:Int)∧k<n:=⟨x.toNat,by omega,by omega⟩
end
def Bad(m:Int)(t:List Int)(d:D):Prop:=(t.length=1→mJ [d]=some (.bl false))∧(t.length=5→dC [d,.int m]=some (.bl false))
theorem Le{m:Int}{t:List Int}{d:D}(h:dZ [d,.int (t.length:Int)]=some (.bl false)):Bad m t d:=⟨λe=>Hw (by rw[e]at h;exact h),λe=>Ov (by rw[e]at h;exact h)⟩
theorem RN{t:List Int}{j:Nat}{d:D}{ty:String}(hj:j<t.length)(hl:t.length≤1000)(ht:Wk d=some ty)(hw:(nZ ty "int" && !nZ ty "bool")=false) (n:Int):dZ [.tup ((t.map D.int).set j d),.int n]=some (.bl false):=by
 have hd:iG [d]=some (.bl false):=(zL ht).trans (by rw[hw])
 obtain⟨b,h1,h2⟩:=wA (ds:=(t.map D.int).set j d) (n:=n) (by rw[D7,A5];exact hl) λe he=>by
  rcases J4 he with z | z
  ·obtain⟨i,_,rfl⟩:=D6.mp z
   exact⟨_,rR i⟩
  ·rw[z];exact⟨_,hd⟩
 cases b with
 | false=>exact h1
 | true=>
  have:=(h2.mp rfl).2 d (N9 (by rw[A5];exact hj) d)
  rw[hd]at this
  cases this
theorem Xb{ns:List Int}:dList [dTup ns]=some (aU ns):=by
 unfold dList dTup
 show (some (ns.map D.int)).bind _=_
 rw[C4,if_pos (nD ns)]
theorem RP{ns t:List Int}{m:Int}(hl:ns.length≤63)(ht:t.length=1∨t.length=5):∃d,vX [aU ns,dTup t,.int m]=some d∧Bad m t d:=by
 refine dR rfl ?_
 unfold Nk
 have hd0:=gW (k:=414) hl (by decide) (by decide)
 have hg0:=jZ (k:=415) hl (by decide) (by decide)
 have hgb:=(rQ ns 415).1
 have xf:=(lF ns 414).1
 generalize fV ns 414=r at hd0 xf
 generalize jY ns 415=gr at hg0 hgb
 have hli:=Xb (ns:=t)
 have hlen:=mQ t
 have t0:(0:Int)<t.length:=by omega
 walk_at "q"
 walk_at "q"
 walk_at "q"
 obtain⟨a,ea,ha⟩:=natOf (n:=t.length) (B9 (r/4) (show (t.length:Int)≠0 by omega)) (B6 (r/4) t0)
 rw[ea]
 apply nO
 ·walk_at "et"
 ·intro _
  obtain⟨k,ek,hk⟩:=natOf (n:=5) (B9 (r/64) (by decide:(5:Int)≠0)) (B6 (r/64) (by decide:(0:Int)<5))
  have key:∃c ty,([D.bl true,.non,.str "1", .tup [.int 1],.lst [.int 1]]:List D)[k]?=some c∧Wk c=some ty∧(nZ ty "int" && !nZ ty "bool")=false:=by
   match k,hk with
   | 0,_=>exact⟨_,_,rfl,rfl,by decide⟩
   | 1,_=>exact⟨_,_,rfl,rfl,by decide⟩
   | 2,_=>exact⟨_,_,rfl,rfl,by decide⟩
   | 3,_=>exact⟨_,_,rfl,rfl,by decide⟩
   | 4,_=>exact⟨_,_,rfl,rfl,by decide⟩
  obtain⟨c,ty,hc,hty,hw⟩:=key
  refine qW (rK (nY (k:=a) (d:=c) (p:=[]) (ds:=t.map D.int) rfl rfl rfl ?_ rfl (by rw[A5];exact ha)) (Ry (oW rfl) ⟨_,rfl,Le (RN ha (by omega) hty hw _)⟩))
  refine aQ (a:=.lst [D.bl true,.non,.str "1", .tup [.int 1],.lst [.int 1]]) (b:=.int (k:Int)) ?_ ?_ (Vf hc)
  ·walk_at "ev"
  ·rw[←ek]
   walk_at "ev"
 intro _
 refine jG ?_
 apply nO
 ·walk_at "et"
 ·intro _
  refine qW ?_
  apply nO
  ·walk_at "et"
  ·intro _
   refine vz (ds:=t.map D.int) (d:=.int 1) rfl rfl (by rw[A5];omega) (Ry (oW rfl) ⟨_,rfl,Le (vZ ?_)⟩)
   rw[B5,A5]
   show ((t.length+1:Nat):Int)≠_
   omega
  ·intro _
   refine rK (Pa (k:=a) (p:=[]) (ds:=t.map D.int) rfl rfl rfl rfl (by rw[A5];exact ha) (by rw[A5];omega)) (Ry (oW rfl) ⟨_,rfl,Le (vZ ?_)⟩)
   rw[R7,A5,if_pos ha]
   omega
 intro _
 refine jG ?_
 apply nO
 ·walk_at "et"
 ·intro _
  exact Ry (pJ rfl) ⟨_,rfl,Le (rT (t := "list") rfl (by decide))⟩
 intro _
 refine jG ?_
 apply nO
 ·walk_at "et"
 ·intro hb
  have h1:t.length=1:=by have:=of_decide_eq_true hb;omega
  refine nQ (d:=dTup [-1-gr]) ?_ ⟨_,rfl,λ_=>?_,λz=>by omega⟩
  ·show _=some (D.tup [.int (-1-gr)])
   walk_at "ev"
  ·rw[uY,decide_eq_false (by omega)]
 intro hb
 have h5:t.length=5:=by have:=of_decide_eq_false hb;omega
 refine jG ?_
 obtain⟨x0,x1,x2,x3,x4,rfl⟩:∃x0 x1 x2 x3 x4,t=[x0,x1,x2,x3,x4]:=by
  match t,h5 with
  | [x0,x1,x2,x3,x4],_=>exact⟨_,_,_,_,_,rfl⟩
 walk_at "q"
 obtain⟨k,ek,hk⟩:=natOf (n:=4) (B9 (r/4) (by decide:(4:Int)≠0)) (B6 (r/4) (by decide:(0:Int)<4))
 rw[ek]
 clear ek ea hd0
 have two:∀(y:Int)(cs:List Int),0≤r/128%3∧(¬(y=0)→True):=λy cs=>⟨B9 _ (by decide),λ_=>trivial⟩
 have h3:=(two 0 []).1
 match k,hk with
 | 0,_=>
  refine rK (nY (k:=1) (d:=.int (0-1-gr)) (p:=[]) (ds:=[x0,x1,x2,x3,x4].map D.int) rfl rfl rfl ?_ rfl (D8 rfl)) ?_
  ·exact aQ (aQ (aQ rfl rfl rfl) rfl (eO 0 1)) (bH (aD rfl (aD rfl rfl)) rfl hg0) (eO _ _)
  apply nO
  ·exact Ka (dB (aQ rfl rfl (iV _ _))) (dB (aQ (aQ (aQ rfl rfl (fQ (by decide) (by decide))) rfl (cV (by decide))) rfl (iV _ _)))
  ·intro _
   refine rK (nY (k:=1) (d:=.int (m+r/128%3)) (p:=[]) (ds:=[.int x0,.int (0-1-gr),.int x2,.int x3,.int x4]) rfl rfl rfl ?_ rfl (D8 rfl)) (Hy (oW rfl) ⟨_,rfl,(λz=>by cases z),λ_=>?_⟩)
   ·exact aQ rfl (aQ (aQ rfl rfl (fQ (by decide) (by decide))) rfl (cV (by decide))) (pI _ _)
   ·refine(mW x0 (m+r/128%3) x2 x3 x4 m).trans ?_
    rw[decide_eq_false (show ¬m+r/128%3<m by omega),F5]
    rfl
  ·intro _
   refine jG (Hy (oW rfl) ⟨_,rfl,(λz=>by cases z),λ_=>?_⟩)
   refine(mW x0 (0-1-gr) x2 x3 x4 m).trans ?_
   rw[decide_eq_false (show ¬0≤0-1-gr by omega)]
   rfl
 | 1,_=>
  refine rK (nY (k:=2) (d:=.int (-1-1-gr)) (p:=[]) (ds:=[x0,x1,x2,x3,x4].map D.int) rfl rfl rfl ?_ rfl (D8 rfl)) ?_
  ·exact aQ (aQ (aQ rfl rfl rfl) rfl (eO (-1) 1)) (bH (aD rfl (aD rfl rfl)) rfl hg0) (eO _ _)
  refine nP (b:=false) (Jy (dB (aQ rfl rfl (iV _ _)))) rfl (jG (Hy (oW rfl) ⟨_,rfl,(λz=>by cases z),λ_=>?_⟩))
  refine(mW x0 x1 (-1-1-gr) x3 x4 m).trans ?_
  rw[decide_eq_false (show ¬ -1-1-gr≥-1 by omega),O3,F5]
 | 2,_=>
  refine rK (nY (k:=3) (d:=.int (-1-1-gr)) (p:=[]) (ds:=[x0,x1,x2,x3,x4].map D.int) rfl rfl rfl ?_ rfl (D8 rfl)) ?_
  ·exact aQ (aQ (aQ rfl rfl rfl) rfl (eO (-1) 1)) (bH (aD rfl (aD rfl rfl)) rfl hg0) (eO _ _)
  refine nP (b:=false) (Jy (dB (aQ rfl rfl (iV _ _)))) rfl (jG (Hy (oW rfl) ⟨_,rfl,(λz=>by cases z),λ_=>?_⟩))
  refine(mW x0 x1 x2 (-1-1-gr) x4 m).trans ?_
  rw[decide_eq_false (show ¬ -1-1-gr≥-1 by omega),O3,F5,F5]
 | 3,_=>
  refine rK (nY (k:=4) (d:=.int (0-1-gr)) (p:=[]) (ds:=[x0,x1,x2,x3,x4].map D.int) rfl rfl rfl ?_ rfl (D8 rfl)) ?_
  ·exact aQ (aQ (aQ rfl rfl rfl) rfl (eO 0 1)) (bH (aD rfl (aD rfl rfl)) rfl hg0) (eO _ _)
  refine nP (b:=false) (Jy (dB (aQ rfl rfl (iV _ _)))) rfl (jG (Hy (oW rfl) ⟨_,rfl,(λz=>by cases z),λ_=>?_⟩))
  refine(mW x0 x1 x2 x3 (0-1-gr) m).trans ?_
  rw[decide_eq_false (show ¬0-1-gr≥0 by omega),F5,F5,F5]
def vA(P R:Nat):List (List (List Int)):=(C5 P).map λ_=>((C5 R).map λ_=>[0,0,-1,-1,0])++[[0]]
theorem Pb(R:Nat):bR (((C5 R).map λ_=>[0,0,-1,-1,0])++[[0]])=.lst (((C5 R).map λ_=>dTup [0,0,-1,-1,0])++[dTup [0]]):=by
 unfold bR
 rw[G1,G3]
 rfl
theorem Rz(R:Nat):D.fG (((C5 R).map λ_=>dTup [0,0,-1,-1,0])++[dTup [0]])=true:=by
 rw[Cw,vP (λd hd=>by obtain⟨r,_,rfl⟩:=D6.mp hd;exact jW _)]
 rfl
theorem zM{P R:Nat}(hP:P≤12)(hR:R≤12):mR [.int P,.int R]=some (bB (vA P R)):=by
 suffices h:∃d,mR [.int P,.int R]=some d∧d=bB (vA P R) by
  obtain⟨d,h1,rfl⟩:=h
  exact h1
 refine dR rfl ?_
 unfold Hh
 walk_at "q"
 refine sJ (n:=P) (λn env=>∃v,env=[.fro (.int P),.fro (.int R),.own (.lst ((C5 n).map λ_=>bR (((C5 R).map λ_=>[0,0,-1,-1,0])++[[0]]))),v]) (lE (aD rfl rfl) (by omega)) ⟨_,rfl⟩ ?_ ?_
 ·rintro k env hk ⟨v,rfl⟩
  refine⟨by walk_at "lt", ?_⟩
  refine DN (d:=bR (((C5 R).map λ_=>[0,0,-1,-1,0])++[[0]])) rfl ?_ (by rw[A5,D3];omega) ?_
  ·rw[Pb]
   refine aQ (uN (n:=R) (φ:=λ_=>dTup [0,0,-1,-1,0]) (lE (aD rfl rfl) (by omega)) (by omega) λk hk=>?_) (Ab (aD (sH (aD rfl rfl) (by walk_at "lt")) rfl) (by walk_at "lt")) (xW (Rz R) (by rw[A5,D3];simp;omega))
   show _=some (D.tup [.int 0,.int 0,.int (-1),.int (-1),.int 0])
   walk_at "ev"
  ·refine⟨_,rfl,.fro (.int k),?_⟩
   rw[V0,G1]
   rfl
 ·rintro env' ⟨v,rfl⟩
  apply Kd rfl
  refine⟨_,rfl,?_⟩
  unfold bB vA
  rw[G3]
  rfl
theorem Sd{ds:List D}(h:D.fG ds=true):wZ [.lst ds]=some (.tup ds):=by
 have e:wZ [.lst ds]=(some ds).bind λds=>if D.fG ds=true then some (.tup ds)else none:=by unfold wZ;rfl
 rw[e,C4,if_pos h]
theorem Pg{ps:List (List D)}{n a:Nat}{q:List D}(h2:2≤ps.length)(h8:ps.length≤8)(h:∀q∈ps,q.length=n)(ha:a<ps.length)(hq:q.length≠n):jX [Ol (ps.set a q)]=some (.bl false):=by
 have hl:(ps.set a q).length=ps.length:=D7
 by_cases c:a=0
 ·subst c
  refine Lb (q0:=q) (q:=ps[1]) (by rw[D1 ha]) (by omega) ?_ (.inr (.inr (by rw[h _ (F4 _)];exact λz=>hq z.symm)))
  refine D2 (i:=1) ?_
  rw[C8 (by decide),A6]
 ·refine Lb (q0:=ps[0]) (q:=q) ?_ (by omega) (N9 ha q) (.inr (.inr (by rw[h _ (F4 _)];exact hq)))
  rw[C8 c,A6]
theorem Ib{S:List D}{a:Nat}{c:D}{t:String}(hS:∀d∈S,∃q,d=D.lst q)(ha:a<S.length)(h8:S.length≤8)(ht:Wk c=some t)(hc:Oo c=false):bV [.lst (S.set a c)]=some (.bl false):=by
 refine gF (Oq (by rw[D7];omega) (by rw[D7];exact h8) (λd hd=>?_) ⟨c,N9 ha c,hc⟩)
 rcases J4 hd with z | z
 ·obtain⟨q,rfl⟩:=hS d z
  exact⟨_,rfl⟩
 ·rw[z];exact⟨t,ht⟩
section
variable{ns:List Int}{P R:Nat}{aH:List (List Int)}{aK:List Int}
theorem zA:∀d∈(aO P R aH aK).map bR,∃q,d=D.lst q:=λd hd=>by
 obtain⟨q,_,rfl⟩:=D6.mp hd
 exact⟨_,rfl⟩
theorem Ie{a:Nat}{q:List D}(h2:2≤P)(h8:P≤8)(ha:a<P)(hq:q.length≠R+1):bV [.lst (((aO P R aH aK).map bR).set a (.lst q))]=some (.bl false):=by
 have hl:=kW P R aH aK
 have e:((aO P R aH aK).map bR).set a (.lst q)=((((aO P R aH aK).map λq=>q.map dTup).set a q).map D.lst):=by
  rw[N8,G3]
  rfl
 rw[e]
 refine gF (Pg (n:=R+1) (by rw[A5];omega) (by rw[A5];omega) (λq hq=>?_) (by rw[A5];omega) hq)
 obtain⟨s,hs,rfl⟩:=D6.mp hq
 rw[A5,mK hs]
theorem GX{w:Int}(hl:ns.length≤63)(hP:0<P)(qY:P≤8)(hR:0<R)(uB:R≤8)(w0:0≤w)(w4:w<4):∃d,sZ [aU ns,bB (aO P R aH aK),.int w]=some d∧bV [d]=some (.bl false):=by
 have hS:=kW P R aH aK
 have hls:=mV (aO P R aH aK)
 rw[hS]at hls
 have hd0:=gW (k:=416) hl (by decide) (by decide)
 have xf:=(lF ns 416).1
 refine dR rfl ?_
 unfold Hi
 generalize fV ns 416=r at hd0 xf
 have hlS:((aO P R aH aK).map bR).length=P:=by rw[A5,hS]
 walk_at "q"
 walk_at "q"
 refine iD (pX (s:=aO P R aH aK) rfl (by omega)) (by walk_at "lt") ?_
 apply nO
 ·walk_at "et"
 ·intro _
  obtain⟨k,ek,hk⟩:=natOf (n:=9) (B9 r (by decide:(9:Int)≠0)) (B6 r (by decide:(0:Int)<9))
  have key:∃d,(([.non,.int 7,.bl true,.str "0,0,-1,-1,0 0", .tup [.int 0]]:List D)++[.tup ((aO P R aH aK).map bR),.dk [.inl 0] [.lst ((aO P R aH aK).map bR)],.lst [],.lst ((aO P R aH aK).map bR++[.non])])[k]?=some d∧bV [d]=some (.bl false):=by
   match k,hk with
   | 0,_=>exact⟨_,rfl,gF (nW (t := "NoneType") rfl (by decide))⟩
   | 1,_=>exact⟨_,rfl,gF (nW (t := "int") rfl (by decide))⟩
   | 2,_=>exact⟨_,rfl,gF (nW (t := "bool") rfl (by decide))⟩
   | 3,_=>exact⟨_,rfl,gF (nW (t := "str") rfl (by decide))⟩
   | 4,_=>exact⟨_,rfl,gF (nW (t := "tuple") rfl (by decide))⟩
   | 5,_=>exact⟨_,rfl,gF (nW (t := "tuple") rfl (by decide))⟩
   | 6,_=>exact⟨_,rfl,gF (nW (t := "dict") rfl (by decide))⟩
   | 7,_=>exact⟨_,rfl,gF (Dz (.inl (by decide)))⟩
   | 8,_=>
    refine⟨_,rfl,gF ?_⟩
    have hl9:((aO P R aH aK).map bR++[D.non]).length=P+1:=by rw[B5,hlS];rfl
    by_cases c:P=8
    ·exact Dz (.inr (by omega))
    ·refine Oq (by omega) (by omega) (λd hd=>?_) ⟨.non,E3 _ (F2.mpr rfl),rfl⟩
     rcases G8.mp hd with z | z
     ·obtain⟨q,rfl⟩:=zA d z
      exact⟨_,rfl⟩
     ·rw[F2.mp z];exact⟨_,rfl⟩
  obtain⟨d,h1,h2⟩:=key
  refine Ry (jq (k:=k) rfl ?_ ?_ ⟨by decide,D8 rfl,by rw[hlS];omega,by decide⟩ h1) ⟨_,rfl,h2⟩
  ·walk_at "ev"
  ·rw[←ek]
   walk_at "ev"
 intro _
 refine jG ?_
 apply nO
 ·walk_at "et"
 ·intro _
  obtain⟨k,ek,hk⟩:=natOf (n:=2) (B9 r (by decide:(2:Int)≠0)) (B6 r (by decide:(0:Int)<2))
  have yz:=zM (P:=P) (R:=9*k) (by omega) (by omega)
  rw[L9]at yz
  refine nQ (bH (aD rfl (aD (aQ rfl (aQ rfl rfl ((cV (by decide)).trans (by rw[ek]))) (nJ (Rf (by decide) (by decide)))) rfl)) rfl yz) ⟨_,rfl,?_⟩
  rw[Om]
  have e0:((vA P (9*k)).map λq=>q.map dTup)[0]?=some ((((C5 (9*k)).map λ_=>[0,0,-1,-1,0])++[[0]]).map dTup):=by
   unfold vA
   rw[B8,B8,O2 hP]
   rfl
  refine gF (Lb e0 (by unfold vA;rw[A5,A5,D3];exact qY) (D2 e0) ?_)
  rw[A5,B5,A5,D3]
  match k,hk with
  | 0,_=>exact .inl (by decide)
  | 1,_=>exact .inr (.inl (by decide))
 intro _
 refine jG ?_
 have h0:(aO P R aH aK)[0]?=some _:=oV (p:=0) hP
 have hix:dW (bB (aO P R aH aK)) (.int 0)=some (bR _):=pW (k:=0) h0
 have hlp:=Oi (((C5 R).map λr=>aH.getD (0+P*r) [])++[[aK.getD 0 0]])
 rw[mK (D2 h0)]at hlp
 apply nO
 ·walk_at "et"
 ·intro _
  obtain⟨k,ek,hk⟩:=natOf (n:=3) (B9 r (by decide:(3:Int)≠0)) (B6 r (by decide:(0:Int)<3))
  have yz:=zM (P:=9+k) (R:=R) (by omega) (by omega)
  have eR:((R+1:Nat):Int)-1=(R:Int):=by omega
  have e9:(9:Int)+(k:Int)=((9+k:Nat):Int):=by omega
  refine nQ (bH (aD ((aQ rfl (aQ rfl rfl ((cV (by decide)).trans (by rw[ek]))) (pI _ _)).trans (by rw[e9])) (aD ((aQ (cZ (aD (aQ rfl rfl hix) rfl) hlp) rfl (eO _ _)).trans (by rw[eR])) rfl)) rfl yz) ⟨_,rfl,?_⟩
  unfold bB
  refine gF (Dz (.inr ?_))
  unfold vA
  rw[A5,A5,D3]
  omega
 intro _
 refine jG ?_
 walk_at "q"
 obtain⟨a,ea,ha⟩:=natOf (n:=P) (B9 r (show (P:Int)≠0 by omega)) (B6 r (show (0:Int)<P by omega))
 rw[ea]
 obtain⟨q,q1⟩:∃q,(aO P R aH aK)[a]?=some q:=⟨_,oV ha⟩
 have hql:=mK (D2 q1)
 have JB:((aO P R aH aK).map bR)[a]?=some (.lst (q.map dTup)):=by rw[B8,q1];rfl
 have hia:dW (bB (aO P R aH aK)) (.int a)=some (.lst (q.map dTup)):=pW q1
 have fin:∀d:D,bV [d]=some (.bl false)→∀env:EN,env[5]?=some (.own d)→Qs (λr=>∃d,r=.ret d∧bV [d]=some (.bl false)) (nF 5 env):=λd hd env he=>Kd he ⟨d,rfl,hd⟩
 apply nO
 ·walk_at "et"
 ·intro _
  refine rK (nY (k:=a) (d:=.tup (q.map dTup)) (p:=[]) (ds:=(aO P R aH aK).map bR) rfl rfl rfl ?_ rfl (by omega)) (fin _ (Ib (t := "tuple") zA (by omega) (by omega) rfl rfl) _ rfl)
  exact cZ (aD (aQ rfl rfl hia) rfl) (Sd (vP λd hd=>by obtain⟨t,_,rfl⟩:=D6.mp hd;exact jW t))
 intro hb
 have hP1:P≠1:=λz=>by
  rw[Bool.or_eq_false_iff]at hb
  have:=of_decide_eq_false hb.1
  omega
 refine nO (dB (aQ (aQ (aQ rfl rfl (fQ (by decide) (by decide))) rfl (cV (by decide))) rfl (iV _ _))) (λ_=>?_) (λ_=>?_)
 ·refine rK (GR (d:=dTup [0,0,-1,-1,0]) (p:=[.ix a]) (ds:=q.map dTup) rfl (wD rfl) rfl ?_ (Ai JB) (by rw[A5];omega)) (fin _ ?_ _ rfl)
  ·show _=some (D.tup [.int 0,.int 0,.int (-1),.int (-1),.int 0])
   walk_at "ev"
  ·show bV [jR [.ix a] (.lst ((aO P R aH aK).map bR)) _]=_
   rw[Aj JB]
   exact Ie (by omega) qY ha (by rw[G2,A5];omega)
 ·refine rK (Pa (k:=0) (p:=[.ix a]) (ds:=q.map dTup) rfl (wD rfl) rfl (Ai JB) (by rw[A5];omega) (by rw[A5];omega)) (fin _ ?_ _ rfl)
  show bV [jR [.ix a] (.lst ((aO P R aH aK).map bR)) _]=_
  rw[Aj JB]
  exact Ie (by omega) qY ha (by rw[R7,A5,if_pos (by omega)];omega)
theorem Xc{r:Int}(hr:0≤r)(hP:0<P)(qY:P≤8)(hR:0<R)(uB:R≤8)(hlen:aH.length=P*R)(hrec:∀b∈aH,iT (P*R) b)(hs0:∀s∈aK,0≤s):∃d,qL [bB (aO P R aH aK),.int r]=some d∧bV [d]=some (.bl false):=by
 have hS:=kW P R aH aK
 have hls:=mV (aO P R aH aK)
 rw[hS]at hls
 have hlS:((aO P R aH aK).map bR).length=P:=by rw[A5,hS]
 refine dR rfl ?_
 unfold Dm
 refine iD (pX (s:=aO P R aH aK) rfl (by omega)) (by walk_at "lt") ?_
 obtain⟨k,ek,hk⟩:=natOf (n:=6) (B9 (r/2) (by decide:(6:Int)≠0)) (B6 (r/2) (by decide:(0:Int)<6))
 have key:∃c t,([D.non,.int 7,.bl true,.str "1", .dk [] [],.int (-1)]:List D)[k]?=some c∧Wk c=some t∧nZ t "tuple" = false∧Oo c=false:=by
  match k,hk with
  | 0,_=>exact⟨_,_,rfl,rfl,by decide,rfl⟩
  | 1,_=>exact⟨_,_,rfl,rfl,by decide,rfl⟩
  | 2,_=>exact⟨_,_,rfl,rfl,by decide,rfl⟩
  | 3,_=>exact⟨_,_,rfl,rfl,by decide,rfl⟩
  | 4,_=>exact⟨_,_,rfl,rfl,by decide,rfl⟩
  | 5,_=>exact⟨_,_,rfl,rfl,by decide,rfl⟩
 obtain⟨c,t,hc,ht,htu,hlb⟩:=key
 refine iD (d:=c) (aQ (a:=.lst [D.non,.int 7,.bl true,.str "1", .dk [] [],.int (-1)]) (b:=.int (k:Int)) ?_ ?_ (Vf hc)) (by walk_at "lt") ?_
 ·walk_at "ev"
 ·rw[←ek]
  walk_at "ev"
 walk_at "q"
 obtain⟨a,ea,ha⟩:=natOf (n:=P) (B9 (r/12) (show (P:Int)≠0 by omega)) (B6 (r/12) (show (0:Int)<P by omega))
 rw[ea]
 obtain⟨q,q1⟩:∃q,(aO P R aH aK)[a]?=some q:=⟨_,oV ha⟩
 have hql:=mK (D2 q1)
 have JB:((aO P R aH aK).map bR)[a]?=some (.lst (q.map dTup)):=by rw[B8,q1];rfl
 have hia:dW (bB (aO P R aH aK)) (.int a)=some (.lst (q.map dTup)):=pW q1
 have fin:∀d:D,bV [d]=some (.bl false)→∀env:EN,env[2]?=some (.own d)→Qs (λr=>∃d,r=.ret d∧bV [d]=some (.bl false)) (nF 2 env):=λd hd env he=>Kd he ⟨d,rfl,hd⟩
 apply nO
 ·walk_at "et"
 ·intro _
  exact rK (Hz (d:=c) (k:=a) (p:=[]) (ds:=(aO P R aH aK).map bR) rfl rfl rfl rfl rfl (by omega)) (fin _ (Ib zA (by omega) (by omega) ht hlb) _ rfl)
 ·intro _
  have zc:cY [D.lst (q.map dTup)]=some (.int ((R+1:Nat):Int)):=by rw[iC,A5,hql]
  obtain⟨j,ej,hj⟩:=natOf (n:=R+1) (B9 (r/96) (show ((R+1:Nat):Int)≠0 by omega)) (B6 (r/96) (show (0:Int)<((R+1:Nat):Int) by omega))
  refine rK (Hz (d:=c) (k:=j) (p:=[.ix a]) (ds:=q.map dTup) rfl rfl (wD rfl) ?_ (Ai JB) (by rw[A5];omega)) (fin _ ?_ _ rfl)
  ·rw[←ej]
   exact aQ (aQ rfl rfl (fQ (by decide) (by decide))) (cZ (aD (aQ rfl rfl hia) rfl) zc) (cV (by omega))
  ·show bV [jR [.ix a] (.lst ((aO P R aH aK).map bR)) _]=_
   rw[Aj JB]
   exact Ef hP qY hR uB hlen hrec hs0 q1 (by omega) (λ_=>Hw (rT ht htu)) (λ_=>Ov (rT ht htu))
end
section
variable{ns:List Int}{P R:Nat}{aH:List (List Int)}{aK order keys:List Int}
theorem wF{l:List Int}{z:Int}{k:Nat}(h:k<l.length):(l++[z]).getD k 0=l.getD k 0:=by rw[A7,A7,E8 h]
theorem HD(hn:order.Nodup)(hom:∀x∈order,1≤x∧x<(P*R:Nat)){j k:Nat}(hj:j<order.length)(hk:k<order.length)(hjk:j≠k):(order.getD k 0).toNat≠(order.getD j 0).toNat:=by
 have a:=hom _ (getD_mem hj)
 have b:=hom _ (getD_mem hk)
 have:=vY hn hj hk hjk
 omega
theorem Xd{z key was now eE:Int}{k0:Nat}(hn:order.Nodup)(hom:∀x∈order,1≤x∧x<(P*R:Nat))(h0:∃key was now eE:Int,aH[0]?=some [key,(order++[0]).getD 0 0,was,now,eE])(hK:Keyed order aH keys)(hk0:k0<order.length)(hz:k0+1=order.length∨z=0)(hlen:aH.length=P*R):Chain (aH.set (order.getD k0 0).toNat [key,(order++[z]).getD (k0+1) 0,was,now,eE]) order z:=λk hk=>by
 have hb0:=hom _ (getD_mem hk0)
 cases k with
 | zero=>
  obtain⟨key',Sg,Sh,Sq,e⟩:=h0
  refine⟨key',Sg,Sh,Sq,?_⟩
  show (aH.set (order.getD k0 0).toNat _)[(0:Int).toNat]?=_
  rw[C8 (show (order.getD k0 0).toNat≠(0:Int).toNat by omega)]
  show aH[0]?=_
  rw[e,wF (by omega),wF (by omega)]
 | succ j=>
  have hj:j<order.length:=by omega
  by_cases c:j=k0
  ·subst c
   refine⟨key,was,now,eE,?_⟩
   show (aH.set (order.getD j 0).toNat _)[(order.getD j 0).toNat]?=_
   rw[D1 (by omega)]
  ·obtain⟨Sg,Sh,Sq,e,_⟩:=hK.2.2 j hj
   refine⟨keys.getD j 0,Sg,Sh,Sq,?_⟩
   show (aH.set (order.getD k0 0).toNat _)[(order.getD j 0).toNat]?=_
   rw[C8 (HD hn hom hj hk0 c),e]
   rcases T0 (j+1) order.length with q | q
   ·rw[wF q,wF q]
   ·rw[hz.resolve_left (by omega)]
theorem HF{x:Int}{t:List Int}(h:x.toNat<aH.length):R_ (aH.set x.toNat t) x=t:=by
 show (aH.set x.toNat t).getD x.toNat []=_
 rw[A7,D1 h]
 rfl
theorem aAO{x:Int}{b:Nat}{t:List Int}(h:b≠x.toNat):R_ (aH.set b t) x=R_ aH x:=by
 show (aH.set b t).getD x.toNat []=aH.getD x.toNat []
 rw[A7,A7,C8 h]
theorem zB{z key was now eE:Int}{k0:Nat}(hP:0<P)(qY:P≤8)(hR:0<R)(uB:R≤8)(hlen:aH.length=P*R)(hrec:∀b∈aH,iT (P*R) b)(hs0:∀s∈aK,0≤s)(hn:order.Nodup)(h64:order.length≤64)(hom:∀x∈order,1≤x∧x<(P*R:Nat))(h0:∃key was now eE:Int,aH[0]?=some [key,(order++[0]).getD 0 0,was,now,eE])(hK:Keyed order aH keys)(hk0:k0<order.length)(hz:k0+1=order.length∨z=0)(hzm:z=0∨z∈order)
  (hr:iT (P*R) [key,(order++[z]).getD (k0+1) 0,was,now,eE])
  (no:z=0→(∀x∈order,Ec (aH.set (order.getD k0 0).toNat [key,(order++[z]).getD (k0+1) 0,was,now,eE]) x=false)→(∀i,i+1<order.length→(R_ (aH.set (order.getD k0 0).toNat [key,(order++[z]).getD (k0+1) 0,was,now,eE]) (order.getD i 0)).getD 0 0<(R_ (aH.set (order.getD k0 0).toNat [key,(order++[z]).getD (k0+1) 0,was,now,eE]) (order.getD (i+1) 0)).getD 0 0)→False) :
  bV [bB (aO P R (aH.set (order.getD k0 0).toNat [key,(order++[z]).getD (k0+1) 0,was,now,eE]) aK)]=some (.bl false):=by
 have hrec':=Af (i:=(order.getD k0 0).toNat) hrec hr
 have hlen':(aH.set (order.getD k0 0).toNat [key,(order++[z]).getD (k0+1) 0,was,now,eE]).length=P*R:=by rw[D7];exact hlen
 have hch:=Xd (key:=key) (was:=was) (now:=now) (eE:=eE) hn hom h0 hK hk0 hz hlen
 generalize aH.set (order.getD k0 0).toNat [key,(order++[z]).getD (k0+1) 0,was,now,eE]=bx at *
 obtain⟨b,h1,h2⟩:=Ed (aK:=aK) hP qY hR hzm hch hom hn h64 hlen' hrec'
 cases b with
 | false=>exact Oz hP qY hR uB hlen' hrec' hs0 h1
 | true=>
  obtain⟨a1,a2,a3⟩:=h2.mp rfl
  exact(no a1 a2 a3).elim
theorem Xe(hP:0<P)(qY:P≤8)(hR:0<R)(uB:R≤8)(hlen:aH.length=P*R)(hrec:∀b∈aH,iT (P*R) b)(hs0:∀s∈aK,0≤s)(hn:order.Nodup)(h64:order.length≤64)(hom:∀x∈order,1≤x∧x<(P*R:Nat))(h0:∃key was now eE:Int,aH[0]?=some [key,(order++[0]).getD 0 0,was,now,eE])(hK:Keyed order aH keys):bV [bB (aO P R aH aK)]=some (.bl true):=by
 have hch:Chain aH order 0:=λk hk=>by
  cases k with
  | zero=>exact h0
  | succ j=>
   obtain⟨Sg,Sh,Sq,e,_⟩:=hK.2.2 j (by omega)
   exact⟨_,Sg,Sh,Sq,e⟩
 obtain⟨b,h1,h2⟩:=Ed (aK:=aK) hP qY hR (.inl rfl) hch hom hn h64 hlen hrec
 have hR_:∀k,k<order.length→∃was now eE:Int,R_ aH (order.getD k 0)=[keys.getD k 0,(order++[0]).getD (k+1) 0,was,now,eE]∧(eE=0→0≤now):=λk hk=>by
  obtain⟨was,now,eE,e,e2⟩:=hK.2.2 k hk
  exact⟨was,now,eE,Ad e,e2⟩
 have:b=true:=h2.mpr ⟨rfl,λx hx=>?_,λi hi=>?_⟩
 ·rw[this]at h1
  exact Oz hP qY hR uB hlen hrec hs0 h1
 ·obtain⟨k,hk,rfl⟩:=I0 hx
  obtain⟨was,now,eE,e,e2⟩:=hR_ k hk
  have eg:order.getD k 0=order[k]:=by rw[A7,A6 hk];rfl
  rw[eg]at e
  unfold Ec
  rw[e]
  show (decide (eE=0)&&decide (now=-1))=false
  by_cases c:eE=0
  ·rw[decide_eq_false (show ¬now=-1 by have:=e2 c;omega),F5]
  ·rw[decide_eq_false c,O3]
 ·obtain⟨was,now,eE,e,_⟩:=hR_ i (by omega)
  obtain⟨Sg,Sh,Sq,e',_⟩:=hR_ (i+1) hi
  rw[e,e']
  show keys.getD i 0<keys.getD (i+1) 0
  have kl:=hK.1
  have:=P1.mp hK.2.1 i (i+1) (by omega) (by omega) (by omega)
  rw[A7,A7,A6 (show i<keys.length by omega),A6 (show i+1<keys.length by omega)]
  exact this
theorem Xf{w:Int}(hl:ns.length≤63)(hP:0<P)(qY:P≤8)(hR:0<R)(uB:R≤8)(hlen:aH.length=P*R)(hrec:∀b∈aH,iT (P*R) b)(hs0:∀s∈aK,0≤s)(hn:order.Nodup)(h64:order.length≤64)(hom:∀x∈order,1≤x∧x<(P*R:Nat))(h0:∃key was now eE:Int,aH[0]?=some [key,(order++[0]).getD 0 0,was,now,eE])(hK:Keyed order aH keys)(ho:0<order.length)(h5:w=5→1<order.length) :
  ∃d,qN [aU ns,bB (aO P R aH aK),aU order,.int w]=some d∧bV [d]=some (.bl false):=by
 have hS:=kW P R aH aK
 have hls:=mV (aO P R aH aK)
 rw[hS]at hls
 have hlo:=mQ order
 have hd0:=gW (k:=417) hl (by decide) (by decide)
 have hg0:=jZ (k:=418) hl (by decide) (by decide)
 have hgb:=(rQ ns 418).1
 have xf:=(lF ns 417).1
 generalize fV ns 417=r at hd0 xf
 generalize jY ns 418=gr at hg0 hgb
 have at_:∀k,k<order.length→∃(b:Nat)(q:List (List Int))(was now eE:Int),order.getD k 0=(b:Int)∧b<P*R∧(aO P R aH aK)[b%P]?=some q∧b/P<q.length∧dW (aU order) (.int (k:Int))=some (.int (b:Int))∧dW (bB (aO P R aH aK)) (.int ((b:Int)%P))=some (bR q)∧dW (bR q) (.int ((b:Int)/P))=some (dTup [keys.getD k 0,(order++[0]).getD (k+1) 0,was,now,eE])∧iT (P*R) [keys.getD k 0,(order++[0]).getD (k+1) 0,was,now,eE]:=λk hk=>by
  have hb:=hom _ (getD_mem hk)
  obtain⟨was,now,eE,e,_⟩:=hK.2.2 k hk
  obtain⟨b,eb⟩:∃b:Nat,order.getD k 0=(b:Int):=⟨(order.getD k 0).toNat,by omega⟩
  rw[eb]at e hb
  rw[C7]at e
  obtain⟨q,q1,q2⟩:=GK (aH:=aH) (aK:=aK) hP (show b<P*R by omega)
  rw[Ad e]at q2
  have hi:=qR hk
  rw[eb]at hi
  exact⟨b,q,was,now,eE,eb,by omega,q1,(C9.mp q2).1,hi,pW (k:=b%P) q1,sO (k:=b/P) q2,hrec _ (D2 e)⟩
 refine dR rfl ?_
 unfold Dn
 walk_at "q"
 walk_at "q"
 refine iD (pX (s:=aO P R aH aK) rfl (by omega)) (by walk_at "lt") ?_
 obtain⟨j,ej,hj⟩:=natOf (n:=order.length) (B9 r (show (order.length:Int)≠0 by omega)) (B6 r (show (0:Int)<order.length by omega))
 apply nO
 ·walk_at "et"
 ·
  intro _
  obtain⟨b,q,was,now,eE,eb,hb,q1,hbP,i0,i1,i2,ir⟩:=at_ (order.length-1) (by omega)
  have hend:dW (aU order) (.int (-1))=some (.int (b:Int)):=Ke (by
   rw[T4,L8,pK (d:=(0:Int)) (show order.length-1<order.length by omega),eb]
   rfl)
  refine qW (iD (d:=.int b) (cL (aQ (b:=.int (-1)) rfl (sI rfl) hend) rfl) (by walk_at "lt") (qW (iD (d:=dTup [keys.getD (order.length-1) 0,(order++[0]).getD (order.length-1+1) 0,was,now,eE]) (cL (aQ (aQ rfl (aQ rfl rfl (cV (by omega))) i1) (aQ rfl rfl (fQ (by omega) (by omega))) i2) (jW _)) (by walk_at "lt") ?_)))
  have ix:=qR hj
  generalize ez:order.getD j 0=z at ix
  have zm:z∈order:=by rw[←ez];exact getD_mem hj
  have zb:=hom z zm
  have nz:(order++[z]).getD (order.length-1+1) 0=z:=by
   rw[show order.length-1+1=order.length by omega,A7,E6 (B7 _),L3]
   rfl
  have hex:fO (f2 dW (aF 2) (f2 cO (aF 4) (fL cY (aA (aF 2) aN)))) (rE (((([aU ns,bB (aO P R aH aK),aU order,D.int w].map SD.fro++D9 (12-4) SD.no).set 4 (.own (.int r))).set 5 (.own (.int P))).set 6 (.own (bB (aO P R aH aK)))|>.set 7 (.own (.int b))|>.set 8 (.own (dTup [keys.getD (order.length-1) 0,(order++[0]).getD (order.length-1+1) 0,was,now,eE]))))=some (.int z):=
   cL (aQ rfl ((aQ rfl (cZ (aD rfl rfl) hlo) (cV (by omega))).trans (by rw[ej])) ix) rfl
  refine qW (rK (uZ (s:=aO P R aH aK) (q:=q) (a:=b%P) (b:=b/P) (t:=[keys.getD (order.length-1) 0,z,was,now,eE]) rfl (aQ rfl rfl (cV (by omega))) (aQ rfl rfl (fQ (by omega) (by omega))) ?_ q1 hbP) (Ry (pJ rfl) ⟨_,rfl,?_⟩))
  ·exact sH (aD (cL (aQ rfl rfl (gB (by decide) rfl)) rfl) (aD hex (aD (cL (aQ rfl rfl (gB (by decide) rfl)) rfl) (aD (cL (aQ rfl rfl (gB (by decide) rfl)) rfl) (aD (cL (aQ rfl rfl (gB (by decide) rfl)) rfl) rfl))))) (by walk_at "lt")
  ·rw[Rx hP hb hlen q1]
   have:=zB (z:=z) (k0:=order.length-1) (key:=keys.getD (order.length-1) 0) (was:=was) (now:=now) (eE:=eE) (aK:=aK) hP qY hR uB hlen hrec hs0 hn h64 hom h0 hK (by omega) (.inl (by omega)) (.inr zm) (by
    rw[nz]
    obtain⟨y1,y2,y3,y4,y5,ey,z1,z2,z3,z4,z5⟩:=ir
    cases ey
    exact⟨_,_,_,_,_,rfl,by omega,zb.2,z3,z4,z5⟩) (λz0=>by omega)
   rw[nz,eb,C7]at this
   exact this
 intro w4
 refine jG ?_
 apply nO
 ·walk_at "et"
 ·
  intro w5
  have h2:=h5 (of_decide_eq_true w5)
  obtain⟨k,ek,hk⟩:=natOf (n:=order.length-1) (B9 r (show ((order.length:Int)-1)≠0 by omega)) (show r%((order.length:Int)-1)<((order.length-1:Nat):Int) by have:=B6 r (show (0:Int)<(order.length:Int)-1 by omega);omega)
  obtain⟨b,q,was,now,eE,eb,hb,q1,hbP,i0,i1,i2,ir⟩:=at_ (k+1) (by omega)
  obtain⟨b',q',Sg,Sh,Sq,eb',hb',ye,aCA,i0',i1',i2',ir'⟩:=at_ k (by omega)
  have e1k:(1:Int)+(k:Int)=((k+1:Nat):Int):=by omega
  have ek1:((k+1:Nat):Int)-1=(k:Int):=by omega
  refine qW (iD (d:=.int ((k+1:Nat):Int)) ((aQ rfl (aQ rfl (aQ (cZ (aD rfl rfl) hlo) rfl (eO _ _)) ((cV (by omega)).trans (by rw[ek]))) (pI _ _)).trans (by rw[e1k])) (by walk_at "lt") ?_)
  refine qW (iD (d:=.int b) (cL (aQ rfl rfl i0) rfl) (by walk_at "lt") ?_)
  refine qW (iD (d:=dTup [keys.getD (k+1) 0,(order++[0]).getD (k+1+1) 0,was,now,eE]) (cL (aQ (aQ rfl (aQ rfl rfl (cV (by omega))) i1) (aQ rfl rfl (fQ (by omega) (by omega))) i2) (jW _)) (by walk_at "lt") ?_)
  refine qW (iD (d:=.int b') (cL (aQ rfl ((aQ rfl rfl (eO _ _)).trans (by rw[ek1])) i0') rfl) (by walk_at "lt") ?_)
  refine qW (iD (d:=.int (keys.getD k 0)) (cL (aQ (aQ (aQ rfl (aQ rfl rfl (cV (by omega))) i1') (aQ rfl rfl (fQ (by omega) (by omega))) i2') rfl (gB (by decide) rfl)) rfl) (by walk_at "lt") ?_)
  have m0:=B9 (r/64) (by decide:(2:Int)≠0)
  have m1:=B6 (r/64) (by decide:(0:Int)<2)
  refine qW (iD (d:=.int (keys.getD k 0-r/64%2*gr)) (aQ rfl (aQ (aQ (aQ rfl rfl (fQ (by decide) (by decide))) rfl (cV (by decide))) (bH (aD rfl (aD rfl rfl)) rfl hg0) (nJ (Rf (by omega) (by omega)))) (eO _ _)) (by walk_at "lt") ?_)
  have hp0:0≤r/64%2*gr:=O4 m0 hgb
  generalize r/64%2*gr=dl at hp0 ⊢
  refine qW (rK (uZ (s:=aO P R aH aK) (q:=q) (a:=b%P) (b:=b/P) (t:=[keys.getD k 0-dl,(order++[0]).getD (k+1+1) 0,was,now,eE]) rfl (aQ rfl rfl (cV (by omega))) (aQ rfl rfl (fQ (by omega) (by omega))) ?_ q1 hbP) (Ry (pJ rfl) ⟨_,rfl,?_⟩))
  ·exact sH (aD (cL rfl rfl) (aD (cL (aQ rfl rfl (gB (by decide) rfl)) rfl) (aD (cL (aQ rfl rfl (gB (by decide) rfl)) rfl) (aD (cL (aQ rfl rfl (gB (by decide) rfl)) rfl) (aD (cL (aQ rfl rfl (gB (by decide) rfl)) rfl) rfl))))) (by walk_at "lt")
  ·rw[Rx hP hb hlen q1]
   have:=zB (z:=0) (k0:=k+1) (key:=keys.getD k 0-dl) (was:=was) (now:=now) (eE:=eE) (aK:=aK) hP qY hR uB hlen hrec hs0 hn h64 hom h0 hK (by omega) (.inr rfl) (.inl rfl) (by
    obtain⟨y1,y2,y3,y4,y5,ey,z1,z2,z3,z4,z5⟩:=ir
    injection ey with _ ey
    injection ey with e2 ey
    injection ey with e3 ey
    injection ey with e4 ey
    injection ey with e5 _
    rw[e2,e3,e4,e5]
    exact⟨_,_,_,_,_,rfl,z1,z2,z3,z4,z5⟩) (λ_ _ hi=>by
    have h1:=hi k (by omega)
    rw[HF (by rw[eb,C7,hlen];exact hb),aAO (HD hn hom (by omega) (by omega) (by omega))]at h1
    obtain⟨_,_,_,e,_⟩:=hK.2.2 k (by omega)
    have e':R_ aH (order.getD k 0)=_:=Ad e
    rw[e']at h1
    have h1:keys.getD k 0<keys.getD k 0-dl:=h1
    omega)
   rw[eb,C7]at this
   exact this
 intro w5
 refine jG ?_
 obtain⟨b,q,was,now,eE,eb,hb,q1,hbP,i0,i1,i2,ir⟩:=at_ j hj
 refine iD (d:=.int b) (cL (aQ rfl ((aQ rfl (cZ (aD rfl rfl) hlo) (cV (by omega))).trans (by rw[ej])) i0) rfl) (by walk_at "lt") ?_
 refine iD (d:=dTup [keys.getD j 0,(order++[0]).getD (j+1) 0,was,now,eE]) (cL (aQ (aQ rfl (aQ rfl rfl (cV (by omega))) i1) (aQ rfl rfl (fQ (by omega) (by omega))) i2) (jW _)) (by walk_at "lt") ?_
 refine rK (uZ (s:=aO P R aH aK) (q:=q) (a:=b%P) (b:=b/P) (t:=[keys.getD j 0,(order++[0]).getD (j+1) 0,was,-1,0]) rfl (aQ rfl rfl (cV (by omega))) (aQ rfl rfl (fQ (by omega) (by omega))) ?_ q1 hbP) (Kd rfl ⟨_,rfl,?_⟩)
 ·exact sH (aD (cL (aQ rfl rfl (gB (by decide) rfl)) rfl) (aD (cL (aQ rfl rfl (gB (by decide) rfl)) rfl) (aD (cL (aQ rfl rfl (gB (by decide) rfl)) rfl) (aD (sI rfl) (aD rfl rfl))))) (by walk_at "lt")
 ·rw[Rx hP hb hlen q1]
  have:=zB (z:=0) (k0:=j) (key:=keys.getD j 0) (was:=was) (now:=-1) (eE:=0) (aK:=aK) hP qY hR uB hlen hrec hs0 hn h64 hom h0 hK hj (.inr rfl) (.inl rfl) (by
   obtain⟨y1,y2,y3,y4,y5,ey,z1,z2,z3,z4,z5⟩:=ir
   injection ey with e1 ey
   injection ey with e2 ey
   injection ey with e3 ey
   rw[e2,e3]
   exact⟨_,_,_,_,_,rfl,z1,z2,z3,by decide,by decide⟩) (λ_ hi _=>by
   have h1:=hi _ (getD_mem hj)
   unfold Ec at h1
   rw[HF (by rw[eb,C7,hlen];exact hb)]at h1
   have h1:(decide ((0:Int)=0)&&decide ((-1:Int)=-1))=false:=h1
   exact absurd h1 (by decide))
  rw[eb,C7]at this
  exact this
end
theorem HH{ns:List Int}{P R:Nat}{aH:List (List Int)}{aK order keys:List Int}(hl:ns.length≤63)(hP:0<P)(qY:P≤8)(hR:0<R)(uB:R≤8)(hlen:aH.length=P*R)(hrec:∀b∈aH,iT (P*R) b)(hs0:∀s∈aK,0≤s)(hn:order.Nodup)(h64:order.length≤64)(hom:∀x∈order,1≤x∧x<(P*R:Nat))(h0:∃key was now eE:Int,aH[0]?=some [key,(order++[0]).getD 0 0,was,now,eE])(hK:Keyed order aH keys) :
  ∃d,tE [aU ns,bB (aO P R aH aK),aU order]=some d∧bV [d]=some (.bl false):=by
 have hS:=kW P R aH aK
 have hls:=mV (aO P R aH aK)
 rw[hS]at hls
 have hlo:=mQ order
 have hd0:=gW (k:=419) hl (by decide) (by decide)
 have hd1:=gW (k:=421) hl (by decide) (by decide)
 have hd2:=gW (k:=420) hl (by decide) (by decide)
 have hr1:=(lF ns 421).1
 have hr2:=(lF ns 420).1
 refine dR rfl ?_
 unfold Hj
 generalize fV ns 419=r0 at hd0
 generalize fV ns 421=r1 at hd1 hr1
 generalize fV ns 420=r at hd2 hr2
 walk_at "q"
 have w0:=B9 r0 (by decide:(10:Int)≠0)
 generalize r0%10=w at w0 ⊢
 apply nO
 ·walk_at "et"
 ·intro hb
  obtain⟨d,h1,h2⟩:=GX (aH:=aH) (aK:=aK) hl hP qY hR uB w0 (of_decide_eq_true hb)
  exact nQ (bH (aD rfl (aD rfl (aD rfl rfl))) rfl h1) ⟨_,rfl,h2⟩
 intro _
 refine jG ?_
 apply nO
 ·walk_at "et"
 ·intro _
  obtain⟨d,h1,h2⟩:=Xc (aK:=aK) hr1 hP qY hR uB hlen hrec hs0
  exact nQ (bH (aD rfl (aD (bH (aD rfl (aD rfl rfl)) rfl hd1) rfl)) rfl h1) ⟨_,rfl,h2⟩
 intro _
 refine jG ?_
 refine nO (Ka (dB (aQ rfl rfl (zZ _ _))) (dB (aQ (cZ (aD rfl rfl) hlo) (cZ (aD (aQ rfl rfl (iV _ _)) rfl) (DQ _)) (Uv _ _)))) (λhb=>?_) (λ_=>?_)
 ·rw[K1]at hb
  have hb:=of_decide_eq_true hb.2
  have ho:0<order.length:=by
   split at hb<;>omega
  have h5:w=5→1<order.length:=λz=>by
   rw[if_pos (decide_eq_true z)]at hb
   omega
  obtain⟨d,h1,h2⟩:=Xf (w:=w) (aK:=aK) hl hP qY hR uB hlen hrec hs0 hn h64 hom h0 hK ho h5
  exact nQ (bH (aD rfl (aD rfl (aD rfl (aD rfl rfl)))) rfl h1) ⟨_,rfl,h2⟩
 refine jG ?_
 walk_at "q"
 refine iD (pX (s:=aO P R aH aK) rfl (by omega)) (by walk_at "lt") ?_
 obtain⟨a,ea,ha⟩:=natOf (n:=P) (B9 r (show (P:Int)≠0 by omega)) (B6 r (show (0:Int)<P by omega))
 obtain⟨q,q1⟩:∃q,(aO P R aH aK)[a]?=some q:=⟨_,oV ha⟩
 have hql:=mK (D2 q1)
 have JB:((aO P R aH aK).map bR)[a]?=some (.lst (q.map dTup)):=by rw[B8,q1];rfl
 have zc:cY [D.lst (q.map dTup)]=some (.int ((R+1:Nat):Int)):=by rw[iC,A5,hql]
 obtain⟨j,ej,hj⟩:=natOf (n:=R+1) (B9 (r/P) (show ((R+1:Nat):Int)≠0 by omega)) (B6 (r/P) (show (0:Int)<((R+1:Nat):Int) by omega))
 have hjq:j<q.length:=by omega
 have ht:q[j].length=1∨q[j].length=5:=by
  obtain⟨q',x,eq,h1,h2,h3⟩:=wC hrec hlen hs0 uB (D2 q1)
  have hm:q[j]∈q'++[[x]]:=by rw[←eq];exact F4 hjq
  rcases G8.mp hm with z | z
  ·obtain⟨_,_,_,_,_,e,_⟩:=h2 _ z
   right;rw[e];rfl
  ·left;rw[F2.mp z];rfl
 have hpos:(j=R→q[j].length=1)∧(j<R→q[j].length=5):=by
  obtain⟨q',x,eq,h1,h2,h3⟩:=wC hrec hlen hs0 uB (D2 q1)
  subst eq
  refine⟨λz=>?_,λz=>?_⟩
  ·rw[List.getElem_append_right (by omega)]
   simp
  ·rw[List.getElem_append_left (by omega)]
   obtain⟨_,_,_,_,_,e,_⟩:=h2 _ (F4 (show j<q'.length by omega))
   rw[e];rfl
 obtain⟨d,hd,hbad⟩:=RP (ns:=ns) (t:=q[j]) (m:=((P*R:Nat):Int)) hl ht
 have hij:dW (.lst (q.map dTup)) (.int (j:Int))=some (dTup q[j]):=sO (A6 hjq)
 have eR:((R+1:Nat):Int)-1=(R:Int):=by omega
 refine Hy (RM (a:=j) (d:=d) (p:=[.ix a]) (cs:=q.map dTup) rfl (wD ((aQ rfl (cZ (aD rfl rfl) hls) (cV (by omega))).trans (by rw[ea]))) (Ai JB) ⟨by decide,by decide,by decide,D8 rfl,D8 rfl⟩ ((aQ (aQ rfl (cZ (aD rfl rfl) hls) (fQ (by omega) (by omega))) (cZ (aD rfl rfl) zc) (cV (by omega))).trans (by rw[ej])) (bH (aD rfl (aD (aQ rfl rfl hij) (aD ((aQ (cZ (aD rfl rfl) hls) (aQ (cZ (aD rfl rfl) zc) rfl (eO _ _)) (nJ (Rf (by omega) (by omega)))).trans (by rw[eR,←L9])) rfl))) rfl hd) (by rw[A5];exact hjq)) ⟨_,rfl,?_⟩
 show bV [jR [.ix a] (.lst ((aO P R aH aK).map bR)) _]=_
 rw[Aj JB]
 exact Ef hP qY hR uB hlen hrec hs0 q1 (by omega) (λz=>hbad.1 (hpos.1 z)) (λz=>hbad.2 (hpos.2 z))
theorem HJ(ns:List Int)(hl:ns.length≤63):jh [.lst (ns.map D.int)]=some (.bl true):=by
 suffices h:∃d,jh [aU ns]=some d∧d=.bl true by
  obtain⟨d,h1,rfl⟩:=h
  exact h1
 refine dR rfl ?_
 unfold wk
 have hd0:=gW (k:=0) hl (by decide) (by decide)
 have hd1:=gW (k:=1) hl (by decide) (by decide)
 generalize fV ns 0=r0 at hd0
 generalize fV ns 1=r1 at hd1
 walk_at "q"
 walk_at "q"
 obtain⟨P,eP,hP1,qY⟩:=Oj r0
 obtain⟨R,eR,lq,uB⟩:=Oj r1
 rw[eP,eR]
 clear eP eR hd0 hd1
 obtain⟨aH,aK,order,pool,hst,s1,s2,s3,s4,s5,s6,keys,s7⟩:=GD hl hP1 qY lq uB
 apply WK (ds:=[bB (aO P R aH aK),aU order,aU pool]) (by walk_at "ev") rfl rfl
 have hP0:0<P:=by omega
 have hR0:0<R:=by omega
 have aAL:P*R≤8*8:=R4 qY uB
 have hnd:(order++pool).Nodup:=s5.nodup_iff.mpr (zK _)
 have hon:order.Nodup:=(T2.mp hnd).1
 have hlen:order.length+pool.length=P*R-1:=by rw[←B5,s5.length_eq,yW]
 have hom:∀x∈order,1≤x∧x<(P*R:Nat):=λx hx=>yX.mp (s5.mem_iff.mp (L4 _ hx))
 have S1:=kW P R aH aK
 have hal:=FQ (aO P R aH aK) (by omega) (λp hp=>by rw[mK hp];omega)
 have hso:=Xe (aK:=aK) hP0 qY hR0 uB s1 s4 s3 hon (by omega) hom s6 s7
 obtain⟨d,hw1,hw2⟩:=HH (aK:=aK) hl hP0 qY hR0 uB s1 s4 s3 hon (by omega) hom s6 s7
 refine iD (pX (s:=aO P R aH aK) rfl (by omega)) (by walk_at "lt") ?_
 refine nP (b:=false) (Cv (a:=false) (b:=false) (dB (aQ (bH (aD rfl rfl) rfl hso) rfl rfl)) (dO (b:=true) (dB (bH (aD rfl (aD rfl rfl)) rfl hal)))) rfl (jG ?_)
 refine nP (b:=false) (dB (aQ (bH (aD (bH (aD rfl (aD rfl (aD rfl rfl))) rfl hw1) rfl) rfl hw2) rfl rfl)) rfl (jG ?_)
 exact lV (aQ (bH (aD rfl rfl) rfl hso) rfl rfl) ⟨_,rfl,rfl⟩
end Rs

def PySem.W.Fast.tw4933339354655656060:Unit:=()
def PySem.W.Fast.tw13823872461520246650:Unit:=()
def PySem.W.Fast.tw10477561269165312769:Unit:=()
def PySem.W.Fast.tw8727294581270616842:Unit:=()
def PySem.W.Fast.tw2048480257140920132:Unit:=()
def PySem.W.Fast.tw2485879504324714546:Unit:=()
def PySem.W.Fast.tw2363769758028066242:Unit:=()
def PySem.W.Fast.tw16164748931546522197:Unit:=()
def PySem.W.Fast.tw4808322287608426352:Unit:=()
def PySem.W.Fast.tw12179444377425738429:Unit:=()
def PySem.W.Fast.tw12962639202461592605:Unit:=()
def PySem.W.Fast.tw7932086670654087670:Unit:=()
def PySem.W.Fast.tw6049177781782434221:Unit:=()
def PySem.W.Fast.tw3979131359164021002:Unit:=()
def PySem.W.Fast.tw17830811098522995947:Unit:=()
def PySem.W.Fast.tw2900028055283611405:Unit:=()
def PySem.W.Fast.tw2288384575489110508:Unit:=()
def PySem.W.Fast.tw9336576007419035054:Unit:=()
def PySem.W.Fast.tw529130051797740024:Unit:=()
def PySem.W.Fast.tw6218083507761290512:Unit:=()
def PySem.W.Fast.tw16433024643202981342:Unit:=()
def PySem.W.Fast.tw15283592110677397879:Unit:=()
def PySem.W.Fast.tw3395334552554289144:Unit:=()
def PySem.W.Fast.tw9794906492171175878:Unit:=()
def PySem.W.Fast.tw11316400228669888410:Unit:=()
def PySem.W.Fast.tw8844727371142605306:Unit:=()
def PySem.W.Fast.tw2671376423529783883:Unit:=()
def PySem.W.Fast.tw16592083979145153305:Unit:=()
def PySem.W.Fast.tw14201306551016174101:Unit:=()
def PySem.W.Fast.tw12225684581648479950:Unit:=()
def PySem.W.Fast.tw5173383492586159520:Unit:=()
def PySem.W.Fast.tw10788956834454446131:Unit:=()
def PySem.W.Fast.tw3019523076981145357:Unit:=()
def PySem.W.Fast.tw13610491900067354561:Unit:=()
def PySem.W.Fast.tw17584217959069826990:Unit:=()
def PySem.W.Fast.tw1264699074500757667:Unit:=()
def PySem.W.Fast.tw8603912170164842814:Unit:=()
def PySem.W.Fast.tw4065232927810383759:Unit:=()
def PySem.W.Fast.tw14380487922223156655:Unit:=()
def PySem.W.Fast.tw13693113513342606564:Unit:=()
def PySem.W.Fast.tw8883666876265352686:Unit:=()
def PySem.W.Fast.tw4264139218155997689:Unit:=()
def PySem.W.Fast.tw9928520632170837533:Unit:=()
def PySem.W.Fast.tw2989518104136261034:Unit:=()
def PySem.W.Fast.tw7608992684536821784:Unit:=()
def PySem.W.Fast.tw12704536163312302451:Unit:=()
def PySem.W.Fast.tw14246709854172712483:Unit:=()
def PySem.W.Fast.tw16956298112625846327:Unit:=()
namespace Rs
open PySem L2
theorem RQ{K:aC}{f:Addr}{oc:Value}{od:Option Addr}{fd:FuncData}{sl:Array (Option Value)}(l:K.lookup f=some ⟨oc,od,.func fd,sl⟩):G7 K (.ref f)=true:=by
 unfold G7
 dsimp only
 rw[l]
theorem aAQ{K:aC}{h:Heap}{mg:Str→Option Value}{x:Str}{st:Stmt}{f:Addr}{oc:Value}{od an:Option Addr}{osl:Array (Option Value)}{kV doc pm cdv ct:Value}(X:K.In h)(G:h.Ns mainGlobals mg)(a:S7 K mainGlobals x=some (some (.ref f)))(l:K.lookup f=some ⟨oc,od,.func (F6 x x (iU st) (fM st) (aP st) .none kV doc pm an cdv ct),osl⟩)(c:L0 K cdv x=true):Raw K mg x st:=bc X G a l c (RQ l)
theorem walk{l:U8}{q:Program}{loose:List Str}{XP:(Str→Option Value)→Heap→Prop}{YP:World→Heap→Prop}{d:DefRec}{K:Params→aC}(hn:l.most=some 63)(hdf:d.params.defaults=[])(hdn:d.name = "law")
  (hY:∀(w:World)(h:Heap),YP w h→(K w.params).In h)
  (F:∀(w:World)(mg:Str→Option Value)(h:Heap),(K w.params).In h→h.Ns mainGlobals mg→Raw (K w.params) mg "_law_draw" Df∧Raw (K w.params) mg "_law_great" xX∧Raw (K w.params) mg "_law_seals" xY∧Raw (K w.params) mg "_law_order" sU∧Raw (K w.params) mg "_law_age" Kf∧Raw (K w.params) mg "_law_amount" uO∧Raw (K w.params) mg "_law_record" uP∧Raw (K w.params) mg "_law_stone" pM∧Raw (K w.params) mg "many_boxes" uQ∧Raw (K w.params) mg "is_grid" vR∧Raw (K w.params) mg "thing_at" Dj∧Raw (K w.params) mg "spot_of" Kg∧Raw (K w.params) mg "record_at" yC∧Raw (K w.params) mg "string_of" yD∧Raw (K w.params) mg "is_sound_string" gD∧Raw (K w.params) mg "is_whole" Dk∧Raw (K w.params) mg "are_whole" sV∧Raw (K w.params) mg "is_seal" Kh∧Raw (K w.params) mg "is_record" yE∧Raw (K w.params) mg "is_full_pane" oM∧Raw (K w.params) mg "is_sound" vV∧Raw (K w.params) mg "_law_whole" yG∧Raw (K w.params) mg "_law_tuple" yH∧Raw (K w.params) mg "_law_alike" yI∧Raw (K w.params) mg "_law_bent" Dl∧Raw (K w.params) mg "_law_blank" sX∧Raw (K w.params) mg "_law_shape" sY∧Raw (K w.params) mg "_law_placed" qK∧Raw (K w.params) mg "_law_strung" qM∧Raw (K w.params) mg "_law_wrong" tD∧Raw (K w.params) mg "law" QX∧mg "len" = none∧mg "range" = none∧mg "isinstance" = none∧mg "list" = none∧mg "all" = none∧mg "any" = none∧mg "zip" = none∧mg "bool" = none∧mg "int" = none∧mg "tuple" = none∧iZ mg "HEAD" (0)∧iZ mg "NEXT" (1)∧iZ mg "NOW" (3)∧iZ mg "NONE" (-1)∧iZ mg "AGE" (4)∧iZ mg "KEY" (0)∧iZ mg "WAS" (2)) :
  V5 q loose XP YP l.row.toRowW d [] (λf vs=>U7 f vs):=by
 refine L2.LK (n:=63) (k:=6) (x := "script") (CX:=λ_=>Xx) (sp:=λw=>spL (K w.params)) hn (by decide) hdf ⟨rfl,by decide,by decide⟩ hY ?_ (λ_ _ a ns hl _ hS=>⟨a,ns,rfl,hS,hl,λ_=>rfl⟩) λ_ _ _ _ _ z=>z
 intro w mg fa h KX G hmg
 obtain⟨HN,Xg,Xh,Xi,RT,Ss,Su,Xj,Sv,RV,HQ,RW,Xk,Xl,Eg,HR,Xm,RX,Xn,Ph,HS,Xo,Xp,Xq,HW,Xr,Xu,Sw,Sx,Xv,aAR,cG,fH,bK,fU,tU,ji,jj,Ho,Ks,jM,zJ,uA,Wu,Dr,Wv,QZ,jk⟩:=F w mg h KX G
 obtain⟨f,fd,FL,m⟩:=aAR.ex
 rw[hdn]at hmg
 have e:=hmg.symm.trans m
 cases e
 refine⟨fd,Qz FL (λ_ _ _ _ _ _ u=>rfl),λbase _ _=>?_⟩
 have bF:=Rk (P:=l.prog) (w:=w) (mg:=mg) (base:=base) HN  cG
 have cA:=Nm (P:=l.prog) (w:=w) (mg:=mg) (base:=base) Xg bF  cG
 have yJ:=Np (P:=l.prog) (w:=w) (mg:=mg) (base:=base) Xh bF cA  fH
 have yK:=Nq (P:=l.prog) (w:=w) (mg:=mg) (base:=base) Xi bF  fH cG
 have Ko:=Wq (P:=l.prog) (w:=w) (mg:=mg) (base:=base) RT bF cA  cG
 have qO:=Kl (P:=l.prog) (w:=w) (mg:=mg) (base:=base) Ss bF cA
 have nT:=Km (P:=l.prog) (w:=w) (mg:=mg) (base:=base) Su Ko qO
 have yR:=Nu (P:=l.prog) (w:=w) (mg:=mg) (base:=base) Xj yJ yK cA nT bF  fH cG
 have uR:=Kq (P:=l.prog) (w:=w) (mg:=mg) (base:=base) Sv  cG
 have Kw:=Wr (P:=l.prog) (w:=w) (mg:=mg) (base:=base) RV  cG bK fU tU
 have Dq:=Rm (P:=l.prog) (w:=w) (mg:=mg) (base:=base) HQ
 have Kr:=Wt (P:=l.prog) (w:=w) (mg:=mg) (base:=base) RW  cG
 have jQ:=Nx (P:=l.prog) (w:=w) (mg:=mg) (base:=base) Xk Kr Dq
 have yM:=Ny (P:=l.prog) (w:=w) (mg:=mg) (base:=base) Xl jQ  fU zJ uA
 have nU:=yL (P:=l.prog) (w:=w) (mg:=mg) (base:=base) Eg yM jQ  ji jj tU zJ uA Wu Dr Wv QZ
 have Ds:=Ro (P:=l.prog) (w:=w) (mg:=mg) (base:=base) HR  bK Ho Ks
 have mU:=Nz (P:=l.prog) (w:=w) (mg:=mg) (base:=base) Xm Ds  tU cG bK jM
 have Kv:=Wx (P:=l.prog) (w:=w) (mg:=mg) (base:=base) RX mU
 have yN:=Oa (P:=l.prog) (w:=w) (mg:=mg) (base:=base) Xn mU  Wv Wu Dr jk uA
 have rO:=Et (P:=l.prog) (w:=w) (mg:=mg) (base:=base) Ph yN Kv  tU
 have rP:=Rr (P:=l.prog) (w:=w) (mg:=mg) (base:=base) HS Kw uR nU rO  tU
 have yO:=Ob (P:=l.prog) (w:=w) (mg:=mg) (base:=base) Xo  bK Ho Ks
 have yP:=Oc (P:=l.prog) (w:=w) (mg:=mg) (base:=base) Xp yO  cG bK jM
 have yS:=Od (P:=l.prog) (w:=w) (mg:=mg) (base:=base) Xq yP  cG bK fU fH
 have Du:=Ru (P:=l.prog) (w:=w) (mg:=mg) (base:=base) HW bF cA  fU cG jM
 have tG:=Oe (P:=l.prog) (w:=w) (mg:=mg) (base:=base) Xr  fH
 have yQ:=Og (P:=l.prog) (w:=w) (mg:=mg) (base:=base) Xu bF tG  cG fU jM
 have uV:=Ky (P:=l.prog) (w:=w) (mg:=mg) (base:=base) Sw  fU cG
 have uW:=Kz (P:=l.prog) (w:=w) (mg:=mg) (base:=base) Sx bF cA  cG fU
 have yU:=Oh (P:=l.prog) (w:=w) (mg:=mg) (base:=base) Xv bF yQ uV uW Du  cG Ks fU
 exact jl FL bF yR yS rP yU  fU HJ
end Rs
open PySem PySem.W PyProof.Rows
set_option maxRecDepth 100000 in
set_option maxHeartbeats 0 in
theorem PySem.Challenge.cw_ripestone_k25_sound_or_not_holds : PySem.Challenge.rw_ripestone_k25_sound_or_not.Holds := by
 w_on;o_law;k_head;(case hw=>w_witness2)
 k_fill
 refine Rs.walk (l:=PySem.Challenge.rw_ripestone_k25_sound_or_not) rfl rfl rfl (λw h Y=>PySem.W.kIn_of Y) ?F
 case F=>
  intro w mg h KX G
  refine⟨?_,?_,?_,?_,?_,?_,?_,?_,?_,?_,?_,?_,?_,?_,?_,?_,?_,?_,?_,?_,?_,?_,?_,?_,?_,?_,?_,?_,?_,?_,?_,F7 KX G ?_,F7 KX G ?_,F7 KX G ?_,F7 KX G ?_,F7 KX G ?_,F7 KX G ?_,F7 KX G ?_,F7 KX G ?_,F7 KX G ?_,F7 KX G ?_,?_,?_,?_,?_,?_,?_,?_⟩
  iterate 31
   ·refine' Rs.aAQ KX G ?a ?l ?c
    (case a=>k_is);(case l=>k_is);(case c=>k_is)
  iterate 10
   ·k_is
  ·refine' L2.nH KX G ?a
   (case a=>k_is)
  ·refine' L2.nH KX G ?a
   (case a=>k_is)
  ·refine' L2.nH KX G ?a
   (case a=>k_is)
  ·refine' L2.nH KX G ?a
   (case a=>k_is)
  ·refine' L2.nH KX G ?a
   (case a=>k_is)
  ·refine' L2.nH KX G ?a
   (case a=>k_is)
  ·refine' L2.nH KX G ?a
   (case a=>k_is)
#print axioms PySem.Challenge.cw_ripestone_k25_sound_or_not_holds
