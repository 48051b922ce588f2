import PyProof.Rows.All
import Wide.All
import OpenK.AllK
import Wide.FinOn
import Lean
import PyProof.EqAt
import PyProof.EqKinds
import PyProof.TupleCall
import PySem.Challenge.RW_ripestone_k55_odd_stones
macro"~"t:term:tactic=>`(tactic|exact $t)
macro"&"t:term:tactic=>`(tactic|refine $t)
macro"A3":term=>`(by omega)
macro"A4":term=>`(by decide +kernel)
macro"A5":term=>`(by decide)
macro"A6":term=>`(by exact Nat.le_of_ble_eq_true rfl)
macro"A8"i:(ppSpace colGt ident)+ l:(Lean.Parser.Tactic.location)?:tactic=>`(tactic|unfold $i* $[$l]?)
macro"A7"p:Lean.Parser.Tactic.rcasesPatMed":="t:term:tactic=>`(tactic|obtain $p := $t)
macro"A7"p:Lean.Parser.Tactic.rcasesPatMed":"y:term":="t:term:tactic=>`(tactic|obtain $p : $y := $t)
open Lean.Parser.Command in
macro"A9"n:declId s:declSig v:declVal:command=>`(command|theorem $n $s $v)
open Array renaming length_toList→K8,getElem?_eq_some_iff→O0,getElem?_toList→U7,toList→Z5
open Bool renaming and_eq_true→B4,false_ne_true→B8,eq_iff_iff→F7,true_and→G0,not_eq_true'→K7,not_eq_false'→M9,and_eq_false_iff→Q7,or_eq_true→R3,or_eq_false_iff→R4,false_and→U5,false_eq_true→V9,eq_false_iff→W7,and_false→Y3,and_true→Y8
open Int renaming emod_lt_of_pos→F3,emod_nonneg→F9,toNat_natCast→N0,zero_add→W5,mul_nonneg→Y5,mul_le_mul→Y6
open List renaming length_map→B3,getElem?_eq_getElem→B6,size_toArray→B7,replicate→B9,getElem?_eq_some_iff→C4,mem_cons_of_mem→C5,length_append→C6,mem_append_right→C9,mem_cons_self→D1,getElem?_map→D5,map_cons→D7,length_singleton→D8,all_eq_true→D9,getD_eq_getElem?_getD→F1,mem_singleton→F6,mem_cons→G2,map_append→G5,length_cons→G8,replicate_succ→G9,mem_append_left→I0,mem_of_getElem?→J0,map_nil→J7,length_take→J9,filterMap_cons→K1,length_replicate→K2,all_cons→K3,range→K4,getElem?_set_ne→K5,getElem?_set_self→L5,drop_eq_getElem_cons→L7,mem_append→L8,flatten_cons→M3,length_drop→M4,cons_append→M5,mem_map→M7,map_map→M8,mem_range→N1,take_length→N2,length_set→O3,nil_append→O4,getElem?_replicate→P0,length_range→P5,take_of_length_le→P8,any_cons→Q1,lookup_cons→Q3,nodup_cons→Q9,all_append→R5,replicate_zero→R7,map_congr_left→R8,map_replicate→S3,getElem?_append_right→S4,take_add_one→S9,getElem?_append_left→T0,mem_or_eq_of_mem_set→T1,drop_length→T3,flatten_nil→T5,eq_of_mem_replicate→T7,append_nil→U1,of_mem_zip→U2,drop_eq_nil_of_le→U4,drop_zero→V0,getElem_of_mem→V3,take_succ_cons→V4,mem_filterMap→V6,zip_cons_cons→W0,map_set→W4,append_assoc→W6,all_eq_false→W8,length→W9,getElem_mem→X4,ext_getElem→X5,not_mem_nil→X6,length_tail→X7,mem_filter→X8,foldl→X9,foldl_cons→Y0,filterMap→Y4
open Nat renaming lt_of_lt_of_le→C3,le_refl→D2,le_trans→F0,ne_of_lt→F2,lt_irrefl→G3,lt_succ_of_lt→N5,ne_of_gt→N6,le_of_ble_eq_true→N8,zero_le→O1,zero_add→O7,le_succ→P6,digitChar→S5,toDigits→T6,toDigits_of_lt_base→T8,mul_le_mul→V2,le_of_lt→V5,sub_zero→W3,lt_succ_self→X2
open Option renaming bind_some→C8,isSome_iff_exists→O5,getD_none→X1,getD_some→X3,none→Z8
open Option.some renaming inj→G1
open Or renaming inr→D3,inl→D4
open PyProof.Rows renaming boot_str→L6,boot_isinstance→M6,boot_list→N4,boot_tuple→P2,boot_all→Q6,callWith_type1→S2,split_le→U8,boot_int→V1
open PySem renaming boot_len→C7,mem_of_lookup→K9,intText?→S0,call→Y1,Within→Z0,passOn→Z7
open PySem.F renaming plainAttrs_str→D6,slot_str_split→F4,type_str_split→F5,plainAttrs_list→J8,slot_list_append→L9,type_list_append→M0,excBase_ValueError→N9,slot_str_join→Q4,type_str_join→Q5
open PySem.NumText renaming digitsVal→N3
open PySem.Str renaming ofString→O6
open PySem.W renaming exmOne→B5,kia_one→F8,mg_of→G4,fnOf→G6,nsIn→G7,mg_none_of→J1,excIn→J5,findIn→J6,Looks→K0,keepIn→K6,codeIn→N7,hideAll→O2,kitOne→O8,kitCls→O9,specialIn→P4,mroIn→Q0,clsIn→Q2,hideAll_none→Q8,exm_one→R0,looks_findIn→R1,hideAll_get→R6,of_hideAll→S1,methodObj→S6,kitx_list→S7,kitx_dict→S8,instObj→T9,takesIn→U0,cellsFrom_some→U3,lookIn→U6,kitAny→U9,kitx_tuple→V7,callWith_K→V8,plainGet→X0,OpenLaw→Y2,WalkO→Y7,subIn→Y9,isFn→Z6
open PySem.W.KF renaming slot_gs→W2
open PySem.W.Looks renaming ld→T4
open Sum renaming inl→R9,inr→T2
abbrev aA:=PySem.W.Frag
A9 aU{α:Type u_1}{b:α}{β:Type u_2}{x:Option β}{f:β→Option α}(h:x.bind f=some b):∃a,x=some a∧f a=some b:=Option.bind_eq_some_iff.mp h
A9 iZ{α:Type u_1}{b:α}{β:Type u_2}{x:Option β}{f:β→α}(h:x.map f=some b):∃a,x=some a∧f a=b:=Option.map_eq_some_iff.mp h

set_option Elab.async false
set_option linter.all false
set_option maxRecDepth 100000
namespace L2
open PySem PySem.Spec PyProof.Rows
abbrev Key:=Sum Int Str
def KZ:Key→Value→Bool
 | .inl k,v=>Value.isInt k v
 | .inr x,v=>Value.isStrOf x v
def xr(w:World):Key→Int
 | .inl k=>hashInt k
 | .inr x=>hashStr w x
A9 dB:∀{k:Key} {v:Value},KZ k v=true→(∃i t,k=R9 i∧v=Value.int i t)∨(∃x t,k=T2 x∧v=Value.str x t)
 | .inl i,v,h=>by
  A7⟨t,e⟩:=Value.isInt_shape (k:=i) (v:=v) h
  ~.inl ⟨i,t,rfl,e⟩
 | .inr x,v,h=>by
  A7⟨t,e⟩:=Value.isStrOf_shape (x:=x) (v:=v) h
  ~.inr ⟨x,t,rfl,e⟩
A9 QB(a b:Int):decide ((R9 a:Key)=R9 b)=(a==b):=by
 by_cases e:a=b
 ·subst e;simp
 ·have h:¬(R9 a:Key)=R9 b:=fun q=>e (Sum.inl.inj q)
  rw[decide_eq_false h]
  ~(beq_eq_false_iff_ne.mpr e).symm
A9 QC(a b:Str):decide ((T2 a:Key)=T2 b)=decide (a=b):=by
 by_cases e:a=b
 ·subst e;simp
 ·have h:¬(T2 a:Key)=T2 b:=fun q=>e (Sum.inr.inj q)
  rw[decide_eq_false h,decide_eq_false e]
A9 QD(a:Int)(b:Str):decide ((R9 a:Key)=T2 b)=false:=decide_eq_false (fun q=>nomatch q)
A9 QF(a:Str)(b:Int):decide ((T2 a:Key)=R9 b)=false:=decide_eq_false (fun q=>nomatch q)
def El(prog:Program)(w:World):PySem.KeyKind prog w Key where
  is:=KZ
  hash:=xr w
  inj:=fun v a b ha hb=>by
    rcases dB ha with ⟨i,t,rfl,rfl⟩ | ⟨x,t,rfl,rfl⟩
    · rcases dB hb with ⟨j,u,rfl,e⟩ | ⟨y,u,rfl,e⟩
      · injection e with e1 _;rw[e1]
      · ~nomatch e
    · rcases dB hb with ⟨j,u,rfl,e⟩ | ⟨y,u,rfl,e⟩
      · ~nomatch e
      · injection e with e1 _;rw[e1]
  byValue:=fun k v h=>by
    rcases dB h with ⟨i,t,rfl,rfl⟩ | ⟨x,t,rfl,rfl⟩<;>rfl
  pyHash:=fun hv h=>by
    rcases dB hv with ⟨i,t,rfl,rfl⟩ | ⟨x,t,rfl,rfl⟩
    · ~wpAny_pyHash_int h
    · ~wpAny_pyHash_str h
  eqBool:=fun hu hv h=>by
    rcases dB hu with ⟨i,t,rfl,rfl⟩ | ⟨x,t,rfl,rfl⟩
    · rcases dB hv with ⟨j,u,rfl,rfl⟩ | ⟨y,u,rfl,rfl⟩
      · rw[QB]at h;~wpAny_eqBool_int h
      · rw[QD]at h;~SeqAt.EqAt.int_str i t y u _ _ _ _ h
    · rcases dB hv with ⟨j,u,rfl,rfl⟩ | ⟨y,u,rfl,rfl⟩
      · rw[QF]at h;~SeqAt.EqAt.str_int x t j u _ _ _ _ h
      · rw[QC]at h;~wpAny_eqBool_str h
  «strs»:=fun k x t v h=>by
    rcases dB h with ⟨i,u,rfl,e⟩ | ⟨y,u,rfl,e⟩
    · ~nomatch e
    · injection e with e1 _
      subst e1
      cases v<;>rfl
end L2
namespace L2
open PySem PySem.Spec PyProof.Rows
inductive V where
  | non | bl (b:Bool) | int (i:Int) | str (x:Str) | byt (b:Array UInt8) | flt (b:UInt64) | ref (a:Addr) | ty (n:String)
  deriving DecidableEq
def RelV:V→Value→Prop
 | .non,u=>u=Value.none
 | .bl b,u=>u=Value.bool b
 | .int i,u=>∃t,u=Value.int i t
 | .str x,u=>∃t,u=Value.str x t
 | .byt b,u=>∃t,u=Value.bytes b t
 | .flt b,u=>∃t,u=Value.float b t
 | .ref a,u=>u=Value.ref a
 | .ty n,u=>u=Value.type n
abbrev Vals:List V→List Value→Prop:=Paired RelV
A9 Vals.length{xs:List V}{us:List Value}(r:Vals xs us):xs.length=us.length:=Paired.length r
A9 Vals.get:∀{xs:List V} {us:List Value} {i:Nat} {x:V},Vals xs us→xs[i]?=some x→∃u,us[i]?=some u∧RelV x u
 | _,_,_,_,.nil,e=>by simp at e
 | _,_,0,_,.cons r _,e=>by simp at e;subst e;~⟨_,rfl,r⟩
 | _,_,i+1,x,.cons _ t,e=>by
  A7⟨u,h1,h2⟩:=Vals.get (i:=i) (x:=x) t (by simpa using e)
  ~⟨u,by simpa using h1,h2⟩
A9 Vals.set{x:V}{u:Value}(r:RelV x u):∀{xs:List V} {us:List Value} (i:Nat),Vals xs us→Vals (xs.set i x) (us.set i u)
 | _,_,_,.nil=>.nil
 | _,_,0,.cons _ t=>.cons r t
 | _,_,i+1,.cons q t=>.cons q (Vals.set r i t)
A9 Vals.append:∀{xs ys:List V} {us ws:List Value},Vals xs us→Vals ys ws→Vals (xs++ys) (us++ws)
 | _,_,_,_,.nil,s=>s
 | _,_,_,_,.cons r t,s=>.cons r (Vals.append t s)
A9 Vals.take:∀{xs:List V} {us:List Value} (n:Nat),Vals xs us→Vals (xs.take n) (us.take n)
 | _,_,0,_=>.nil
 | _,_,_+1,.nil=>.nil
 | _,_,n+1,.cons r t=>.cons r (Vals.take n t)
A9 Vals.drop:∀{xs:List V} {us:List Value} (n:Nat),Vals xs us→Vals (xs.drop n) (us.drop n)
 | _,_,0,r=>r
 | _,_,_+1,.nil=>.nil
 | _,_,n+1,.cons _ t=>Vals.drop n t
def QG:Option V→Option Value→Prop
 | some v,some u=>RelV v u
 | none,none=>True
 | _,_=>False
def KV{κ:Type}:List (κ×V)→List (κ×Value)→Prop:=Paired fun(p:κ×V) (q:κ×Value)=>p.1=q.1∧RelV p.2 q.2
def kV:Key→V
 | .inl i=>.int i
 | .inr x=>.str x
inductive HO where
  | lst (xs:List V)
  | tup (xs:List V)
  | dK (kvs:List (Key×V)) | dT (kvs:List (List Key×V))
  | set (S:Int→Bool) (n:Nat)
  | ins (C dx:Addr) (fs:List (Str×V))
  | own (x:Addr)
  | xd (fs:List (Str×V))
  | met (f x:Addr)
  | rng (lo hi:Int)
  | tZ (o:Obj) (u:HO)
  | tbl (ps:Array Value)
  | ext (φ:Heap→Prop)
abbrev Hp:=Addr→Option HO
def upd(H:Hp)(a:Addr)(o:HO):Hp:=fun b=>if b=a then some o else H b
A9 bW{H:Hp}{a:Addr}{o:HO}:upd H a o a=some o:=by A8 upd;rw[if_pos rfl]
A9 bH{H:Hp}{a b:Addr}{o:HO}(h:b≠a):upd H a o b=H b:=by A8 upd;rw[if_neg h]
A9 gC{H:Hp}{a b:Addr}{o:HO}(h:H a=some o)(h':H b=none):a≠b:=by
 intro e;subst e;rw[h]at h';cases h'
section
variable(P:Program)(w:World)
def gY(H:Hp)(h:Heap)(a:Addr):HO→Prop
 | .lst xs=>xs.length≤sizeLine∧∃(its:List Value)(n:Nat),Vals xs its∧h.get? a=some {cls:=.type "list", data:=.seq its.toArray n}
 | .tup xs=>xs.length≤sizeLine∧∃its:List Value,Vals xs its∧IsTup h a its.toArray
 | .dK kvs=>kvs.length≤sizeLine∧(a==sysModules)=false∧∃vs,KV kvs vs∧h.DictOf (El P w) a vs
 | .dT kvs=>kvs.length≤sizeLine∧(a==sysModules)=false∧∃xs:List (List Key×Addr×Value),
   Paired (fun(p:List Key×V) (q:List Key×Addr×Value)=>p.1=q.1∧H q.2.1=some (.tup (p.1.map kV))∧RelV p.2 q.2.2) kvs xs ∧
   ∃o es ep,h.get? a=some o∧o.ExactDict∧o.data=.dict es ep∧es.toList=xs.map (entryOfKey (tupleKind (El P w)))∧(xs.map (·.1)).Nodup
 | .set S n=>h.SetOf (intKind P w) a S n
 | .ins C dx fs=>H dx=some (.own a)∧fs.length≤1000∧dx≠a∧h.get? a=some (T9 C dx) ∧
   ∃mA,h.Ns1 dx mA∧(∀f,QG (fs.lookup f) (mA f))∧Z0 mA (fs.map (·.1))
 | .own _=>∃o,h.get? a=some o
 | .xd fs=>∃mA,h.Ns1 a mA∧∀f,QG (fs.lookup f) (mA f)
 | .rng lo hi=>∃t u v,h.get? a=some {cls:=.type "range", data:=.fields #[.int lo t,.int hi u,.int 1 v]}
 | .tZ o u=>h.get? a=some o∧gY H h a u
 | .tbl ps=>h.get? a=some {cls:=.none,data:=.fields ps}
 | .met f x=>h.get? a=some (S6 (.ref f) (.ref x))
 | .ext φ=>φ h∧(∃o,h.get? a=some o)∧∀h1 h2:Heap,φ h1→(∀o,h1.get? a=some o→h2.get? a=some o)→φ h2
def rQ(H:Hp)(h:Heap):Prop:=∀a o,H a=some o→gY P w H h a o
end
section
variable{P:Program}{w:World}{H H':Hp}{h h':Heap}{a:Addr}{o:HO}
A9 gY.lt(x:gY P w H h a o):a<h.objs.size:=by
 cases o with
 | lst xs=>A7⟨_,_,_,_,e⟩:=x;~Heap.lt_size e
 | tup xs=>A7⟨_,_,_,p⟩:=x;~p.lt
 | dK kvs=>A7⟨_,_,_,_,o,_,_,e,_⟩:=x;~Heap.lt_size e
 | dT kvs=>A7⟨_,_,_,_,o,_,_,e,_⟩:=x;~Heap.lt_size e
 | set S n=>A7⟨o,_,_,_,e,_⟩:=x;~Heap.lt_size e
 | ins C dx fs=>A7⟨_,_,_,e,_⟩:=x;~Heap.lt_size e
 | own y=>A7⟨_,e⟩:=x;~Heap.lt_size e
 | xd fs=>A7⟨_,⟨_,_,_,e,_⟩,_⟩:=x;~Heap.lt_size e
 | rng lo hi=>A7⟨_,_,_,e⟩:=x;~Heap.lt_size e
 | tZ ob u=>A7⟨e,_⟩:=x;~Heap.lt_size e
 | tbl ps=>~Heap.lt_size (show h.get? a=some _ from x)
 | met f y=>~Heap.lt_size (show h.get? a=some _ from x)
 | ext φ=>A7⟨_,⟨_,e⟩,_⟩:=x;~Heap.lt_size e
A9 Paired.ig{α β:Type}{F G:α→β→Prop}:∀{l₁:List α} {l₂:List β},Paired F l₁ l₂→(∀a b,F a b→G a b)→Paired G l₁ l₂
 | _,_,.nil,_=>.nil
 | _,_,.cons r t,f=>.cons (f _ _ r) (Paired.ig t f)
A9 gY.stay(x:gY P w H h a o)(k:∀b u,(b=a∨H b=some (.own a))→h.get? b=some u→h'.get? b=some u)
  (ho:∀b,H b=some (.own a)→H' b=some (.own a)) (ht:∀b xs,H b=some (.tup xs)→H' b=some (.tup xs)):gY P w H' h' a o:=by
 induction o with
 | lst xs=>A7⟨z,its,n,r,e⟩:=x;~⟨z,its,n,r,k _ _ (.inl rfl) e⟩
 | tup xs=>A7⟨z,its,r,ob,e,c⟩:=x;~⟨z,its,r,ob,k _ _ (.inl rfl) e,c⟩
 | dK kvs=>A7⟨z,y,vs,r,ob,es,ep,e,c⟩:=x;~⟨z,y,vs,r,ob,es,ep,k _ _ (.inl rfl) e,c⟩
 | dT kvs=>
  A7⟨z,y,xs,r,ob,es,ep,e,c⟩:=x
  ~⟨z,y,xs,Paired.ig r fun p q z=>⟨z.1,ht _ _ z.2.1,z.2.2⟩,ob,es,ep,k _ _ (.inl rfl) e,c⟩
 | set S n=>A7⟨ob,es,ep,t,e,c⟩:=x;~⟨ob,es,ep,t,k _ _ (.inl rfl) e,c⟩
 | ins C dx fs=>
  A7⟨d,z,ne,e,mA,⟨od,es,ep,e2,c⟩,r⟩:=x
  ~⟨ho _ d,z,ne,k _ _ (.inl rfl) e,mA,⟨od,es,ep,k _ _ (.inr d) e2,c⟩,r⟩
 | own y=>A7⟨ob,e⟩:=x;~⟨ob,k _ _ (.inl rfl) e⟩
 | xd fs=>A7⟨mA,⟨od,es,ep,e,c⟩,r⟩:=x;~⟨mA,⟨od,es,ep,k _ _ (.inl rfl) e,c⟩,r⟩
 | rng lo hi=>A7⟨t,u,v,e⟩:=x;~⟨t,u,v,k _ _ (.inl rfl) e⟩
 | tZ ob u ih=>A7⟨e,q⟩:=x;~⟨k _ _ (.inl rfl) e,ih q⟩
 | tbl ps=>
  have e:h.get? a=some {cls:=.none,data:=.fields ps}:=x
  show h'.get? a=some {cls:=.none,data:=.fields ps}
  ~k a _ (.inl rfl) e
 | met f y=>
  have e:h.get? a=some (S6 (.ref f) (.ref y)):=x
  show h'.get? a=some (S6 (.ref f) (.ref y))
  ~k a _ (.inl rfl) e
 | ext φ=>A7⟨p,⟨o,e⟩,st⟩:=x;~⟨st _ _ p fun o q=>k _ _ (.inl rfl) q,⟨o,k _ _ (.inl rfl) e⟩,st⟩
A9 rQ.lt(x:rQ P w H h)(e:H a=some o):a<h.objs.size:=(x a o e).lt
A9 rQ.fresh(x:rQ P w H h)(e:h.objs.size≤a):H a=none:=by
 cases q:H a with
 | none=>rfl
 | some u=>~absurd (C3 (x.lt q) e) (G3 _)
A9 rQ.kept(x:rQ P w H h)(k:∀b u,h.get? b=some u→h'.get? b=some u):rQ P w H h':=fun a o e=>
 (x a o e).stay (fun b u _ q=>k b u q) (fun _ q=>q) fun _ _ q=>q
A9 rQ.laid(x:rQ P w H h)(k:∀b u,h.get? b=some u→h'.get? b=some u)(hp:h.objs.size≤a)(new:gY P w (upd H a o) h' a o):rQ P w (upd H a o) h':=fun b u e=>by
 have hn:=x.fresh hp
 by_cases hb:b=a
 ·subst hb;rw[bW]at e;cases e;~new
 ·rw[bH hb]at e
  ~(x b u e).stay (fun c v _ q=>k c v q) (fun c q=>by rw[bH (gC q hn)];~q) fun c xs q=>by rw[bH (gC q hn)];~q
end
def Rd(H:Hp)(a:Addr)(u:HO):Prop:=H a=some u∨∃o,H a=some (.tZ o u)
A9 Rd.ok{P:Program}{w:World}{H:Hp}{h:Heap}{a:Addr}{u:HO}(r:Rd H a u)(x:rQ P w H h):gY P w H h a u:=by
 rcases r with r | ⟨o,r⟩
 ·~x a u r
 ·A7⟨_,q⟩:=x a _ r
  ~q
def ux:Option HO→Prop
 | some (.lst _)=>True
 | some (.dK _)=>True
 | some (.dT _)=>True
 | some (.set _ _)=>True
 | some (.ins _ _ _)=>True
 | some (.ext _)=>True
 | _=>False
section
variable{P:Program}{w:World}{H:Hp}{h h':Heap}{x e:Addr}{o':HO}
A9 rQ.write(ok:rQ P w H h)(mu:ux (H x))(he:e=x∨H e=some (.own x))(k:∀b u,b≠e→h.get? b=some u→h'.get? b=some u)(heo:∃u,h'.get? e=some u)
  (new:gY P w (upd H x o') h' x o'):rQ P w (upd H x o') h':=fun b u q=>by
 have ik:∀c y,H c=some (.own y)→c≠x:=fun c y r z=>by subst z;rw[r]at mu;~mu
 have xu:∀c xs,H c=some (.tup xs)→c≠x:=fun c xs r z=>by subst z;rw[r]at mu;~mu
 by_cases hb:b=x
 ·subst hb;rw[bW]at q;cases q;~new
 ·rw[bH hb]at q
  by_cases hbe:b=e
  ·have q':H b=some (.own x):=by
    rcases he with z | z
    ·~absurd (hbe.trans z) hb
    ·rw[hbe];~z
   rw[q]at q';cases q'
   A7⟨v,hv⟩:=heo
   ~⟨v,by rw[hbe];~hv⟩
  ·&(ok b u q).stay (fun c v hc r=>k c v ?_ r) (fun c r=>by rw[bH (ik c b r)];~r) fun c xs r=>by rw[bH (xu c xs r)];~r
   rcases hc with rfl | hc
   ·~hbe
   ·rintro rfl
    rcases he with z | z
    ·~ik c b hc z
    ·rw[hc]at z;cases z;~hb rfl
end
structure Un(fs ex:List Addr)(H H':Hp)(h h':Heap):Prop where
 keep:∀b o,h.get? b=some o→H b=none→b∉fs→b∉ex→h'.get? b=some o
 slot:∀b o,h.get? b=some o→H b=none→b∈fs→b∉ex→∃sl,h'.get? b=some {o with slots:=sl}
 free:∀b o,h.get? b=some o→H b=none→b∉ex→H' b=none
 there:∀b o,h.get? b=some o→b∉ex→∃o',h'.get? b=some o'
 tups:∀b xs,H b=some (.tup xs)→H' b=some (.tup xs)
 xF:∀b o u,H b=some (.tZ o u)→H' b=some (.tZ o u)
 yJ:∀b ps,H b=some (.tbl ps)→∃more,H' b=some (.tbl (ps++more))
section
variable{fs fs' ex ex':List Addr}{H H1 H2:Hp}{h h1 h2 h':Heap}{a x e:Addr}{o:HO}
A9 Un.any(u:Un fs ex H H1 h h1){b:Addr}{ob:Obj}(q:h.get? b=some ob)(n:H b=none)(hx:b∉ex):∃sl,h1.get? b=some {ob with slots:=sl}:=by
 by_cases hb:b∈fs
 ·~u.slot b ob q n hb hx
 ·~⟨ob.slots,u.keep b ob q n hb hx⟩
A9 Un.kept(k:∀b u,h.get? b=some u→h'.get? b=some u):Un fs ex H H h h':=
 ⟨fun b ob q _ _ _=>k b ob q,fun b ob q _ _ _=>⟨ob.slots,k b ob q⟩,fun _ _ _ n _=>n,fun b ob q _=>⟨ob,k b ob q⟩,fun _ _ q=>q,fun _ _ _ q=>q,fun _ ps q=>⟨#[],by rw[q];simp⟩⟩
A9 Un.refl:Un fs ex H H h h:=Un.kept fun _ _ q=>q
A9 Un.laid(k:∀b u,h.get? b=some u→h'.get? b=some u)(hp:h.objs.size≤a)(hn:H a=none):Un fs ex H (upd H a o) h h' where
 keep:=fun b u q _ _ _=>k b u q
 slot:=fun b u q _ _ _=>⟨u.slots,k b u q⟩
 free:=fun b u q n _=>by rw[bH (F2 (C3 (Heap.lt_size q) hp))];~n
 there:=fun b u q _=>⟨u,k b u q⟩
 tups:=fun b xs q=>by rw[bH (gC q hn)];~q
 xF:=fun b u xs q=>by rw[bH (gC q hn)];~q
 yJ:=fun b ps q=>⟨#[],by rw[bH (gC q hn),q];simp⟩
A9 Un.write(mu:ux (H x))(he:e=x∨H e=some (.own x))(k:∀b u,b≠e→h.get? b=some u→h'.get? b=some u)(heo:∃u,h'.get? e=some u):Un fs ex H (upd H x o) h h':=by
 have hx:∀b,H b=none→b≠x:=fun b n z=>by subst z;rw[n]at mu;~mu
 have hb:∀b,H b=none→b≠e:=fun b n z=>by
  subst z
  rcases he with r | r
  ·~hx b n r
  ·rw[n]at r;cases r
 have hm:∀b u,H b=some u→¬ux (some u)→b≠x:=fun b u q nm z=>by subst z;rw[q]at mu;~nm mu
 &⟨fun b u q n _ _=>k b u (hb b n) q,fun b u q n _ _=>⟨u.slots,k b u (hb b n) q⟩,fun b u q n _=>by rw[bH (hx b n)];~n,fun b u q _=>?_,
  fun b xs q=>by rw[bH (hm b _ q fun z=>z)];~q,fun b u xs q=>by rw[bH (hm b _ q fun z=>z)];~q,fun b ps q=>⟨#[],by rw[bH (hm b _ q fun z=>z),q];simp⟩⟩
 by_cases hbe:b=e
 ·subst hbe;~heo
 ·~⟨u,k b u hbe q⟩
end
def uy(h:Heap)(H:Hp):List Addr:=(K4 h.objs.size).filter fun a=>(H a).isSome
def Em(h:Heap)(H:Hp):Heap:=O2 h (uy h H)
A9 Rc(h:Heap)(H:Hp):(Em h H).objs.size=h.objs.size:=PySem.W.hideAll_size _ _
A9 Uk{h:Heap}{H:Hp}{b:Addr}{o:Obj}(e:h.get? b=some o)(n:H b=none):(Em h H).get? b=some o:=
 R6 _ e fun hm=>by
  have q:(H b).isSome=true:=(X8.mp hm).2
  rw[n]at q;simp at q
A9 Zf{h:Heap}{H:Hp}{b:Addr}{o:Obj}(e:(Em h H).get? b=some o):h.get? b=some o∧H b=none:=by
 have e':h.get? b=some o:=S1 (uy h H) e
 &⟨e',?_⟩
 cases q:H b with
 | none=>rfl
 | some x=>
  have hm:b∈uy h H:=X8.mpr ⟨N1.mpr (Heap.lt_size e'),by simp[q]⟩
  have z:(Em h H).get? b=none:=Q8 (uy h H) hm
  rw[z]at e;cases e
def Zg(g h:Heap)(L:Addr):List (Addr×Obj):=(K4 h.objs.size).filterMap fun a=>if a=L∨(g.get? a).isSome=true then none else(h.get? a).map fun o=>(a,o)
def rest(g h:Heap)(L d:Addr):List (Addr×Obj):=(Zg g h L).filter fun p=>decide (p.1≠d)
end L2
namespace L2
open PySem PySem.Spec PyProof.Rows
structure Mod(K:aA)(mg:Str→Option Value)(base:Heap):Prop where
 il:K.In base
 glob:base.Ns mainGlobals mg
 blt:∃mb,base.Ns builtinsNs mb∧∀x:Str,x ≠ "__name__" → mb x=bootBuiltins x
 nolimit:base.NoLimit
structure Cx where
 prog:Program
 w:World
 K:aA
 mg:Str→Option Value
 base:Heap
 A:Around
 N:List Str
 s₀:Shared
 H₀:Hp
 env:Env
 outer:List Env
 stack:List Env
 ex:List Addr
 fn:Str→Bool
 calm:Bool
 pn:List (Addr×Obj)
 xe:Value→Shared→Prop
def frs(l:List Env):List Addr:=l.filterMap (·.frame)
abbrev Cx.fs(X:Cx):List Addr:=frs X.outer
def uz(sc:Scope)(x:Str):Prop:=sc.names.lookup x=some .local∨sc.names.lookup x=some .cell∨sc.names.lookup x=some .free
def Loc(sc:Scope)(x:Str):Prop:=sc.names.lookup x=some .local∨sc.names.lookup x=some .cell
def Look(env:Env)(h:Heap)(m:Str→Option Value)(x:Str)(u:Value):Prop:=
 (env.kindOf x=some .local∧m x=some u)∨((env.kindOf x=some .cell∨env.kindOf x=some .free)∧∃c,env.cells.lookup x=some c∧h.IsCell c (some u))
structure Cx.Ok(X:Cx):Prop where
 mod:Mod X.K X.mg X.base
 kind:X.env.scope.kind=.function
 glob:X.env.globals=mainGlobals
 blt:X.env.builtins=builtinsNs
 above:X.s₀.heap.objs.size≤X.env.locals
 inj:∀x y c,X.env.cells.lookup x=some c→X.env.cells.lookup y=some c→x=y
 has:∀x,(X.env.kindOf x=some .cell∨X.env.kindOf x=some .free)→∃c,X.env.cells.lookup x=some c
 cab:∀x c,X.fn x=true→X.env.cells.lookup x=some c→X.s₀.heap.objs.size≤c
 hd:X.calm=true→X.A.handled=none
 frames:X.A.frames=some X.stack
 LC:X.stack=X.outer∨(X.stack=X.env::X.outer∧X.env.frame=some X.env.locals)
 dw:∀b∈X.ex,b≠X.env.locals∧∀x c,X.env.cells.lookup x=some c→c≠b
 bs:∀b o,X.base.get? b=some o→X.s₀.heap.get? b=some o∧X.H₀ b=none
 Uc:X.base.objs.size≤X.s₀.heap.objs.size
 En:∀b o,X.base.get? b=some o→b∉X.ex
 Hx:∀b∈X.ex,b∉X.fs
 rR:X.s₀.heap.FunFrames X.base X.outer
 Yz:∀b∈X.fs,X.H₀ b=none
structure Inv(X:Cx)(pins:List (Addr×Obj))(σ:List (Option V))(H:Hp)(s:Shared):Prop where
 ok:X.Ok
 os:s.os=X.s₀.os
 bare:AllBare s.gens
 base:Un X.fs X.ex X.H₀ H X.s₀.heap s.heap
 loc:∃m,s.heap.Ns X.env.locals m∧∀(i:Nat)(x:Str)(v:V),X.N[i]?=some x→σ[i]?=some (some v)→uz X.env.scope x→∃u,RelV v u∧Look X.env s.heap m x u
 cell:∀x c,X.env.cells.lookup x=some c→∃v,s.heap.IsCell c v
 free:H X.env.locals=none
 lF:∀x c,X.env.cells.lookup x=some c→H c=none
 pin:∀p∈X.pn++pins,s.heap.get? p.1=some p.2∧H p.1=none∧p.1≠X.env.locals∧p.1∉X.fs∧∀v,p.2.data≠.cell v
 hok:rQ X.prog X.w H s.heap
 len:σ.length=X.N.length
section
variable{X:Cx}{pins:List (Addr×Obj)}{σ:List (Option V)}{H H':Hp}{s:Shared}{h':Heap}
A9 Cx.Ok.xx(ok:X.Ok){b:Addr}{o:Obj}(e:X.base.get? b=some o):b∉X.fs:=fun hb=>by
 have:=(ok.rR.mem hb).1
 rw[e]at this;cases this
A9 Inv.bs(I:Inv X pins σ H s):∀b o,X.base.get? b=some o→s.heap.get? b=some o∧H b=none:=fun b o e=>
 ⟨I.base.keep b o (I.ok.bs b o e).1 (I.ok.bs b o e).2 (I.ok.xx e) (I.ok.En b o e),I.base.free b o (I.ok.bs b o e).1 (I.ok.bs b o e).2 (I.ok.En b o e)⟩
A9 Inv.bk(I:Inv X pins σ H s):∀b o,X.base.get? b=some o→s.heap.get? b=some o:=fun b o e=>(I.bs b o e).1
A9 Inv.mod(I:Inv X pins σ H s):Mod X.K X.mg X.base:=I.ok.mod
A9 Inv.uA(I:Inv X pins σ H s):X.K.In s.heap:=I.ok.mod.il.keeps I.bk
A9 Inv.lt(I:Inv X pins σ H s):X.env.locals<s.heap.objs.size:=let ⟨_,hn,_⟩:=I.loc;hn.lt
A9 Inv.sz(I:Inv X pins σ H s):X.s₀.heap.objs.size≤s.heap.objs.size:=F0 I.ok.above (V5 I.lt)
A9 Inv.QH(I:Inv X pins σ H s){a:Addr}(h:s.heap.objs.size≤a):a∉X.fs:=fun hb=>by
 A7⟨_,o,ho,_⟩:=I.ok.rR.mem hb
 ~absurd (C3 (Heap.lt_size ho) (F0 I.sz h)) (G3 _)
A9 Inv.Oc(I:Inv X pins σ H s):∀x c,X.env.cells.lookup x=some c→c≠X.env.locals:=fun x c e z=>by
 A7⟨v,o,ho,hd⟩:=I.cell x c e
 A7⟨m,⟨o',es,ep,ho',hd',_⟩,_⟩:=I.loc
 rw[z,ho']at ho;cases ho;rw[hd']at hd;cases hd
A9 Inv.rR(I:Inv X pins σ H s):s.heap.FunFrames X.base X.outer:=by
 have all:∀(l:List Env),(∀b∈frs l,b∈X.fs)→X.s₀.heap.FunFrames X.base l→s.heap.FunFrames X.base l:=by
  intro l
  induction l with
  | nil=>intro _ _;trivial
  | cons env r ih=>
   intro hs hl
   A7⟨hk,⟨L,o,hf,hn,ho,hd⟩,hr⟩:=hl
   have hL:L∈X.fs:=hs L (by A8 frs;rw[K1,hf];~D1)
   A7⟨sl,e⟩:=I.base.slot L o ho (I.ok.Yz L hL) hL fun z=>I.ok.Hx L z hL
   ~⟨hk,⟨L,_,hf,hn,e,hd⟩,ih (fun b hb=>hs b (by A8 frs;rw[K1,hf];~C5 _ hb)) hr⟩
 ~all X.outer (fun _ hb=>hb) I.ok.rR
A9 Inv.stack(I:Inv X pins σ H s):s.heap.FunFrames X.base X.stack:=by
 rcases I.ok.LC with e | ⟨e,hf⟩
 ·rw[e];~I.rR
 ·rw[e]
  A7⟨m,hn,_⟩:=I.loc
  &.cons (by rw[I.ok.kind];decide) hf hn ?_ I.rR
  ~Heap.get?_none_of_le (F0 I.ok.Uc I.ok.above)
A9 Inv.sW(I:Inv X pins σ H s):∀b∈frs X.stack,b∈X.env.locals::X.fs:=fun b hb=>by
 rcases I.ok.LC with e | ⟨e,hf⟩
 ·rw[e]at hb;~C5 _ hb
 ·rw[e]at hb
  A8 frs at hb
  rw[K1,hf]at hb
  ~hb
A9 Inv.Eo(I:Inv X pins σ H s):∀b∈frs X.stack,H b=none:=fun b hb=>by
 rcases G2.mp (I.sW b hb)with e | hb
 ·rw[e];~I.free
 ·A7⟨_,o,ho,_⟩:=I.ok.rR.mem hb
  ~I.base.free b o ho (I.ok.Yz b hb) fun z=>I.ok.Hx b z hb
A9 Inv.step{g':Array GenState}{t':Nat}{d':Drawn}{ch:List Addr}(I:Inv X pins σ H s)
  (hch:∀b∈ch,(b∈X.ex∨X.s₀.heap.objs.size≤b)∧b≠X.env.locals∧(∀x c,X.env.cells.lookup x=some c→c≠b)∧∀p∈X.pn++pins,p.1≠b)
  (keep:∀b o,b≠X.env.locals→b∉X.fs→b∉ch→s.heap.get? b=some o→H b=none→h'.get? b=some o)
  (slot:∀b o,b≠X.env.locals→b∈X.fs→b∉ch→s.heap.get? b=some o→H b=none→∃sl,h'.get? b=some {o with slots:=sl}) (free:∀b o,b∉ch→s.heap.get? b=some o→H b=none→H' b=none)
  (there:∀b o,b∉ch→s.heap.get? b=some o→∃o',h'.get? b=some o')
  (tups:∀b xs,H b=some (.tup xs)→H' b=some (.tup xs)) (xF:∀b o u,H b=some (.tZ o u)→H' b=some (.tZ o u)) (yJ:∀b ps,H b=some (.tbl ps)→∃more,H' b=some (.tbl (ps++more)))
  (ns:∀m,s.heap.Ns X.env.locals m→h'.Ns X.env.locals m) (hok:rQ X.prog X.w H' h') (hg:AllBare g') :
  Inv X pins σ H' {s with heap:=h',gens:=g',drawn:=d',toks:=t'}:=by
 have vd:∀b o,X.s₀.heap.get? b=some o→b≠X.env.locals:=fun b o e=>F2 (C3 (Heap.lt_size e) I.ok.above)
 have dz:∀b o,X.s₀.heap.get? b=some o→b∉X.ex→b∉ch:=fun b o e hx hb=>by
  rcases(hch b hb).1 with z | z
  ·~hx z
  ·~absurd (C3 (Heap.lt_size e) z) (G3 _)
 have cellK:∀x c,X.env.cells.lookup x=some c→∀v,s.heap.IsCell c v→h'.IsCell c v:=fun x c e v ⟨o,ho,hd⟩=>by
  have ir:c∉ch:=fun z=>(hch c z).2.2.1 x c e rfl
  by_cases hc:c∈X.fs
  ·A7⟨sl,q⟩:=slot c o (I.Oc x c e) hc ir ho (I.lF x c e)
   ~⟨_,q,hd⟩
  ·~⟨o,keep c o (I.Oc x c e) hc ir ho (I.lF x c e),hd⟩
 &⟨I.ok,I.os,hg,⟨fun b o e n hb hx=>?_,fun b o e n hb hx=>?_,fun b o e n hx=>?_,fun b o e hx=>?_,fun b xs e=>tups b xs (I.base.tups b xs e),fun b o xs e=>xF b o xs (I.base.xF b o xs e),fun b ps e=>?_⟩,?_,fun x c e=>?_,?_,fun x c e=>?_,fun p hp=>?_,hok,I.len⟩
 ·~keep b o (vd b o e) hb (dz b o e hx) (I.base.keep b o e n hb hx) (I.base.free b o e n hx)
 ·A7⟨sl,e1⟩:=I.base.slot b o e n hb hx
  A7⟨sl',e2⟩:=slot b _ (vd b o e) hb (dz b o e hx) e1 (I.base.free b o e n hx)
  ~⟨sl',e2⟩
 ·A7⟨o',e1⟩:=I.base.there b o e hx
  ~free b o' (dz b o e hx) e1 (I.base.free b o e n hx)
 ·A7⟨o',e1⟩:=I.base.there b o e hx
  ~there b o' (dz b o e hx) e1
 ·A7⟨m1,e1⟩:=I.base.yJ b ps e
  A7⟨m2,e2⟩:=yJ b _ e1
  ~⟨m1++m2,by rw[e2,Array.append_assoc]⟩
 ·A7⟨m,hn,hl⟩:=I.loc
  &⟨m,ns m hn,fun i x v e1 e2 e3=>?_⟩
  A7⟨u,r,l⟩:=hl i x v e1 e2 e3
  &⟨u,r,?_⟩
  rcases l with l | ⟨k,c,e,z⟩
  ·~.inl l
  ·~.inr ⟨k,c,e,cellK x c e _ z⟩
 ·A7⟨v,z⟩:=I.cell x c e
  ~⟨v,cellK x c e v z⟩
 ·A7⟨m,⟨o,_,_,ho,_⟩,_⟩:=I.loc
  ~free _ o (fun z=>(hch _ z).2.1 rfl) ho I.free
 ·A7⟨v,o,ho,hd⟩:=I.cell x c e
  ~free c o (fun z=>(hch c z).2.2.1 x c e rfl) ho (I.lF x c e)
 ·A7⟨e,n,ne,nf,d⟩:=I.pin p hp
  have ir:p.1∉ch:=fun z=>(hch p.1 z).2.2.2 p hp rfl
  ~⟨keep p.1 p.2 ne nf ir e n,free p.1 p.2 ir e n,ne,nf,d⟩
A9 Inv.un{t':Nat}(I:Inv X pins σ H s)(u:Un X.fs [] H H' s.heap h')(hok:rQ X.prog X.w H' h'):Inv X pins σ H' {s with heap:=h',toks:=t'}:=by
 A7⟨m,⟨o,es,ep,ho,r⟩,_⟩:=id I.loc
 A7⟨sl,hL⟩:=u.any ho I.free (by simp)
 ~I.step (g':=s.gens) (d':=s.drawn) (ch:=[]) (fun _ z=>nomatch z) (fun b o _ hb _ e n=>u.keep b o e n hb (by simp)) (fun b o _ hb _ e n=>u.slot b o e n hb (by simp)) (fun b o _ e n=>u.free b o e n (by simp)) (fun b o _ e=>u.there b o e (by simp)) u.tups u.xF u.yJ (fun m' hm=>by
  A7⟨o',es',ep',ho',r'⟩:=hm
  rw[ho]at ho';cases ho'
  ~⟨_,es',ep',hL,r'⟩) hok I.bare
A9 Inv.call{g':Array GenState}{t':Nat}{d':Drawn}{ch:List Addr}(I:Inv X pins σ H s)(u:Un (frs X.stack) ch H H' s.heap h')(hok:rQ X.prog X.w H' h')(hg:AllBare g')
  (hch:∀b∈ch,(b∈X.ex∨X.s₀.heap.objs.size≤b)∧b≠X.env.locals∧(∀x c,X.env.cells.lookup x=some c→c≠b)∧∀p∈X.pn++pins,p.1≠b) :
  Inv X pins σ H' {s with heap:=h',gens:=g',drawn:=d',toks:=t'}:=by
 A7⟨m,⟨o,es,ep,ho,r⟩,_⟩:=id I.loc
 A7⟨sl,hL⟩:=u.any ho I.free fun z=>(hch _ z).2.1 rfl
 ~I.step (ch:=ch) hch (fun b o hL hb hc e n=>u.keep b o e n (fun z=>(G2.mp (I.sW b z)).elim hL hb) hc) (fun b o _ _ hc e n=>u.any e n hc) (fun b o hc e n=>u.free b o e n hc) (fun b o hc e=>u.there b o e hc) u.tups u.xF u.yJ (fun m' hm=>by
  A7⟨o',es',ep',ho',r'⟩:=hm
  rw[ho]at ho';cases ho'
  ~⟨_,es',ep',hL,r'⟩) hok hg
A9 Inv.turned{t':Nat}{it:Addr}(I:Inv X pins σ H s)(k:∀b o,b≠it→s.heap.get? b=some o→h'.get? b=some o)(hn:H it=none)(hL:it≠X.env.locals)
  (h1:it∈X.ex∨X.s₀.heap.objs.size≤it) (h2:∀x c,X.env.cells.lookup x=some c→c≠it) (h3:∀p∈X.pn++pins,p.1≠it):Inv X pins σ H {s with heap:=h',toks:=t'}:=by
 have nit:∀b u,H b=some u→b≠it:=fun b u e z=>by rw[z,hn]at e;cases e
 &I.step (g':=s.gens) (d':=s.drawn) (ch:=[it]) (fun b hb=>?_) (fun b o _ _ hc e _=>k b o (fun z=>hc (by simp[z])) e) (fun b o _ _ hc e _=>⟨o.slots,k b o (fun z=>hc (by simp[z])) e⟩) (fun _ _ _ _ n=>n)
  (fun b o hc e=>⟨o,k b o (fun z=>hc (by simp[z])) e⟩) (fun _ _ e=>e) (fun _ _ _ e=>e) (fun b ps e=>⟨#[],by rw[e];simp⟩) (fun m hm=>?_) (fun b u e=>?_) I.bare
 ·have e:b=it:=by simpa using hb
  subst e
  ~⟨h1,hL,h2,h3⟩
 ·A7⟨o,es,ep,ho,r⟩:=hm
  ~⟨o,es,ep,k _ o (Ne.symm hL) ho,r⟩
 ·&(I.hok b u e).stay (fun c v hc q=>k c v ?_ q) (fun _ q=>q) fun _ _ q=>q
  rcases hc with z | z
  ·rw[z];~nit b u e
  ·~nit c _ z
A9 Inv.tok(I:Inv X pins σ H s)(t:Nat):Inv X pins σ H {s with toks:=t}:=I.un (h':=s.heap) (t':=t) Un.refl I.hok
A9 Inv.kept{t':Nat}(I:Inv X pins σ H s)(k:∀b u,s.heap.get? b=some u→h'.get? b=some u):Inv X pins σ H {s with heap:=h',toks:=t'}:=I.un (Un.kept k) (I.hok.kept k)
A9 Inv.laid{a:Addr}{o:HO}{t':Nat}(I:Inv X pins σ H s)(k:∀b u,s.heap.get? b=some u→h'.get? b=some u)(hp:s.heap.objs.size≤a)(new:gY X.prog X.w (upd H a o) h' a o) :
  Inv X pins σ (upd H a o) {s with heap:=h',toks:=t'}:=I.un (Un.laid k hp (I.hok.fresh hp)) (I.hok.laid k hp new)
A9 Inv.write{x e:Addr}{o:HO}{t':Nat}(I:Inv X pins σ H s)(mu:ux (H x))(he:e=x∨H e=some (.own x))(k:∀b u,b≠e→s.heap.get? b=some u→h'.get? b=some u)(heo:∃u,h'.get? e=some u)
  (new:gY X.prog X.w (upd H x o) h' x o):Inv X pins σ (upd H x o) {s with heap:=h',toks:=t'}:=I.un (Un.write mu he k heo) (I.hok.write mu he k heo new)
A9 Inv.weak{σ':List (Option V)}(I:Inv X pins σ H s)(hl:σ'.length=σ.length)(w:∀(i:Nat) v,σ'[i]?=some (some v)→σ[i]?=some (some v)):Inv X pins σ' H s:=
 ⟨I.ok,I.os,I.bare,I.base,let ⟨m,hn,hl'⟩:=I.loc;⟨m,hn,fun i x v e1 e2 e3=>hl' i x v e1 (w i v e2) e3⟩,I.cell,I.free,I.lF,I.pin,I.hok,hl.trans I.len⟩
A9 Inv.xO{yK:List (Addr×Obj)}(I:Inv X pins σ H s)(h:∀p∈yK,s.heap.get? p.1=some p.2∧H p.1=none∧p.1≠X.env.locals∧p.1∉X.fs∧∀v,p.2.data≠.cell v):Inv X yK σ H s:=
 ⟨I.ok,I.os,I.bare,I.base,I.loc,I.cell,I.free,I.lF,fun p hp=>(L8.mp hp).elim (fun z=>I.pin p (I0 _ z)) (h p),I.hok,I.len⟩
A9 yL{N:List Str}(hN:N.Nodup){i j:Nat}{x:Str}(a:N[i]?=some x)(b:N[j]?=some x):i=j:=by
 A7⟨h1,e1⟩:=C4.mp a
 A7⟨h2,e2⟩:=C4.mp b
 ~(List.getElem_inj hN).mp (e1.trans e2.symm)
A9 Cd{M:Model}{A:Around}{E:Value→Shared→Prop}{i:Nat}{x:Str}{v:V}{u:Value}{Q:Unit→Shared→Prop}(I:Inv X pins σ H s)(hN:X.N.Nodup)(hi:X.N[i]?=some x)(hx:Loc X.env.scope x)(r:RelV v u)
  (h:∀s',Inv X pins (σ.set i (some v)) H s'→(∃a,Heap.SameBut a s.heap s'.heap∧(a=X.env.locals∨X.env.cells.lookup x=some a))→Q () s') (hf:X.fn x=true∨X.env.scope.names.lookup x=some .local:=by first | ~.inl rfl | ~.inr rfl | assumption):wpAny M A (storeName X.env x u) Q E s:=by
 A7⟨m,hn,hl⟩:=id I.loc
 have hcls:(X.env.scope.kind==.class||(X.env.scope.kind==.module&&X.env.locals != X.env.globals))=false:=by rw[I.ok.kind];rfl
 have vf:i<σ.length:=by rw[I.len];~(C4.mp hi).1
 have Oc:=I.Oc
 have tracked:∀{a:Addr} {h':Heap},(∃o,s.heap.get? a=some o∧H a=none)→Heap.SameBut a s.heap h'→rQ X.prog X.w H h':=fun{a h'} ha hs b ob e=>by
  A7⟨_,_,hfree⟩:=ha
  &(I.hok b ob e).stay (fun c w' hc q=>(hs.2 c ?_).trans q) (fun _ q=>q) fun _ _ q=>q
  rintro rfl
  rcases hc with rfl | hc
  ·rw[hfree]at e;cases e
  ·rw[hfree]at hc;cases hc
 rcases hx with hk | hk
 ·&wpAny_storeName_local hk hn (fun h' hn' hs=>?_) hcls
  A7⟨oL,_,_,hoL,_⟩:=id hn
  &h _ ⟨I.ok,I.os,I.bare,⟨fun b o e n hb hx=>?_,fun b o e n hb hx=>?_,I.base.free,fun b o e hx=>?_,I.base.tups,I.base.xF,I.base.yJ⟩,⟨_,hn',fun j y v' e1 e2 e3=>?_⟩,fun y c e=>?_,I.free,I.lF,fun p hp=>?_,tracked ⟨oL,hoL,I.free⟩ hs,by simpa using I.len⟩ ⟨_,hs,.inl rfl⟩
  ·~(hs.2 b (F2 (C3 (Heap.lt_size e) I.ok.above))).trans (I.base.keep b o e n hb hx)
  ·A7⟨sl,e1⟩:=I.base.slot b o e n hb hx
   ~⟨sl,(hs.2 b (F2 (C3 (Heap.lt_size e) I.ok.above))).trans e1⟩
  ·A7⟨o',e1⟩:=I.base.there b o e hx
   ~⟨o',(hs.2 b (F2 (C3 (Heap.lt_size e) I.ok.above))).trans e1⟩
  ·by_cases hj:j=i
   ·subst hj
    rw[hi]at e1;cases e1
    rw[L5 vf]at e2
    cases e2
    ~⟨u,r,.inl ⟨hk,by simp⟩⟩
   ·rw[K5 (Ne.symm hj)]at e2
    A7⟨u',r',q⟩:=hl j y v' e1 e2 e3
    &⟨u',r',?_⟩
    rcases q with ⟨k,e⟩ | ⟨k,c,e,z⟩
    ·&.inl ⟨k,?_⟩
     have:y≠x:=fun e=>hj (yL hN e1 (e▸hi))
     simp[this,e]
    ·~.inr ⟨k,c,e,z.sameBut hs (Oc y c e)⟩
  ·A7⟨w',z⟩:=I.cell y c e
   ~⟨w',z.sameBut hs (Oc y c e)⟩
  ·A7⟨e,n,ne,nf,d⟩:=I.pin p hp
   ~⟨(hs.2 p.1 ne).trans e,n,ne,nf,d⟩
 ·have hfn:X.fn x=true:=by
   rcases hf with z | z
   ·~z
   ·rw[z]at hk;cases hk
  A7⟨c,hc⟩:=I.ok.has x (.inl hk)
  A7⟨w',z⟩:=I.cell x c hc
  &wpAny_storeName_cell I.ok.kind hk hc z (fun h' hc' hs=>?_)
  A7⟨oc,hoc,yc⟩:=id z
  &h {s with heap:=h'} ⟨I.ok,I.os,I.bare,⟨fun b o e n hb hx=>?_,fun b o e n hb hx=>?_,I.base.free,fun b o e hx=>?_,I.base.tups,I.base.xF,I.base.yJ⟩,⟨m,hn.sameBut hs (Ne.symm (Oc x c hc)),fun j y v' e1 e2 e3=>?_⟩,fun y c' e=>?_,I.free,I.lF,fun p hp=>?_,tracked ⟨oc,hoc,I.lF x c hc⟩ hs,by simpa using I.len⟩ ⟨c,hs,.inr hc⟩
  ·~(hs.2 b (F2 (C3 (Heap.lt_size e) (I.ok.cab x c hfn hc)))).trans (I.base.keep b o e n hb hx)
  ·A7⟨sl,e1⟩:=I.base.slot b o e n hb hx
   ~⟨sl,(hs.2 b (F2 (C3 (Heap.lt_size e) (I.ok.cab x c hfn hc)))).trans e1⟩
  ·A7⟨o',e1⟩:=I.base.there b o e hx
   ~⟨o',(hs.2 b (F2 (C3 (Heap.lt_size e) (I.ok.cab x c hfn hc)))).trans e1⟩
  ·by_cases hj:j=i
   ·subst hj
    rw[hi]at e1;cases e1
    rw[L5 vf]at e2
    cases e2
    ~⟨u,r,.inr ⟨.inl hk,c,hc,hc'⟩⟩
   ·rw[K5 (Ne.symm hj)]at e2
    A7⟨u',r',q⟩:=hl j y v' e1 e2 e3
    &⟨u',r',?_⟩
    rcases q with q | ⟨k,c',e,z'⟩
    ·~.inl q
    ·&.inr ⟨k,c',e,z'.sameBut hs ?_⟩
     rintro rfl
     ~hj (yL hN e1 (I.ok.inj _ _ _ e hc▸hi))
  ·by_cases hcc:c'=c
   ·subst hcc;~⟨_,hc'⟩
   ·A7⟨w2,z2⟩:=I.cell y c' e
    ~⟨w2,z2.sameBut hs hcc⟩
  ·A7⟨e,n,ne,nf,d⟩:=I.pin p hp
   &⟨(hs.2 p.1 ?_).trans e,n,ne,nf,d⟩
   intro q
   rw[q,hoc]at e
   have q':oc=p.2:=G1 e
   ~d w' (by rw[←q'];~yc)
A9 uB{M:Model}{A:Around}{E:Value→Shared→Prop}{i:Nat}{x:Str}{v:V}{u:Value}{Q:Unit→Shared→Prop}(I:Inv X pins σ H s)(hN:X.N.Nodup)(hi:X.N[i]?=some x)(hx:Loc X.env.scope x)(r:RelV v u)
  (h:∀s',Inv X pins (σ.set i (some v)) H s'→Q () s') (hf:X.fn x=true∨X.env.scope.names.lookup x=some .local:=by first | ~.inl rfl | ~.inr rfl | assumption):wpAny M A (storeName X.env x u) Q E s:=
 Cd I hN hi hx r (fun s' I' _=>h s' I') hf
A9 Inv.call'{s':Shared}{ch:List Addr}(I:Inv X pins σ H s)(ho:s'.os=s.os)(u:Un (frs X.stack) ch H H' s.heap s'.heap)(hok:rQ X.prog X.w H' s'.heap)(hg:AllBare s'.gens)
  (hch:∀b∈ch,(b∈X.ex∨X.s₀.heap.objs.size≤b)∧b≠X.env.locals∧(∀x c,X.env.cells.lookup x=some c→c≠b)∧∀p∈X.pn++pins,p.1≠b):Inv X pins σ H' s':=by
 A7⟨h',g',d',t',o'⟩:=s'
 have e:o'=s.os:=ho
 subst e
 ~I.call (g':=g') (t':=t') (d':=d') u hok hg hch
end
abbrev XK:=Value→Option Addr→Hp→Prop
abbrev St:=List (Option V)
abbrev VK:=V→Hp→Prop
abbrev TE:=St→Hp→VK→Prop
abbrev TT:=St→Hp→(Bool→Hp→Prop)→Prop
abbrev TA:=St→Hp→(List V→Hp→Prop)→Prop
structure Ends where
 nx:St→Hp→Prop
 rt:VK
 bk:St→Hp→Prop:=fun _ _=>False
 ct:St→Hp→Prop:=fun _ _=>False
abbrev TS:=Ends→St→Hp→Prop
def EP(X:Cx)(pins:List (Addr×Obj))(σ:St)(Q:VK)(u:Value)(s':Shared):Prop:=∃v H',Inv X pins σ H' s'∧RelV v u∧Q v H'
def TP(X:Cx)(pins:List (Addr×Obj))(σ:St)(Q:Bool→Hp→Prop)(b:Bool)(s':Shared):Prop:=∃H',Inv X pins σ H' s'∧Q b H'
def AP(X:Cx)(pins:List (Addr×Obj))(σ:St)(Q:List V→Hp→Prop)(us:List Value)(s':Shared):Prop:=∃vs H',Inv X pins σ H' s'∧Vals vs us∧Q vs H'
def SP(X:Cx)(pins:List (Addr×Obj))(D:Ends)(f:Flow)(s':Shared):Prop:=
 match f with
 | .next=>∃σ' H',Inv X pins σ' H' s'∧D.nx σ' H'
 | .brk=>∃σ' H',Inv X pins σ' H' s'∧D.bk σ' H'
 | .cont=>∃σ' H',Inv X pins σ' H' s'∧D.ct σ' H'
 | .ret u=>∃v σ' H',Inv X pins σ' H' s'∧RelV v u∧D.rt v H'
def PE(X:Cx)(e:Expr)(t:TE):Prop:=
 ∀(pins:List (Addr×Obj))(s:Shared)(σ:St)(H:Hp)(Q:VK),Inv X pins σ H s→t σ H Q→wpAny (model X.prog X.w) X.A (eval e X.env) (EP X pins σ Q) X.xe s
def PT(X:Cx)(e:Expr)(t:TT):Prop:=
 ∀(pins:List (Addr×Obj))(s:Shared)(σ:St)(H:Hp)(Q:Bool→Hp→Prop),Inv X pins σ H s→t σ H Q→wpAny (model X.prog X.w) X.A (isTrue e X.env (eval e X.env)) (TP X pins σ Q) X.xe s
def PW(X:Cx)(e:Expr)(t:TT):Prop:=
 ∀(whole:Sem Value)(pins:List (Addr×Obj))(s:Shared)(σ:St)(H:Hp)(Q:Bool→Hp→Prop),Inv X pins σ H s→t σ H Q→wpAny (model X.prog X.w) X.A (isTrue e X.env whole) (TP X pins σ Q) X.xe s
A9 PW.pt{X:Cx}{e:Expr}{t:TT}(h:PW X e t):PT X e t:=h _
def PA(X:Cx)(es:List Expr)(t:TA):Prop:=
 ∀(pos:Pos)(pins:List (Addr×Obj))(s:Shared)(σ:St)(H:Hp)(Q:List V→Hp→Prop),Inv X pins σ H s→t σ H Q→wpAny (model X.prog X.w) X.A (spliced (backTo pos (starEach es X.env))) (AP X pins σ Q) X.xe s
def PS(X:Cx)(st:Stmt)(t:TS):Prop:=
 ∀(pins:List (Addr×Obj))(s:Shared)(σ:St)(H:Hp)(D:Ends),Inv X pins σ H s→t D σ H→wpAny (model X.prog X.w) X.A (exec st X.env) (SP X pins D) X.xe s
def Ce(X:Cx)(st:List Stmt)(t:TS):Prop:=
 ∀(pins:List (Addr×Obj))(s:Shared)(σ:St)(H:Hp)(D:Ends),Inv X pins σ H s→t D σ H→wpAny (model X.prog X.w) X.A (execs st X.env) (SP X pins D) X.xe s
A9 eY{α:Type}{t:Sem α}{Q Q':α→Shared→Prop}{M:Model}{A:Around}{E:Value→Shared→Prop}{s:Shared}(h:wpAny M A t Q E s)(hQ:∀a s,Q a s→Q' a s):wpAny M A t Q' E s:=wpAny_mono h hQ fun _ _ x=>x
end L2
namespace L2
open PySem PySem.Spec PyProof.Rows
section
variable{X:Cx}
def jF(i:Nat):TE:=fun σ H Q=>∃v,σ[i]?=some (some v)∧Q v H
def tC(v:V):TE:=fun _ H Q=>Q v H
A9 QJ{i:Nat}{x:Str}{pos:Pos}(hN:X.N[i]?=some x)(hv:uz X.env.scope x)(hd:(x==("__debug__" : Str))=false:=by decide) (hcd:(x==("__classdict__" : Str))=false:=by decide):PE X (.Name x pos) (jF i):=by
  intro pins s σ H Q I h
  A7⟨v,e,h⟩:=h
  A7⟨m,hn,hl⟩:=I.loc
  A7⟨u,r,l⟩:=hl i x v hN e hv
  have fin:EP X pins σ Q u s:=⟨v,H,I,r,h⟩
  rcases l with ⟨hk,hm⟩ | ⟨hk,c,hc,hcell⟩
  · ~wpAny_Name (wpAny_loadName_local I.ok.kind hk hn hm fin) hd
  · rcases hk with hk | hk
    · ~wpAny_Name (wpAny_loadName_cell I.ok.kind hk hc hcell fin) hd
    · ~wpAny_Name (wpAny_loadName_free I.ok.kind hk hc hcell fin hcd) hd
A9 QK{i j pos}:PE X (.Constant (.int i) j pos) (tC (.int i)):=fun _ _ _ H _ I h=>wpAny_Constant_int ⟨.int i,H,I.tok _,⟨_,rfl⟩,h⟩
A9 iu{b j pos}:PE X (.Constant (.bool b) j pos) (tC (.bl b)):=fun _ _ _ H _ I h=>Constant_bool ⟨.bl b,H,I,rfl,h⟩
A9 QL{j pos}:PE X (.Constant .none j pos) (tC .non):=fun _ _ _ H _ I h=>Constant_none ⟨.non,H,I,rfl,h⟩
A9 QM{x j pos}:PE X (.Constant (.str x) j pos) (tC (.str x)):=fun _ _ _ H _ I h=>Calls.Constant_str ⟨.str x,H,I.tok _,⟨_,rfl⟩,h⟩
def Gl(X:Cx)(x:Str):Prop:=X.env.kindOf x=some .globalImplicit
A9 rA{E:Value→Shared→Prop}{pins:List (Addr×Obj)}{s:Shared}{σ:St}{H:Hp}{x:Str}{u:Value}{pos:Pos}{Q:Value→Shared→Prop}(I:Inv X pins σ H s)(hg:Gl X x)(hm:X.mg x=some u)(h:Q u s)
  (hd:(x==("__debug__" : Str))=false:=by decide):wpAny (model X.prog X.w) X.A (eval (.Name x pos) X.env) Q E s:=
 Calls.Name_function_global I.ok.kind hg (Calls.loadGlobal_global (by rw[I.ok.glob];~I.mod.glob.keeps I.bk) hm h) hd
A9 Ep{E:Value→Shared→Prop}{pins:List (Addr×Obj)}{s:Shared}{σ:St}{H:Hp}{x:Str}{u:Value}{pos:Pos}{Q:Value→Shared→Prop}(I:Inv X pins σ H s)(hg:Gl X x)(hm:X.mg x=none)(hv:bootBuiltins x=some u)(h:Q u s)
  (hn:x ≠ "__name__" := by decide) (hd:(x==("__debug__" : Str))=false:=by decide):wpAny (model X.prog X.w) X.A (eval (.Name x pos) X.env) Q E s:=by
 A7⟨mb,h1,h2⟩:=I.mod.blt
 ~Calls.Name_function_global I.ok.kind hg (Calls.loadGlobal_builtin (by rw[I.ok.glob];~I.mod.glob.keeps I.bk) hm (by rw[I.ok.blt];~h1.keeps I.bk) ((h2 x hn).trans hv) h) hd
A9 gP{x:Str}{v:V}{u:Value}{pos:Pos}(hg:Gl X x)(hm:X.mg x=some u)(r:RelV v u)(hd:(x==("__debug__" : Str))=false:=by decide):PE X (.Name x pos) (tC v):=
 fun _ _ _ H _ I h=>rA I hg hm ⟨v,H,I,r,h⟩ hd
A9 gQ{x:Str}{v:V}{u:Value}{pos:Pos}(hg:Gl X x)(hm:X.mg x=none)(hv:bootBuiltins x=some u)(r:RelV v u)(hn:x ≠ "__name__" := by decide) (hd:(x==("__debug__" : Str))=false:=by decide):PE X (.Name x pos) (tC v):=
 fun _ _ _ H _ I h=>Ep I hg hm hv ⟨v,H,I,r,h⟩ hn hd
variable{a b:Expr}{ta tb:TE}{pos:Pos}
def tB(t:TE):TT:=fun σ H Q=>t σ H fun x H1=>∃c,x=.bl c∧Q c H1
A9 QQ{e:Expr}{t:TE}(h:PE X e t)(he:∀whole,isTrue e X.env whole=(do let v ←whole;standAt e.pos;holding [v] (truthy v)):=by intro _;rfl):PT X e (tB t):=by
 intro pins s σ H Q I hw
 &isTrue_plain (eY (h pins s σ H _ I hw) fun v s1 ⟨x,H1,I1,r1,q1⟩=>?_) (he _)
 A7⟨d,rfl,q⟩:=q1
 cases r1
 ~wpAny_truthy_bool ⟨H1,I1,q⟩
variable{tA vg:TT}{rest:List Expr}
def QR(t u:TT):TT:=fun σ H Q=>t σ H fun c H1=>if c=true then u σ H1 Q else Q false H1
def yd(t u:TT):TT:=fun σ H Q=>t σ H fun c H1=>if c=true then Q true H1 else u σ H1 Q
def QS(t:TT):TT:=fun σ H Q=>t σ H fun c H1=>Q (!c) H1
A9 Zh(ha:PT X a tA):PW X (.BoolOp .And [a] pos) tA:=by
 intro wh pins s σ H Q I h
 &isTrue_and (eY (ha pins s σ H Q I h) fun c s1 e=>?_)
 cases c with
 | true=>~isTrue_and_nil e
 | false=>~e
A9 QT(ha:PT X a tA):PW X (.BoolOp .Or [a] pos) tA:=by
 intro wh pins s σ H Q I h
 &isTrue_or (eY (ha pins s σ H Q I h) fun c s1 e=>?_)
 cases c with
 | false=>~isTrue_or_nil e
 | true=>~e
A9 QV(ha:PT X a tA)(hb:PW X (.BoolOp .And (b::rest) pos) vg):PW X (.BoolOp .And (a::b::rest) pos) (QR tA vg):=by
 intro wh pins s σ H Q I h
 &isTrue_and (eY (ha pins s σ H _ I h) fun c s1 ⟨H1,I1,q1⟩=>?_)
 cases c with
 | true=>~hb wh pins s1 σ H1 Q I1 q1
 | false=>~⟨H1,I1,q1⟩
A9 iw(ha:PT X a tA)(hb:PW X (.BoolOp .Or (b::rest) pos) vg):PW X (.BoolOp .Or (a::b::rest) pos) (yd tA vg):=by
 intro wh pins s σ H Q I h
 &isTrue_or (eY (ha pins s σ H _ I h) fun c s1 ⟨H1,I1,q1⟩=>?_)
 cases c with
 | true=>~⟨H1,I1,q1⟩
 | false=>~hb wh pins s1 σ H1 Q I1 q1
A9 QW(ha:PT X a tA):PT X (.UnaryOp .Not a pos) (QS tA):=by
 intro pins s σ H Q I h
 ~isTrue_not (ha pins s σ H (fun c H1=>Q (!c) H1) I h)
def LK(ta tb:TE):TE:=fun σ H Q=>ta σ H fun x H1=>∃c,x=.bl c∧if c=true then tb σ H1 Q else Q (.bl false) H1
def iy(ta tb:TE):TE:=fun σ H Q=>ta σ H fun x H1=>∃c,x=.bl c∧if c=true then Q (.bl true) H1 else tb σ H1 Q
def LQ(ta:TE):TE:=fun σ H Q=>ta σ H fun x H1=>∃c,x=.bl c∧Q (.bl (!c)) H1
A9 QX{op}{t:TE}(h:PE X a t):PE X (.BoolOp op [a] pos) t:=fun pins s σ H Q I hw=>BoolOp_one (h pins s σ H Q I hw)
A9 QZ(ha:PE X a ta)(hb:PE X (.BoolOp .And (b::rest) pos) tb):PE X (.BoolOp .And (a::b::rest) pos) (LK ta tb):=by
 intro pins s σ H Q I h
 &BoolOp_and (eY (ha pins s σ H _ I h) fun v s1 ⟨x,H1,I1,r1,q1⟩=>?_)
 A7⟨c,rfl,q1⟩:=q1
 cases r1
 &wpAny_truthy_bool ?_
 cases c with
 | true=>~hb pins s1 σ H1 Q I1 q1
 | false=>~⟨.bl false,H1,I1,rfl,q1⟩
A9 iz(ha:PE X a ta)(hb:PE X (.BoolOp .Or (b::rest) pos) tb):PE X (.BoolOp .Or (a::b::rest) pos) (iy ta tb):=by
 intro pins s σ H Q I h
 &BoolOp_or (eY (ha pins s σ H _ I h) fun v s1 ⟨x,H1,I1,r1,q1⟩=>?_)
 A7⟨c,rfl,q1⟩:=q1
 cases r1
 &wpAny_truthy_bool ?_
 cases c with
 | false=>~hb pins s1 σ H1 Q I1 q1
 | true=>~⟨.bl true,H1,I1,rfl,q1⟩
A9 RB(ha:PE X a ta):PE X (.UnaryOp .Not a pos) (LQ ta):=by
 intro pins s σ H Q I h
 &UnaryOp_ (eY (ha pins s σ H _ I h) fun v s1 ⟨x,H1,I1,r1,q1⟩=>?_)
 A7⟨c,rfl,q1⟩:=q1
 cases r1
 ~not_of (wpAny_truthy_bool ⟨.bl (!c),H1,I1,rfl,q1⟩)
def tIf(t:TT)(ta tb:TE):TE:=fun σ H Q=>t σ H fun c H1=>if c=true then ta σ H1 Q else tb σ H1 Q
A9 Ul{c:Expr}(hc:PT X c tA)(ha:PE X a ta)(hb:PE X b tb):PE X (.IfExp c a b pos) (tIf tA ta tb):=by
 intro pins s σ H Q I h
 &wpAny_IfExp (eY (hc pins s σ H _ I h) fun d s1 ⟨H1,I1,q1⟩=>?_)
 cases d with
 | true=>~ha pins s1 σ H1 Q I1 q1
 | false=>~hb pins s1 σ H1 Q I1 q1
end
end L2
namespace L2
open PySem PySem.Spec PyProof.Rows
def mC(K:aA)(H:Hp)(a:Addr)(xs:List V):Prop:=
 Rd H a (.lst xs) ∨
  ∃(o:Obj)(its:Array Value)(n:Nat),K.lookup a=some o∧o.cls=.type "list" ∧ o.dict=none∧o.data=.seq its n∧its.size≤sizeLine∧Vals xs its.toList
def pI(K:aA)(H:Hp)(a:Addr)(xs:List V):Prop:=
 Rd H a (.tup xs) ∨
  ∃(o:Obj)(its:Array Value)(n:Nat),K.lookup a=some o∧o.cls=.type "tuple" ∧ o.data=.seq its n∧its.size≤sizeLine∧Vals xs its.toList
def ye:Value→Option V
 | .none=>some .non
 | .bool b=>some (.bl b)
 | .int i _=>some (.int i)
 | .str x _=>some (.str x)
 | .bytes b _=>some (.byt b)
 | .float b _=>some (.flt b)
 | .ref a=>some (.ref a)
 | .type n=>some (.ty n)
 | _=>none
A9 RelV.abs{x:V}{u:Value}(r:RelV x u):ye u=some x:=by
 cases x with
 | non=>cases r;rfl
 | bl _=>cases r;rfl
 | int _=>A7⟨t,rfl⟩:=r;rfl
 | str _=>A7⟨t,rfl⟩:=r;rfl
 | byt _=>A7⟨t,rfl⟩:=r;rfl
 | flt _=>A7⟨t,rfl⟩:=r;rfl
 | ref _=>cases r;rfl
 | ty _=>cases r;rfl
A9 RelV.inj{x y:V}{u:Value}(r:RelV x u)(q:RelV y u):x=y:=G1 (r.abs.symm.trans q.abs)
A9 Vals.inj:∀{xs ys:List V} {us:List Value},Vals xs us→Vals ys us→xs=ys
 | _,_,_,.nil,.nil=>rfl
 | _,_,_,.cons r t,.cons r' t'=>by rw[r.inj r',Vals.inj t t']
section
variable{X:Cx}{pins:List (Addr×Obj)}{σ:St}{H:Hp}{s:Shared}{a:Addr}{xs ys:List V}
A9 mC.of{K:aA}(h:H a=some (.lst xs)):mC K H a xs:=.inl (.inl h)
A9 pI.of{K:aA}(h:H a=some (.tup xs)):pI K H a xs:=.inl (.inl h)
A9 Inv.list(I:Inv X pins σ H s)(h:mC X.K H a xs):∃its:List Value,Vals xs its∧PlainL s.heap a its.toArray∧xs.length≤sizeLine:=by
 rcases h with h | ⟨o,its,n,hk,hc,hd,hs,hz,r⟩
 ·A7⟨z,its,n,r,e⟩:=h.ok I.hok
  ~⟨its,r,⟨_,n,e,rfl,rfl,rfl⟩,z⟩
 ·&⟨its.toList,r,⟨o,n,I.uA a o hk,hc,hd,by simpa using hs⟩,?_⟩
  have e:=r.length
  simp only[K8]at e
  omega
A9 Inv.tuple(I:Inv X pins σ H s)(h:pI X.K H a xs):∃its:List Value,Vals xs its∧IsTup s.heap a its.toArray∧xs.length≤sizeLine:=by
 rcases h with h | ⟨o,its,n,hk,hc,hs,hz,r⟩
 ·A7⟨z,its,r,p⟩:=h.ok I.hok
  ~⟨its,r,p,z⟩
 ·&⟨its.toList,r,⟨o,I.uA a o hk,hc,n,by simpa using hs⟩,?_⟩
  have e:=r.length
  simp only[K8]at e
  omega
A9 Inv.Hy(I:Inv X pins σ H s)(h:mC X.K H a xs)(h':mC X.K H a ys):xs=ys:=by
 A7⟨its,r,⟨o,n,e,_,_,d⟩,_⟩:=I.list h
 A7⟨its',r',⟨o',n',e',_,_,d'⟩,_⟩:=I.list h'
 rw[e]at e';cases e'
 rw[d]at d'
 injection d' with d1 _
 have:its=its':=by simpa using congrArg Z5 d1
 subst this
 ~r.inj r'
A9 Inv.Cg(I:Inv X pins σ H s)(h:pI X.K H a xs)(h':pI X.K H a ys):xs=ys:=by
 A7⟨its,r,⟨o,e,_,n,d⟩,_⟩:=I.tuple h
 A7⟨its',r',⟨o',e',_,n',d'⟩,_⟩:=I.tuple h'
 rw[e]at e';cases e'
 rw[d]at d'
 injection d' with d1 _
 have:its=its':=by simpa using congrArg Z5 d1
 subst this
 ~r.inj r'
end
abbrev Cx.wish(X:Cx)(E:Value→Shared→Prop):Cx:={X with xe:=E}
abbrev Cx.RC(X:Cx):Cx:=X.wish fun _ _=>False
A9 Cx.Ok.wish{X:Cx}(ok:X.Ok)(E:Value→Shared→Prop):(X.wish E).Ok:=
 ⟨ok.mod,ok.kind,ok.glob,ok.blt,ok.above,ok.inj,ok.has,ok.cab,ok.hd,ok.frames,ok.LC,ok.dw,ok.bs,ok.Uc,ok.En,ok.Hx,ok.rR,ok.Yz⟩
A9 Cx.Ok.oK{X:Cx}{E:Value→Shared→Prop}(ok:(X.wish E).Ok):X.Ok:=
 ⟨ok.mod,ok.kind,ok.glob,ok.blt,ok.above,ok.inj,ok.has,ok.cab,ok.hd,ok.frames,ok.LC,ok.dw,ok.bs,ok.Uc,ok.En,ok.Hx,ok.rR,ok.Yz⟩
section
variable{X:Cx}{pins:List (Addr×Obj)}{σ:St}{H:Hp}{s:Shared}{E:Value→Shared→Prop}
A9 Inv.wish(I:Inv X pins σ H s)(E:Value→Shared→Prop):Inv (X.wish E) pins σ H s:=⟨I.ok.wish E,I.os,I.bare,I.base,I.loc,I.cell,I.free,I.lF,I.pin,I.hok,I.len⟩
A9 Inv.oK(I:Inv (X.wish E) pins σ H s):Inv X pins σ H s:=⟨I.ok.oK,I.os,I.bare,I.base,I.loc,I.cell,I.free,I.lF,I.pin,I.hok,I.len⟩
A9 SP.oK{D:Ends}{f:Flow}{s':Shared}(h:SP (X.wish E) pins D f s'):SP X pins D f s':=by
 cases f with
 | next=>A7⟨σ',H',I,q⟩:=h;~⟨σ',H',I.oK,q⟩
 | brk=>A7⟨σ',H',I,q⟩:=h;~⟨σ',H',I.oK,q⟩
 | cont=>A7⟨σ',H',I,q⟩:=h;~⟨σ',H',I.oK,q⟩
 | ret u=>A7⟨v,σ',H',I,r,q⟩:=h;~⟨v,σ',H',I.oK,r,q⟩
A9 Ce.RC{st:List Stmt}{t:TS}(h:Ce X.RC st t):Ce X st t:=fun pins s σ H D I hw=>
 wpAny_mono (h pins s σ H D (I.wish _) hw) (fun _ _ q=>q.oK) fun _ _ z=>False.elim z
end
section
variable{X:Cx}{st:Stmt}{rest:List Stmt}{t u:TS}{e:Expr}{te:TE}{pos:Pos}
def Hz:TS:=fun D σ H=>D.nx σ H
def Rf(t u:TS):TS:=fun D σ H=>t {D with nx:=u D} σ H
A9 Od:Ce X [] Hz:=fun _ _ σ H _ I h=>wpAny_execs_nil ⟨σ,H,I,h⟩
A9 uC(h1:PS X st t)(h2:Ce X rest u):Ce X (st::rest) (Rf t u):=by
 intro pins s σ H D I h
 &wpAny_execs_cons (eY (h1 pins s σ H {D with nx:=u D} I h) fun f s1 q=>?_)
 cases f with
 | next=>
  A7⟨σ',H',I',q⟩:=q
  ~h2 pins s1 σ' H' D I' q
 | ret v=>~q
 | brk=>~q
 | cont=>~q
A9 xP(h1:PS X st t):Ce X [st] t:=by
 intro pins s σ H D I h
 &wpAny_execs_cons (eY (h1 pins s σ H D I h) fun f s1 q=>?_)
 cases f with
 | next=>~wpAny_execs_nil q
 | ret v=>~q
 | brk=>~q
 | cont=>~q
A9 Inv.quiet{pins:List (Addr×Obj)}{σ:St}{H:Hp}{s:Shared}(I:Inv X pins σ H s):interactive X.env=false:=by simp[interactive,I.ok.kind]
def nM(te:TE):TS:=fun D σ H=>te σ H fun _ H1=>D.nx σ H1
A9 oM(he:PE X e te)(hs:swapsWith e none pos.line X.env=pure false:=by rfl):PS X (.Expr e pos) (nM te):=by
 intro pins s σ H D I h
 ~wpAny_Expr_any (eY (he pins s σ H _ I h) fun v s1 ⟨x,H1,I1,r1,q1⟩=>⟨σ,H1,I1,q1⟩) I.quiet hs
def Kw(te:TE):TS:=fun D σ H=>te σ H D.rt
A9 Ky(he:PE X e te):PS X (.Return (some e) pos) (Kw te):=by
 intro pins s σ H D I h
 ~wpAny_Return_some (eY (he pins s σ H _ I h) fun v s1 ⟨x,H1,I1,r1,q1⟩=>⟨x,σ,H1,I1,r1,q1⟩)
def Rg(c:TT)(t u:TS):TS:=fun D σ H=>c σ H fun b H1=>if b=true then t D σ H1 else u D σ H1
A9 Um{c:Expr}{a b:List Stmt}{tc:TT}(hc:PT X c tc)(ha:Ce X a t)(hb:Ce X b u):PS X (.If c a b pos) (Rg tc t u):=by
 intro pins s σ H D I h
 &wpAny_If (eY (hc pins s σ H _ I h) fun d s1 ⟨H1,I1,q1⟩=>?_)
 cases d with
 | true=>~ha pins s1 σ H1 D I1 q1
 | false=>~hb pins s1 σ H1 D I1 q1
def yM:TS:=fun _ _ _=>False
A9 Uo:PS X st yM:=fun _ _ _ _ _ _ h=>h.elim
A9 Ci{sts:List Stmt}:Ce X sts yM:=fun _ _ _ _ _ _ h=>h.elim
end
abbrev TG:=V→St→Hp→(St→Hp→Prop)→Prop
def PG(X:Cx)(target:Expr)(t:TG):Prop:=
 ∀(pins:List (Addr×Obj))(s:Shared)(σ:St)(H:Hp)(v:V)(u:Value)(Q:St→Hp→Prop),Inv X pins σ H s→RelV v u→t v σ H Q →
  wpAny (model X.prog X.w) X.A (assign target X.env u) (fun _ s'=>∃σ' H',Inv X pins σ' H' s'∧Q σ' H') X.xe s
abbrev RD:=V→V→V→Hp→(Hp→Prop)→Prop
def jb(X:Cx)(t:RD):Prop:=
 ∀(pins:List (Addr×Obj))(s:Shared)(σ:St)(H:Hp)(o i v:V)(ov iv u:Value)(Q:Hp→Prop),Inv X pins σ H s→RelV o ov→RelV i iv→RelV v u→t o i v H Q →
  wpAny (model X.prog X.w) X.A (setItem ov iv u) (fun _ s'=>∃H',Inv X pins σ H' s'∧Q H') X.xe s
section
variable{X:Cx}{pos:Pos}
def cB(i:Nat):TG:=fun v σ H Q=>Q (σ.set i (some v)) H
A9 jA{i:Nat}{x:Str}(hN:X.N.Nodup)(hi:X.N[i]?=some x)(hx:Loc X.env.scope x)(hf:X.fn x=true∨X.env.scope.names.lookup x=some .local:=by first | ~.inl rfl | ~.inr rfl | assumption):PG X (.Name x pos) (cB i):=by
 intro pins s σ H v u Q I r h
 ~wpAny_assign_Name (uB I hN hi hx r (fun s' I'=>⟨_,H,I',h⟩) hf)
def Zi(to ti:TE)(t:RD):TG:=fun v σ H Q=>to σ H fun o H1=>ti σ H1 fun i H2=>t o i v H2 fun H3=>Q σ H3
A9 RG{o i:Expr}{to ti:TE}{t:RD}(ho:PE X o to)(hi:PE X i ti)(hs:jb X t)
  (ha:∀v,assign (.Subscript o i pos) X.env v=(do
   let ov ←holding [v] (eval o X.env)
   let iv ←holding [v,ov] (eval i X.env)
   standAt pos
   holding [v,ov,iv] (setItem ov iv v)
   release [v,ov,iv] []):=by intro _;rfl):PG X (.Subscript o i pos) (Zi to ti t):=by
 intro pins s σ H v u Q I r h
 rw[ha]
 &wpAny_bind (wpAny_holding (eY (ho pins s σ H _ I h) fun ov s1 ⟨x,H1,I1,r1,q1⟩=>?_))
 &wpAny_bind (wpAny_holding (eY (hi pins s1 σ H1 _ I1 q1) fun iv s2 ⟨y,H2,I2,r2,q2⟩=>?_))
 &wpAny_bind (wpAny_standAt (wpAny_bind (wpAny_holding (eY (hs pins s2 σ H2 x y v ov iv u _ I2 r1 r2 r q2) fun _ s3 ⟨H3,I3,q3⟩=>?_))))
 ~wpAny_release ⟨σ,H3,I3,q3⟩
def nO(te:TE)(g:TG):TS:=fun D σ H=>te σ H fun x H1=>g x σ H1 D.nx
A9 RJ{tg e:Expr}{te:TE}{g:TG}(he:PE X e te)(hg:PG X tg g)(hs:swapsWithSole [tg] e pos.line X.env=pure false:=by rfl)(hw:swappedStores [tg] e X.env=pure none:=by rfl)
  (h1:(assignEach [tg] X.env).map (·.2)=[assign tg X.env]:=by rfl):PS X (.Assign [tg] e pos) (nO te g):=by
 intro pins s σ H D I h
 &wpAny_Assign_stores (eY (he pins s σ H _ I h) fun v s1 ⟨x,H1,I1,r1,q1⟩=>?_) hs hw
 rw[h1]
 ~eY (hg pins s1 σ H1 x v _ I1 r1 q1) fun _ s2 q=>q
A9 aY{i:Nat}{x:Str}{e:Expr}{te:TE}{pos':Pos}(hN:X.N.Nodup)(hi:X.N[i]?=some x)(hx:Loc X.env.scope x)(he:PE X e te)(hs:swapsWith e (some (.Name x pos')) pos.line X.env=pure false:=by rfl)(hf:X.fn x=true∨X.env.scope.names.lookup x=some .local:=by first | ~.inl rfl | ~.inr rfl | assumption) :
  PS X (.Assign [.Name x pos'] e pos) (nO te (cB i)):=by
 intro pins s σ H D I h
 &wpAny_Assign_Name (eY (he pins s σ H _ I h) fun v s1 ⟨y,H1,I1,r1,q1⟩=>?_) hs
 ~uB I1 hN hi hx r1 (fun s2 I2=>⟨_,H1,I2,q1⟩) hf
end
section
variable{X:Cx}{pos:Pos}
end
structure It where
 go:Nat→Hp→Prop
 fj:Nat→Hp→V→Hp→Prop
 stop:Nat→Hp→Prop
def xG(X:Cx)(pins:List (Addr×Obj))(H:Hp)(b:Addr):Prop:=
 H b=none∧b≠X.env.locals∧b∉X.fs∧(b∈X.ex∨X.s₀.heap.objs.size≤b)∧(∀x c,X.env.cells.lookup x=some c→c≠b)∧∀p∈X.pn++pins,p.1≠b
A9 Inv.Zj{X:Cx}{pins:List (Addr×Obj)}{σ:St}{H H':Hp}{s:Shared}{b:Addr}(I:Inv X pins σ H s)(hb:s.heap.objs.size≤b)(hn:H' b=none):xG X pins H' b:=by
 &⟨hn,N6 (C3 I.lt hb),I.QH hb,.inr (F0 I.sz hb),fun x c e z=>?_,fun p hp z=>?_⟩
 ·A7⟨v,q⟩:=I.cell x c e
  ~absurd (C3 q.lt (by rw[z];~hb)) (G3 _)
 ·~absurd (C3 (Heap.lt_size (I.pin p hp).1) (by rw[z];~hb)) (G3 _)
structure Turn(P:Program)(w:World)(K:aA)(tg:Expr)(J:It)(fp:List Addr)(it:Addr)(tn:Nat→Heap→Prop):Prop where
 mem:it∈fp
 obj:∀i h,tn i h→∀b∈fp,∃o,h.get? b=some o∧∀v,o.data≠.cell v
 keep:∀i h h',tn i h→(∀b∈fp,∀o,h.get? b=some o→h'.get? b=some o)→tn i h'
 item:∀(X:Cx),X.prog=P→X.w=w→X.K=K→X.calm=true→∀(i:Nat)(pins:List (Addr×Obj))(s:Shared)(σ:St)(H:Hp)(E:Value→Shared→Prop),Inv X pins σ H s→(∀b∈fp,xG X pins H b)→tn i s.heap→J.go i H →
  wpAny (model P w) X.A (pyNext (.ref it)) (fun r s1=>∃u,r=some u ∧
   wpAny (model P w) X.A (letOwnedTupleGo tg (.ref it) u) (fun _ s2=>∃x H',Inv X pins σ H' s2∧RelV x u∧J.fj i H x H'∧tn (i+1) s2.heap∧∀b∈fp,H' b=none) E s1) E s
 done:∀(X:Cx),X.prog=P→X.w=w→X.K=K→X.calm=true→∀(i:Nat)(pins:List (Addr×Obj))(s:Shared)(σ:St)(H:Hp)(E:Value→Shared→Prop),Inv X pins σ H s→(∀b∈fp,xG X pins H b)→tn i s.heap→J.stop i H →
  wpAny (model P w) X.A (pyNext (.ref it)) (fun r s1=>r=none∧Inv X pins σ H s1) E s
 self:∀(A:Around)(i:Nat)(s:Shared)(Q:Value→Shared→Prop)(E:Value→Shared→Prop),tn i s.heap→Q (.ref it) s→wpAny (model P w) A (pyIter (.ref it)) Q E s
abbrev TI:=St→Hp→(It→Hp→Prop)→Prop
def PIE(X:Cx)(pins:List (Addr×Obj))(σ:St)(tg:Expr)(R:It→Hp→Prop)(itv:Value)(s2:Shared):Prop:=
 ∃(it:Addr)(fp:List Addr)(tn:Nat→Heap→Prop)(J:It)(H':Hp),itv=.ref it∧Inv X pins σ H' s2∧Turn X.prog X.w X.K tg J fp it tn∧tn 0 s2.heap∧(∀b∈fp,xG X pins H' b)∧R J H'
def PI(X:Cx)(tg iter:Expr)(wi:TI):Prop:=
 ∀(pins:List (Addr×Obj))(s:Shared)(σ:St)(H:Hp)(R:It→Hp→Prop),Inv X pins σ H s→wi σ H R →
  wpAny (model X.prog X.w) X.A (eval iter X.env) (fun v s1=>wpAny (model X.prog X.w) X.A (pyIter v) (PIE X pins σ tg R) X.xe s1) X.xe s
A9 Oe{M:Model}{A:Around}{E:Value→Shared→Prop}{s:Shared}{tg:Expr}{it:Addr}{u:Value}{o:Obj}{n:String}{vs:Array Value}{Q:Unit→Shared→Prop}(ho:s.heap.get? it=some o)(hc:o.cls=.type n)(hd:o.data=.fields vs)
    (hn:["enumerate", "zip", "dict_itemiterator", "dict_reverseitemiterator", "odict_iterator", "itertools.zip_longest", "itertools.pairwise"].contains n=false) (hQ:Q () s):wpAny M A (letOwnedTupleGo tg (.ref it) u) Q E s:=by
  A8 letOwnedTupleGo
  cases tg<;>first
    | ~wpAny_pure hQ
    | (cases u<;>first
        | ~wpAny_pure hQ
        | (&wpAny_bind (wpAny_load ho ?_)
           rw[hc,hd]
           show wpAny M A (if(["enumerate", "zip", "dict_itemiterator", "dict_reverseitemiterator", "odict_iterator", "itertools.zip_longest", "itertools.pairwise"].contains n&&vs[0]?==some (rawInt _))=true then _ else _) Q E s
           rw[if_neg (by intro h;rw[hn,U5]at h;cases h)]
           ~wpAny_pure hQ))
def yf(K:aA)(a:Addr):It:=
 ⟨fun i H=>∃xs x,mC K H a xs∧xs[i]?=some x,fun i H x H'=>H'=H∧∀xs,mC K H a xs→xs[i]?=some x,fun i H=>∃xs,mC K H a xs∧xs.length≤i⟩
def yg(K:aA)(a:Addr):It:=
 ⟨fun i H=>∃xs x,pI K H a xs∧xs[i]?=some x,fun i H x H'=>H'=H∧∀xs,pI K H a xs→xs[i]?=some x,fun i H=>∃xs,pI K H a xs∧xs.length≤i⟩
def vh(lo:Int)(n:Nat):It:=⟨fun i _=>i<n,fun i H x H'=>H'=H∧x=.int (lo+i),fun i _=>n≤i⟩
A9 Rh{P:Program}{w:World}{K:aA}{tg:Expr}(a it:Addr):Turn P w K tg (yf K a) [it] it (fun i h=>h.IsListIter it a i) where
 mem:=by simp
 obj:=fun i h st b hb=>by
  have e:b=it:=by simpa using hb
  subst e
  A7⟨o,e,c,d⟩:=st
  ~⟨o,e,fun v z=>by rw[d]at z;cases z⟩
 keep:=fun i h h' st k=>st.at fun o e=>k it (by simp) o e
 item:=by
  intro X hP hw hK hc i pins s σ H E I hf st hg
  subst hP hw hK
  A7⟨xs,x,hq,hx⟩:=hg
  A7⟨its,rv,p,hz⟩:=I.list hq
  A7⟨u,hu,ru⟩:=rv.get hx
  A7⟨f0,f1,f2,f3,f4,f5⟩:=hf it (by simp)
  &wpAny_pyNext_list_item st p.isList (x:=u) (by simpa using hu) fun h' st' sb=>?_
  have I1:Inv X pins σ H {s with heap:=h'}:=I.turned (t':=s.toks) (fun b o hb e=>(sb.2 b hb).trans e) f0 f1 f3 f4 f5
  A7⟨o,e,c,d⟩:=id st'
  ~⟨u,rfl,Oe (s:={s with heap:=h'}) e c d A5 ⟨x,H,I1,ru,⟨rfl,fun ys hy=>by rw[I.Hy hy hq];~hx⟩,st',fun b hb=>(hf b hb).1⟩⟩
 done:=by
  intro X hP hw hK hc i pins s σ H E I hf st hg
  subst hP hw hK
  A7⟨xs,hq,hx⟩:=hg
  A7⟨its,rv,p,hz⟩:=I.list hq
  A7⟨f0,f1,f2,f3,f4,f5⟩:=hf it (by simp)
  have hl:=rv.length
  ~wpAny_pyNext_list_end (I.ok.hd hc) st p.isList (by simp;omega) fun h' eb=>⟨rfl,I.turned (t':=s.toks) (fun b o hb e=>eb b o hb e) f0 f1 f3 f4 f5⟩
 self:=fun _ _ _ _ _ st h=>wpAny_pyIter_listiter st h
A9 Kz{P:Program}{w:World}{K:aA}{tg:Expr}(a it:Addr):Turn P w K tg (yg K a) [it] it (fun i h=>h.IsTupleIter it a i) where
 mem:=by simp
 obj:=fun i h st b hb=>by
  have e:b=it:=by simpa using hb
  subst e
  A7⟨o,e,c,d⟩:=st
  ~⟨o,e,fun v z=>by rw[d]at z;cases z⟩
 keep:=fun i h h' st k=>st.at fun o e=>k it (by simp) o e
 item:=by
  intro X hP hw hK hc i pins s σ H E I hf st hg
  subst hP hw hK
  A7⟨xs,x,hq,hx⟩:=hg
  A7⟨its,rv,p,hz⟩:=I.tuple hq
  A7⟨u,hu,ru⟩:=rv.get hx
  A7⟨f0,f1,f2,f3,f4,f5⟩:=hf it (by simp)
  &wpAny_pyNext_tuple_item st (show s.heap.IsTuple a its.toArray from p) (x:=u) (by simpa using hu) fun h' st' sb=>?_
  have I1:Inv X pins σ H {s with heap:=h'}:=I.turned (t':=s.toks) (fun b o hb e=>(sb.2 b hb).trans e) f0 f1 f3 f4 f5
  A7⟨o,e,c,d⟩:=id st'
  ~⟨u,rfl,Oe (s:={s with heap:=h'}) e c d A5 ⟨x,H,I1,ru,⟨rfl,fun ys hy=>by rw[I.Cg hy hq];~hx⟩,st',fun b hb=>(hf b hb).1⟩⟩
 done:=by
  intro X hP hw hK hc i pins s σ H E I hf st hg
  subst hP hw hK
  A7⟨xs,hq,hx⟩:=hg
  A7⟨its,rv,p,hz⟩:=I.tuple hq
  A7⟨f0,f1,f2,f3,f4,f5⟩:=hf it (by simp)
  have hl:=rv.length
  ~wpAny_pyNext_tuple_end (I.ok.hd hc) st (show s.heap.IsTuple a its.toArray from p) (by simp;omega) fun h' eb=>⟨rfl,I.turned (t':=s.toks) (fun b o hb e=>eb b o hb e) f0 f1 f3 f4 f5⟩
 self:=fun _ _ _ _ _ st h=>wpAny_pyIter_tupleiter st h
A9 La{P:Program}{w:World}{K:aA}{tg:Expr}(it:Addr)(lo:Int)(n:Nat):Turn P w K tg (vh lo n) [it] it (fun i h=>IsRangeIter h it (lo+(i:Nat)*1) ((n:Int)-(i:Nat)) 1) where
 mem:=by simp
 obj:=fun i h st b hb=>by
  have e:b=it:=by simpa using hb
  subst e
  ~⟨_,st,fun v z=>by
   have z':Data.fields _=Data.cell v:=z
   cases z'⟩
 keep:=fun i h h' st k=>k it (by simp) _ st
 item:=by
  intro X hP hw hK hc i pins s σ H E I hf st hg
  subst hP hw hK
  A7⟨f0,f1,f2,f3,f4,f5⟩:=hf it (by simp)
  have W:=Walks.range (prog:=X.prog) (w:=X.w) (I.ok.hd hc) it lo 1 n
  &W.item i s _ _ hg st fun v h' tk hv st' kk=>?_
  A7⟨t,rfl⟩:=hv
  have I1:Inv X pins σ H {s with heap:=h',toks:=tk}:=I.turned (fun b o hb e=>kk b o (by simpa using hb) e) f0 f1 f3 f4 f5
  &⟨_,rfl,Oe (s:={s with heap:=h',toks:=tk}) (n := "range_iterator") st' rfl rfl A5 ⟨.int (lo+i),H,I1,⟨t,?_⟩,⟨rfl,rfl⟩,st',fun b hb=>(hf b hb).1⟩⟩
  rw[Int.mul_one]
 done:=by
  intro X hP hw hK hc i pins s σ H E I hf st hg
  subst hP hw hK
  A7⟨f0,f1,f2,f3,f4,f5⟩:=hf it (by simp)
  ~wpAny_pyNext_range_end (I.ok.hd hc) st (by have:n≤i:=hg;omega) fun h' eb=>⟨rfl,I.turned (t':=s.toks) (fun b o hb e=>eb b o hb e) f0 f1 f3 f4 f5⟩
 self:=fun _ _ _ _ _ st h=>wpAny_pyIter_rangeiter st h
end L2
namespace L2
open PySem PySem.Spec PyProof.Rows
section
variable{X:Cx}{tg:Expr}
def LR(K:aA)(tl:TE):TI:=fun σ H R=>tl σ H fun x H1=>∃a,x=.ref a∧(∃xs,mC K H1 a xs)∧R (yf K a) H1
def jc(K:aA)(tl:TE):TI:=fun σ H R=>tl σ H fun x H1=>∃a,x=.ref a∧(∃xs,pI K H1 a xs)∧R (yg K a) H1
A9 Zk{l:Expr}{tl:TE}(hl:PE X l tl):PI X tg l (LR X.K tl):=by
 intro pins s σ H R I h
 &eY (hl pins s σ H _ I h) fun v s1 ⟨x,H1,I1,r1,q1⟩=>?_
 A7⟨a,e,⟨xs,hq⟩,q⟩:=q1
 subst e
 cases r1
 A7⟨its,rv,p,hz⟩:=I1.list hq
 &wpAny_pyIter_list p.isList ?_
 &⟨s1.heap.objs.size,[s1.heap.objs.size],_,_,H1,rfl,I1.kept (t':=s1.toks) fun b o e=>Heap.get?_push_of_some _ e,Rh a _,⟨_,Heap.get?_push_size _ rfl,rfl,rfl⟩,fun b hb=>?_,q⟩
 have e:b=s1.heap.objs.size:=by simpa using hb
 subst e
 ~I1.Zj (D2 _) (I1.hok.fresh (D2 _))
A9 RK{l:Expr}{tl:TE}(hl:PE X l tl):PI X tg l (jc X.K tl):=by
 intro pins s σ H R I h
 &eY (hl pins s σ H _ I h) fun v s1 ⟨x,H1,I1,r1,q1⟩=>?_
 A7⟨a,e,⟨xs,hq⟩,q⟩:=q1
 subst e
 cases r1
 A7⟨its,rv,p,hz⟩:=I1.tuple hq
 &wpAny_pyIter_tuple (show s1.heap.IsTuple a its.toArray from p) ?_
 &⟨s1.heap.objs.size,[s1.heap.objs.size],_,_,H1,rfl,I1.kept (t':=s1.toks) fun b o e=>Heap.get?_push_of_some _ e,Kz a _,⟨_,Heap.get?_push_size _ rfl,rfl,rfl⟩,fun b hb=>?_,q⟩
 have e:b=s1.heap.objs.size:=by simpa using hb
 subst e
 ~I1.Zj (D2 _) (I1.hok.fresh (D2 _))
A9 Up{pins:List (Addr×Obj)}{σ:St}{H:Hp}{s:Shared}{R:It→Hp→Prop}{E:Value→Shared→Prop}{lo hi:Int}{t u v:Tok}{tk:Nat}(I:Inv X pins σ H s)(h1:-(2 ^ 62)≤lo)(h2:lo<2 ^ 62)(h3:-(2 ^ 62)≤hi)(h4:hi<2 ^ 62)
  (q:R (vh lo (hi-lo).toNat) H):wpAny (model X.prog X.w) X.A (pyIter (.ref s.heap.objs.size)) (PIE X pins σ tg R) E {s with heap:=s.heap.push {cls:=.type "range", data:=.fields #[.int lo t,.int hi u,.int 1 v]},toks:=tk}:=by
 &wpAny_pyIter_range (IsRange.new ..) (small_one h1 h2 h3 h4) ?_
 have I1:Inv X pins σ H {s with heap:=s.heap.push {cls:=.type "range", data:=.fields #[.int lo t,.int hi u,.int 1 v]},toks:=tk}:=I.kept fun b o e=>Heap.get?_push_of_some _ e
 &⟨(s.heap.push {cls:=.type "range", data:=.fields #[.int lo t,.int hi u,.int 1 v]}).objs.size,[(s.heap.push {cls:=.type "range", data:=.fields #[.int lo t,.int hi u,.int 1 v]}).objs.size],_,_,H,rfl,
  I1.kept (t':=tk) fun b o e=>Heap.get?_push_of_some _ e,La _ lo (hi-lo).toNat,?_,fun b hb=>?_,q⟩
 ·have e1:lo+((0:Nat):Int)*1=lo:=by simp
  have e2:(((hi-lo).toNat:Nat):Int)-((0:Nat):Int)=Builtin.Range.rangeSize lo hi 1:=by rw[rangeSize_one];split<;>omega
  show IsRangeIter _ _ (lo+((0:Nat):Int)*1) ((((hi-lo).toNat:Nat):Int)-((0:Nat):Int)) 1
  rw[e1,e2]
  ~Heap.get?_push_size _ rfl
 ·have e:b=(s.heap.push {cls:=.type "range", data:=.fields #[.int lo t,.int hi u,.int 1 v]}).objs.size:=by simpa using hb
  subst e
  ~I1.Zj (D2 _) (I1.hok.fresh (D2 _))
def Uq(ta:TA):TI:=fun σ H R=>ta σ H fun vs H1=>∃j:Int,vs=[.int j]∧-(2 ^ 62)≤j∧j<2 ^ 62∧R (vh 0 j.toNat) H1
A9 Cj{a:Expr}{ta:TA}{p pos:Pos}(hg:Gl X "range") (hm:X.mg "range" = none) (ha:PA X [a] ta) (hs:starEach [a] X.env=[(false,eval a X.env)]:=by rfl):PI X tg (.Call (.Name "range" p) [a] [] pos) (Uq ta):=by
 intro pins s σ H R I h
 &Call_ (Ep I hg hm boot_range (S2 (eY (ha pos pins s σ H _ I h) fun us s1 ⟨vs,H1,I1,r1,q1⟩=>?_) hs rfl))
 A7⟨j,e,q1,q2,q⟩:=q1
 subst e
 cases r1 with
 | cons r rr=>
  cases rr
  A7⟨t,rfl⟩:=r
  ~call_range_1 (Up I1 A3 A3 q1 q2 (by simpa using q))
def Lb(wi:TI)(g:TG)(tb:TS):TS:=fun D σ H=>wi σ H fun J H1=>∃W:Nat→Nat→St→Hp→Prop,(∃m,W 0 m σ H1)∧∀i m σ H,W i m σ H →
 (J.stop i H∧D.nx σ H)∨(J.go i H∧∃N:St→Hp→Prop,(∀σ' H',N σ' H'→∃m',m'<m∧W (i+1) m' σ' H')∧∀x H',J.fj i H x H'→g x σ H' fun σ2 H2=>tb {D with nx:=N,ct:=N,bk:=D.nx} σ2 H2)
def sX(fp:List Addr)(h:Heap):List (Addr×Obj):=fp.filterMap fun b=>(h.get? b).map fun o=>(b,o)
A9 jK{fp:List Addr}{h:Heap}{b:Addr}{o:Obj}(hb:b∈fp)(e:h.get? b=some o):(b,o)∈sX fp h:=V6.mpr ⟨b,hb,by rw[e];rfl⟩
A9 Ri{fp:List Addr}{h:Heap}{p:Addr×Obj}(hp:p∈sX fp h):p.1∈fp∧h.get? p.1=some p.2:=by
 A7⟨b,hb,e⟩:=V6.mp hp
 cases q:h.get? b with
 | none=>rw[q]at e;cases e
 | some o=>
  rw[q]at e
  have e':(b,o)=p:=G1 e
  subst e'
  ~⟨hb,q⟩
A9 Inv.pinned{pins:List (Addr×Obj)}{σ:St}{H:Hp}{s:Shared}{fp:List Addr}(I:Inv X pins σ H s)(hf:∀b∈fp,xG X pins H b)(ho:∀b∈fp,∃o,s.heap.get? b=some o∧∀v,o.data≠.cell v):Inv X (pins++sX fp s.heap) σ H s:=
 I.xO fun p hp=>(L8.mp hp).elim (fun z=>I.pin p (C9 _ z)) fun z=>by
  A7⟨hb,e⟩:=Ri z
  A7⟨f0,f1,f2,_⟩:=hf p.1 hb
  A7⟨o,e',d⟩:=ho p.1 hb
  rw[e]at e';cases e'
  ~⟨e,f0,f1,f2,d⟩
A9 Inv.pL{pins pl:List (Addr×Obj)}{σ:St}{H:Hp}{s:Shared}(I:Inv X (pins++pl) σ H s):Inv X pins σ H s:=I.xO fun p hp=>I.pin p (C9 _ (I0 _ hp))
A9 Ld{iter:Expr}{body:List Stmt}{wi:TI}{g:TG}{tb:TS}{pos:Pos}(hp:PassesOwn (model X.prog X.w) X.A X.env X.xe)(hc:X.calm=true)(hi:PI X tg iter wi)(hg:PG X tg g)(hb:Ce X body tb)
  (hs:∀x,foldedSetIterable iter X.env x=pure x:=by intro _;rfl):PS X (.For tg iter body [] pos) (Lb wi g tb):=by
 intro pins s σ H D I h
 &wpAny_For (eY (hi pins s σ H _ I h) fun v s1 h1=>eY h1 fun itv s2 h2=>?_) hs
 A7⟨it,fp,tn,J,H2,e,I2,T,st2,f2,W,⟨m0,w0⟩,turn⟩:=h2
 subst e
 have stat:∀{H':Hp},(∀b∈fp,H' b=none)→∀b∈fp,xG X pins H' b:=fun hn b hb=>⟨hn b hb,(f2 b hb).2⟩
 &codeAny_forLoop_any (fun n s'=>∃i σ' H',Inv X pins σ' H' s'∧tn i s'.heap∧(∀b∈fp,H' b=none)∧W i n σ' H') ?_ m0 ⟨0,σ,H2,I2,st2,fun b hb=>(f2 b hb).1,w0⟩
 rintro n s3 ⟨i,σ3,H3,I3,st3,fr3,w3⟩
 rcases turn i n σ3 H3 w3 with ⟨stop,qn⟩ | ⟨go,N,hN,step⟩
 ·&wpAny_passesOwn hp (eY (T.done X rfl rfl rfl hc i pins s3 σ3 H3 X.xe I3 (stat fr3) st3 stop) fun r s4 ⟨hr,I4⟩=>?_)
  subst hr
  ~wpAny_execs_nil ⟨σ3,H3,I4,qn⟩
 ·&wpAny_passesOwn hp (eY (T.item X rfl rfl rfl hc i pins s3 σ3 H3 X.xe I3 (stat fr3) st3 go) fun r s4 ⟨u,hr,h4⟩=>?_)
  subst hr
  &wpAny_passesOwn hp (eY h4 fun _ s5 ⟨x,H5,I5,r5,y5,st5,fr5⟩=>?_)
  have I5':=I5.pinned (stat fr5) (T.obj _ _ st5)
  &wpAny_passesOwn hp (eY (hg _ s5 σ3 H5 x u _ I5' r5 (step x H5 y5)) fun _ s6 ⟨σ6,H6,I6,q6⟩=>?_)
  &wpAny_passesOwn hp (eY (hb _ s6 σ6 H6 _ I6 q6) fun f s7 q7=>?_)
  have again:∀{σ7:St} {H7:Hp},Inv X (pins++sX fp s5.heap) σ7 H7 s7→N σ7 H7→∃m,m<n∧∃i σ' H',Inv X pins σ' H' s7∧tn i s7.heap∧(∀b∈fp,H' b=none)∧W i m σ' H':=fun{σ7 H7} I7 n7=>by
   A7⟨m',hm,w7⟩:=hN σ7 H7 n7
   &⟨m',hm,i+1,σ7,H7,I7.pL,T.keep _ _ _ st5 fun b hb o e=>(I7.pin (b,o) (C9 _ (C9 _ (jK hb e)))).1,fun b hb=>?_,w7⟩
   A7⟨o,e,d⟩:=T.obj _ _ st5 b hb
   ~(I7.pin (b,o) (C9 _ (C9 _ (jK hb e)))).2.1
  cases f with
  | next=>A7⟨σ7,H7,I7,n7⟩:=q7;~again I7 n7
  | cont=>A7⟨σ7,H7,I7,n7⟩:=q7;~again I7 n7
  | brk=>A7⟨σ7,H7,I7,q7⟩:=q7;~⟨σ7,H7,I7.pL,q7⟩
  | ret v=>A7⟨x7,σ7,H7,I7,r7,q7⟩:=q7;~⟨x7,σ7,H7,I7.pL,r7,q7⟩
end
end L2
namespace L2
open PySem PySem.Spec PyProof.Rows
abbrev R2:=V→V→Hp→VK→Prop
def lQ(X:Cx)(f:Value→Value→Sem Value)(r:R2):Prop:=
 ∀(pins:List (Addr×Obj))(s:Shared)(σ:St)(H:Hp)(x y:V)(v u:Value)(Q:VK),Inv X pins σ H s→RelV x v→RelV y u→r x y H Q →
  wpAny (model X.prog X.w) X.A (f v u) (EP X pins σ Q) X.xe s
def yh(X:Cx)(f:Value→Sem Value)(r:V→Hp→VK→Prop):Prop:=
 ∀(pins:List (Addr×Obj))(s:Shared)(σ:St)(H:Hp)(x:V)(v:Value)(Q:VK),Inv X pins σ H s→RelV x v→r x H Q →
  wpAny (model X.prog X.w) X.A (f v) (EP X pins σ Q) X.xe s
def iV(X:Cx)(f:Value)(r:List V→Hp→VK→Prop):Prop:=
 ∀(pins:List (Addr×Obj))(s:Shared)(σ:St)(H:Hp)(xs:List V)(us:List Value)(Q:VK),Inv X pins σ H s→Vals xs us→r xs H Q →
  wpAny (model X.prog X.w) X.A (call f us) (EP X pins σ Q) X.xe s
def Ck(r:R2)(ta tb:TE):TE:=fun σ H Q=>ta σ H fun x H1=>tb σ H1 fun y H2=>r x y H2 Q
def yj(r:V→Hp→VK→Prop)(ta:TE):TE:=fun σ H Q=>ta σ H fun x H1=>r x H1 Q
def rI(C:Int→Int→Prop)(g:Int→Int→V):R2:=fun x y H Q=>∃i j,x=.int i∧y=.int j∧C i j∧Q (g i j) H
def Ud(g:Int→Int→V):R2:=fun x y H Q=>∃i j,x=.int i∧y=.int j∧Q (g i j) H
def rU(g:Int→V):V→Hp→VK→Prop:=fun x H Q=>∃i,x=.int i∧Q (g i) H
section
variable{X:Cx}{a b c:Expr}{ta tb tc:TE}{pos:Pos}
A9 RL(ha:PE X a ta)(hb:PE X b tb){pins:List (Addr×Obj)}{s:Shared}{σ:St}{H:Hp}{R:V→V→Hp→Prop}(I:Inv X pins σ H s)
  (h:ta σ H fun x H1=>tb σ H1 fun y H2=>R x y H2) {Q:Value→Shared→Prop} {f:Value→Value→Sem Value}
  (hf:∀v u s2 x y H2,Inv X pins σ H2 s2→RelV x v→RelV y u→R x y H2→wpAny (model X.prog X.w) X.A (f v u) Q X.xe s2) :
  wpAny (model X.prog X.w) X.A (eval a X.env) (fun v s₁=>wpAny (model X.prog X.w) X.A (eval b X.env) (fun u s₂=>wpAny (model X.prog X.w) X.A (f v u) Q X.xe s₂) X.xe s₁) X.xe s:=by
 &eY (ha pins s σ H _ I h) fun v s1 ⟨x,H1,I1,r1,q1⟩=>?_
 &eY (hb pins s1 σ H1 _ I1 q1) fun u s2 ⟨y,H2,I2,r2,q2⟩=>?_
 ~hf v u s2 x y H2 I2 r1 r2 q2
A9 Ur{op:Operator}{r:R2}(ho:lQ X (binaryOp op) r)(ha:PE X a ta)(hb:PE X b tb):PE X (.BinOp a op b pos) (Ck r ta tb):=by
 intro pins s σ H Q I h
 ~wpAny_BinOp (RL ha hb I h fun v u s2 x y H2 I2 rx ry q=>ho pins s2 σ H2 x y v u Q I2 rx ry q)
A9 jd{op:UnaryOp}{r:V→Hp→VK→Prop}(ho:yh X (unaryOp op) r)(ha:PE X a ta):PE X (.UnaryOp op a pos) (yj r ta):=by
 intro pins s σ H Q I h
 ~UnaryOp_ (eY (ha pins s σ H _ I h) fun v s1 ⟨x,H1,I1,r1,q1⟩=>ho pins s1 σ H1 x v Q I1 r1 q1)
A9 yl{f:Value→Value→Sem Value}{C:Int→Int→Prop}{g:Int→Int→Int}
  (rule:∀(i j:Int)(t u:Tok)(s:Shared)(Q:Value→Shared→Prop)(E:Value→Shared→Prop),C i j→Q (.int (g i j) s.toks) {s with toks:=s.toks+1}→wpAny (model X.prog X.w) X.A (f (.int i t) (.int j u)) Q E s) :
  lQ X f (rI C fun i j=>.int (g i j)):=by
 intro pins s σ H x y v u Q I rx ry h
 A7⟨i,j,rfl,rfl,hc,q⟩:=h
 A7⟨t,rfl⟩:=rx
 A7⟨t',rfl⟩:=ry
 ~rule i j t t' s _ _ hc ⟨.int (g i j),H,I.tok _,⟨_,rfl⟩,q⟩
A9 je{f:Value→Value→Sem Value}{g:Int→Int→Int}
  (rule:∀(i j:Int)(t u:Tok)(s:Shared)(Q:Value→Shared→Prop)(E:Value→Shared→Prop),Q (.int (g i j) s.toks) {s with toks:=s.toks+1}→wpAny (model X.prog X.w) X.A (f (.int i t) (.int j u)) Q E s) :
  lQ X f (Ud fun i j=>.int (g i j)):=by
 intro pins s σ H x y v u Q I rx ry h
 A7⟨i,j,rfl,rfl,q⟩:=h
 A7⟨t,rfl⟩:=rx
 A7⟨t',rfl⟩:=ry
 ~rule i j t t' s _ _ ⟨.int (g i j),H,I.tok _,⟨_,rfl⟩,q⟩
A9 RM{f:Value→Value→Sem Value}{g:Int→Int→Bool}
  (rule:∀(i j:Int)(t u:Tok)(s:Shared)(Q:Value→Shared→Prop)(E:Value→Shared→Prop),Q (.bool (g i j)) s→wpAny (model X.prog X.w) X.A (f (.int i t) (.int j u)) Q E s) :
  lQ X f (Ud fun i j=>.bl (g i j)):=by
 intro pins s σ H x y v u Q I rx ry h
 A7⟨i,j,rfl,rfl,q⟩:=h
 A7⟨t,rfl⟩:=rx
 A7⟨t',rfl⟩:=ry
 ~rule i j t t' s _ _ ⟨.bl (g i j),H,I,rfl,q⟩
def Rj(i j:Int):Prop:=0<j∧j<1073741824
def RN(i j:Int):Prop:=0≤j∧j≤1000000∧i.natAbs<2 ^ 64
def Bh(i j:Int):Prop:=(-(2 ^ 64)<i∧i<2 ^ 64)∨(-(2 ^ 64)<j∧j<2 ^ 64)
A9 Bh.ok{i j:Int}(h:Bh i j):IntMulOk i j:=by
 rcases h with ⟨h1,h2⟩ | ⟨h1,h2⟩
 ·~.of_left (intBits_le_64 h1 h2)
 ·~.of_right (intBits_le_64 h1 h2)
A9 Le:lQ X (binaryOp .Add) (Ud fun i j=>.int (i+j)):=je fun _ _ _ _ _ _ _ q=>add_int q
A9 RP:lQ X (binaryOp .Sub) (Ud fun i j=>.int (i-j)):=je fun _ _ _ _ _ _ _ q=>sub_int q
A9 RQ:lQ X (binaryOp .Mult) (rI Bh fun i j=>.int (i*j)):=yl fun _ _ _ _ _ _ _ hc q=>mul_int q hc.ok
A9 Zm:lQ X (binaryOp .FloorDiv) (rI Rj fun i j=>.int (i/j)):=yl fun i j _ _ _ _ _ hc q=>by
 have h1:(0:Int)<j:=hc.1
 have h2:j<1073741824:=hc.2
 ~floordiv_int A3 (by rw[Int.fdiv_eq_ediv_of_nonneg i A3];~q) (.inl (PyProof.noPylong_small A3))
A9 RT:lQ X (binaryOp .Mod) (rI (fun _ j=>0<j) fun i j=>.int (i%j)):=yl fun i j _ _ _ _ _ hc q=>by
 have h1:(0:Int)<j:=hc
 ~mod_int' A3 (by rw[Int.fmod_eq_emod_of_nonneg i A3];~q)
A9 unI{f:Value→Sem Value}{g:Int→Int}
  (rule:∀(i:Int)(t:Tok)(s:Shared)(Q:Value→Shared→Prop)(E:Value→Shared→Prop),Q (.int (g i) s.toks) {s with toks:=s.toks+1}→wpAny (model X.prog X.w) X.A (f (.int i t)) Q E s) :
  yh X f (rU fun i=>.int (g i)):=by
 intro pins s σ H x v Q I rx h
 A7⟨i,rfl,q⟩:=h
 A7⟨t,rfl⟩:=rx
 ~rule i t s _ _ ⟨.int (g i),H,I.tok _,⟨_,rfl⟩,q⟩
A9 RV:yh X (unaryOp .USub) (rU fun i=>.int (-i)):=unI fun _ _ _ _ _ q=>neg_int q
end
def Ib:V→V→Bool
  | .non,.non=>true | .non,.int _=>true | .int _,.non=>true | .non,.bl _=>true | .bl _,.non=>true | .non,.str _=>true | .str _,.non=>true
  | .int _,.int _=>true | .bl _,.bl _=>true | .str _,.str _=>true | .byt _,.byt _=>true
  | .int _,.str _=>true | .str _,.int _=>true | .bl _,.str _=>true | .str _,.bl _=>true
  | _,_=>false
def ym:R2:=fun x y H Q=>Ib x y=true∧Q (.bl (decide (x=y))) H
def rNe:R2:=fun x y H Q=>Ib x y=true∧Q (.bl (!decide (x=y))) H
A9 Og{i j:Int}:decide (V.int i=V.int j)=(i==j):=by
 rw[F7]
 simp
A9 Us{i j:Bool}:decide (V.bl i=V.bl j)=(i==j):=by
 rw[F7]
 simp
A9 xQ{i j:Str}:decide (V.str i=V.str j)=(i==j):=by
 rw[F7]
 simp
A9 Oh{i j:Array UInt8}:decide (V.byt i=V.byt j)=(i.toList==j.toList):=by
 rw[F7]
 cases i
 cases j
 simp
section
variable{X:Cx}{a b c:Expr}{ta tb tc:TE}{pos:Pos}
A9 bL{pins:List (Addr×Obj)}{σ:St}{H:Hp}{s:Shared}{Q:VK}{k k':Bool}(I:Inv X pins σ H s)(q:Q (.bl k) H)(e:k=k'):EP X pins σ Q (.bool k') s:=by
 subst e
 ~⟨.bl k,H,I,rfl,q⟩
A9 jf:lQ X (compareOp .Eq) ym:=by
 intro pins s σ H x y v u Q I rx ry h
 A7⟨hs,q⟩:=h
 cases x with
 | non=>
  cases rx
  cases y with
  | non=>cases ry;~PySem.EqNone.eq_none_none (bL I q (by simp))
  | bl j=>cases ry;~PySem.EqNone.eq_none_bool (bL I q (by simp))
  | int j=>A7⟨t',rfl⟩:=ry;~PySem.EqNone.eq_none_int (bL I q (by simp))
  | str j=>A7⟨t',rfl⟩:=ry;~PySem.EqNone.eq_none_str (bL I q (by simp))
  | _=>~absurd (show false=true from hs) B8
 | bl i=>
  cases rx
  cases y with
  | non=>cases ry;~PySem.EqNone.eq_bool_none (bL I q (by simp))
  | bl j=>cases ry;~eq_bool (bL I q Us)
  | str j=>A7⟨t',rfl⟩:=ry;~PySem.EqMixed.eq_bool_str (bL I q (by simp))
  | _=>~absurd (show false=true from hs) B8
 | int i=>
  A7⟨t,rfl⟩:=rx
  cases y with
  | non=>cases ry;~PySem.EqNone.eq_int_none (bL I q (by simp))
  | int j=>A7⟨t',rfl⟩:=ry;~eq_int (bL I q Og)
  | str j=>A7⟨t',rfl⟩:=ry;~PySem.EqMixed.eq_int_str (bL I q (by simp))
  | _=>~absurd (show false=true from hs) B8
 | str i=>
  A7⟨t,rfl⟩:=rx
  cases y with
  | non=>cases ry;~PySem.EqNone.eq_str_none (bL I q (by simp))
  | bl j=>cases ry;~PySem.EqMixed.eq_str_bool (bL I q (by simp))
  | int j=>A7⟨t',rfl⟩:=ry;~PySem.EqMixed.eq_str_int (bL I q (by simp))
  | str j=>A7⟨t',rfl⟩:=ry;~eq_str (bL I q xQ)
  | _=>~absurd (show false=true from hs) B8
 | byt i=>
  A7⟨t,rfl⟩:=rx
  cases y with
  | byt j=>A7⟨t',rfl⟩:=ry;~PySem.W.eq_bytes (bL I q Oh)
  | _=>~absurd (show false=true from hs) B8
 | _=>cases y<;>~absurd (show false=true from hs) B8
A9 jg:lQ X (compareOp .NotEq) rNe:=by
 intro pins s σ H x y v u Q I rx ry h
 A7⟨hs,q⟩:=h
 cases x with
 | non=>
  cases rx
  cases y with
  | non=>cases ry;~PySem.EqNone.ne_none_none (bL I q (by simp))
  | bl j=>cases ry;~PySem.EqNone.ne_none_bool (bL I q (by simp))
  | int j=>A7⟨t',rfl⟩:=ry;~PySem.EqNone.ne_none_int (bL I q (by simp))
  | str j=>A7⟨t',rfl⟩:=ry;~PySem.EqNone.ne_none_str (bL I q (by simp))
  | _=>~absurd (show false=true from hs) B8
 | bl i=>
  cases rx
  cases y with
  | non=>cases ry;~PySem.EqNone.ne_bool_none (bL I q (by simp))
  | bl j=>cases ry;~ne_bool (bL I q (congrArg not Us))
  | str j=>A7⟨t',rfl⟩:=ry;~PySem.EqMixed.ne_bool_str (bL I q (by simp))
  | _=>~absurd (show false=true from hs) B8
 | int i=>
  A7⟨t,rfl⟩:=rx
  cases y with
  | non=>cases ry;~PySem.EqNone.ne_int_none (bL I q (by simp))
  | int j=>A7⟨t',rfl⟩:=ry;~ne_int (bL I q (congrArg not Og))
  | str j=>A7⟨t',rfl⟩:=ry;~PySem.EqMixed.ne_int_str (bL I q (by simp))
  | _=>~absurd (show false=true from hs) B8
 | str i=>
  A7⟨t,rfl⟩:=rx
  cases y with
  | non=>cases ry;~PySem.EqNone.ne_str_none (bL I q (by simp))
  | bl j=>cases ry;~PySem.EqMixed.ne_str_bool (bL I q (by simp))
  | int j=>A7⟨t',rfl⟩:=ry;~PySem.EqMixed.ne_str_int (bL I q (by simp))
  | str j=>A7⟨t',rfl⟩:=ry;~ne_str (bL I q (congrArg not xQ))
  | _=>~absurd (show false=true from hs) B8
 | byt i=>
  A7⟨t,rfl⟩:=rx
  cases y with
  | byt j=>A7⟨t',rfl⟩:=ry;~PySem.W.ne_bytes (bL I q (congrArg not Oh))
  | _=>~absurd (show false=true from hs) B8
 | _=>cases y<;>~absurd (show false=true from hs) B8
A9 Cm:lQ X (compareOp .Lt) (Ud fun i j=>.bl (decide (i<j))):=RM fun _ _ _ _ _ _ _ q=>lt_int q
A9 Cp:lQ X (compareOp .LtE) (Ud fun i j=>.bl (decide (i≤j))):=RM fun _ _ _ _ _ _ _ q=>le_int q
A9 Ut:lQ X (compareOp .Gt) (Ud fun i j=>.bl (decide (j<i))):=RM fun _ _ _ _ _ _ _ q=>gt_int q
A9 Rk:lQ X (compareOp .In) (fun x y H Q=>∃i j,x=.str i∧y=.str j∧Q (.bl (!(Builtin.Str.occurrences j i 0 j.length 1).isEmpty)) H):=by
 intro pins s σ H x y v u Q I rx ry h
 A7⟨i,j,rfl,rfl,q⟩:=h
 A7⟨t,rfl⟩:=rx
 A7⟨t',rfl⟩:=ry
 ~in_str (bL I q rfl)
A9 RW:lQ X (compareOp .Is) (fun x y H Q=>y=.non∧Q (.bl (decide (x=.non))) H):=by
 intro pins s σ H x y v u Q I rx ry h
 A7⟨rfl,q⟩:=h
 cases ry
 &is_none_gen (bL I q ?_)
 cases x<;>first
  | (cases rx;rfl)
  | (A7⟨t,rfl⟩:=rx;rfl)
A9 lQ.or{f:Value→Value→Sem Value}{r r':R2}(h:lQ X f r)(h':lQ X f r'):lQ X f (fun x y H Q=>r x y H Q∨r' x y H Q):=by
 intro pins s σ H x y v u Q I rx ry q
 rcases q with q | q
 ·~h pins s σ H x y v u Q I rx ry q
 ·~h' pins s σ H x y v u Q I rx ry q
A9 bM(b:Expr){op:CmpOp}(h:op≠.In:=by decide)(h2:op≠.NotIn:=by decide):behindInMarks op b=false:=by
 have e1:(op==CmpOp.In)=false:=by cases op<;>first | rfl | ~absurd rfl h
 have e2:(op==CmpOp.NotIn)=false:=by cases op<;>first | rfl | ~absurd rfl h2
 cases b<;>simp[behindInMarks,e1,e2]
A9 Zo{op:CmpOp}{r:R2}(ho:lQ X (compareOp op) r)(ha:PE X a ta)(hb:PE X b tb)(hm:behindInMarks op b=false):PE X (.Compare a [op] [b] pos) (Ck r ta tb):=by
 intro pins s σ H Q I h
 ~wpAny_Compare1 (RL ha hb I h fun v u s2 x y H2 I2 rx ry q=>ho pins s2 σ H2 x y v u Q I2 rx ry q) hm
def Ie(t:TE):TT:=fun σ H Q=>t σ H fun x H'=>∃k,x=.bl k∧Q k H'
A9 Zq{op:CmpOp}{r:R2}(ho:lQ X (compareOp op) r)(ha:PE X a ta)(hb:PE X b tb)(hm:behindInMarks op b=false):PT X (.Compare a [op] [b] pos) (Ie (Ck r ta tb)):=by
 intro pins s σ H Q I h
 &wpAny_isTrue_Compare1 (eY (ha pins s σ H _ I h) fun v s1 ⟨x,H1,I1,r1,q1⟩=>eY (hb pins s1 σ H1 _ I1 q1) fun u s2 ⟨y,H2,I2,r2,q2⟩=>
  eY (ho pins s2 σ H2 x y v u _ I2 r1 r2 q2) fun c s3 ⟨z,H3,I3,r3,k,e,q3⟩=>?_) hm
 subst e
 cases r3
 ~wpAny_truthy_bool ⟨H3,I3,q3⟩
def Er(r r':R2)(ta tb tc:TE):TE:=fun σ H Q=>ta σ H fun x H1=>tb σ H1 fun y H2=>r x y H2 fun z H3=>∃k,z=.bl k ∧
 (if k=true then tc σ H3 fun w' H4=>r' y w' H4 Q else Q (.bl false) H3)
A9 Uu{op op':CmpOp}{r r':R2}(ho:lQ X (compareOp op) r)(ho':lQ X (compareOp op') r')(ha:PE X a ta)(hb:PE X b tb)(hc:PE X c tc)
  (hm:lastMarks [op,op'] [b,c]=false:=by with_unfolding_all rfl):PE X (.Compare a [op,op'] [b,c] pos) (Er r r' ta tb tc):=by
 intro pins s σ H Q I h
 &Compare_chain (eY (ha pins s σ H _ I h) fun v s1 ⟨x,H1,I1,r1,q1⟩=>chain_link (eY (hb pins s1 σ H1 _ I1 q1) fun u s2 ⟨y,H2,I2,r2,q2⟩=>
  eY (ho pins s2 σ H2 x y v u _ I2 r1 r2 q2) fun d s3 ⟨z,H3,I3,r3,k,e,q3⟩=>?_)) hm
 subst e
 cases r3
 &wpAny_truthy_bool ?_
 cases k with
 | false=>~ite_ff ⟨.bl false,H3,I3,rfl,q3⟩
 | true=>~ite_tt (chain_last (eY (hc pins s3 σ H3 _ I3 q3) fun w' s4 ⟨z',H4,I4,r4,q4⟩=>ho' pins s4 σ H4 y z' u w' Q I4 r2 r4 q4))
A9 Uv{op op':CmpOp}{r r':R2}(ho:lQ X (compareOp op) r)(ho':lQ X (compareOp op') r')(ha:PE X a ta)(hb:PE X b tb)(hc:PE X c tc)
  (hm:lastMarks [op,op'] [b,c]=false:=by with_unfolding_all rfl):PT X (.Compare a [op,op'] [b,c] pos) (Ie (Er r r' ta tb tc)):=by
 intro pins s σ H Q I h
 &isTrue_chain (eY (ha pins s σ H _ I h) fun v s1 ⟨x,H1,I1,r1,q1⟩=>test_link (eY (hb pins s1 σ H1 _ I1 q1) fun u s2 ⟨y,H2,I2,r2,q2⟩=>
  eY (ho pins s2 σ H2 x y v u _ I2 r1 r2 q2) fun d s3 ⟨z,H3,I3,r3,k,e,q3⟩=>?_)) hm
 subst e
 cases r3
 &wpAny_truthy_bool ?_
 cases k with
 | false=>
  A7⟨k',e',q'⟩:=q3
  cases e'
  ~ite_ff ⟨H3,I3,q'⟩
 | true=>
  &ite_tt (test_last (eY (hc pins s3 σ H3 _ I3 q3) fun w' s4 ⟨z',H4,I4,r4,q4⟩=>eY (ho' pins s4 σ H4 y z' u w' _ I4 r2 r4 q4) fun d' s5 ⟨z2,H5,I5,r5,k2,e2,q5⟩=>?_))
  subst e2
  cases r5
  ~wpAny_truthy_bool ⟨H5,I5,q5⟩
A9 vI:(sizeLine:Nat)<2 ^ 63:=by rw[sizeLine_eq];decide
A9 Lf:lQ X (binaryOp .Add) (fun x y H Q=>∃i j,x=.str i∧y=.str j∧i.length+j.length≤sizeLine∧Q (.str (i++j)) H):=by
 intro pins s σ H x y v u Q I rx ry h
 A7⟨i,j,rfl,rfl,hz,q⟩:=h
 A7⟨t,rfl⟩:=rx
 A7⟨t',rfl⟩:=ry
 ~add_str (fun t' tk=>⟨.str (i++j),H,I.tok _,⟨_,rfl⟩,q⟩) hz
A9 vals1{x:V}{us:List Value}(r:Vals [x] us):∃u,us=[u]∧RelV x u:=by
 cases r with
 | cons r1 r2=>cases r2;~⟨_,rfl,r1⟩
A9 vals2{x y:V}{us:List Value}(r:Vals [x,y] us):∃u w',us=[u,w']∧RelV x u∧RelV y w':=by
 cases r with
 | cons r1 r2=>
  cases r2 with
  | cons r3 r4=>cases r4;~⟨_,_,rfl,r1,r3⟩
A9 Es:iV X (.type "str") (fun xs H Q=>∃i,xs=[.int i]∧i.natAbs.log2<1920∧Q (.str (toString i)) H):=by
 intro pins s σ H xs us Q I r h
 A7⟨i,rfl,hz,q⟩:=h
 A7⟨u,rfl,t,rfl⟩:=vals1 r
 ~PySem.P.str_of_int hz ⟨.str _,H,I.tok _,⟨_,rfl⟩,q⟩
end
end L2
namespace L2
open PySem PySem.Spec PyProof.Rows
structure RX(h:Heap)(x dx C:Addr)(mA:Str→Option Value):Prop where
 obj:h.get? x=some (T9 C dx)
 ns:h.Ns1 dx mA
 ne:dx≠x
A9 Rm{h:Heap}{dx:Addr}{mA:Str→Option Value}(n:h.Ns1 dx mA):∃od,h.get? dx=some od∧∀name,U6 name od=some (mA name):=by
 A7⟨o,es,ep,ho,hd,hk,_,hm⟩:=n
 &⟨o,ho,fun name=>?_⟩
 have e:=hm name
 A8 nsFind findBy at e
 rw[←Array.find?_toList]at e
 A8 U6
 rw[hd]
 dsimp only
 split
 ·rename_i y q
  rw[q]at e
  ~congrArg some e
 ·rename_i q
  rw[q]at e
  have a:es.toList.any (·.refKey)=false:=by
   rw[List.any_eq_false]
   intro y hy
   A7⟨z,t,hkey⟩:=hk y (Array.mem_toList_iff.mp hy)
   simp[DictEntry.refKey,hkey]
  have a':¬es.toList.any (·.refKey)=true:=by rw[a];~B8
  rw[if_neg a']
  ~congrArg some e
A9 RX.look{h:Heap}{x dx C:Addr}{mA:Str→Option Value}(I:RX h x dx C mA):∃od,PySem.W.InstAt h x (T9 C dx) C (some od)∧∀name,U6 name od=some (mA name):=
 let ⟨od,ho,hl⟩:=Rm I.ns
 ⟨od,⟨I.obj,rfl,rfl,ho⟩,hl⟩
section
variable{prog:Program}{w:World}{A:Around}{E:Value→Shared→Prop}{s:Shared}{K:aA}{x dx C f:Addr}{mA:Str→Option Value}{name:Str}{v:Value}
end
section
variable{P:Program}{w:World}{H H':Hp}{h h':Heap}{a C dx:Addr}{fs fs':List (Str×V)}
A9 Zr(hok:rQ P w H h)(e:H a=some (.ins C dx fs)):∃mA,RX h a dx C mA∧(∀f,QG (fs.lookup f) (mA f))∧Z0 mA (fs.map (·.1))∧fs.length≤1000∧H dx=some (.own a):=by
 A7⟨d,z,ne,ob,mA,n,r,q⟩:=(show gY P w H h a (.ins C dx fs)from hok a _ e)
 ~⟨mA,⟨ob,n,ne⟩,r,q,z,d⟩
end
structure vm(K:aA)(C:Addr):Prop where
 pg:X0 K C Str.empty=true
 hd:PySem.W.hasDictIn K C=true
 po:PySem.W.plainOver K C=true
 sa:J6 K (.ref C) "__setattr__" = some (some (.builtin "object.__setattr__"))
A9 vm.get{K:aA}{C:Addr}(c:vm K C)(f:Str):X0 K C f=true:=c.pg
def RZ(K:aA)(C:Addr)(f:Str):Prop:=J6 K (.ref C) f=some none
structure Con(K:aA)(C:Addr)(f:Str)(v:V)(u:Value):Prop where
 at_:J6 K (.ref C) f=some (some u)
 rel:RelV v u
 get:P4 K u "__get__" = some none
 cp:PySem.W.copiedNames.contains f=false
structure Meth(K:aA)(C:Addr)(m:Str)(f:Addr):Prop where
 at_:J6 K (.ref C) m=some (some (.ref f))
 fn:Z6 K (.ref f)=true
 kp:K6 K (.ref f)=true
section
variable{X:Cx}{pins:List (Addr×Obj)}{σ:St}{H:Hp}{s:Shared}{a C dx:Addr}{fs:List (Str×V)}{f:Str}{v:V}{A:Around}{E:Value→Shared→Prop}
end
section
variable{X:Cx}{o e value:Expr}{f:Str}{pos pos' tpos:Pos}{ta tv:TE}
end
section
variable{X:Cx}{pins:List (Addr×Obj)}{σ:St}{H:Hp}{s:Shared}{A:Around}{E:Value→Shared→Prop}{Q:Value→Shared→Prop}{c:Value}{b:Bool}
inductive xH(K:aA)(H:Hp):V→Value→Prop where
 | non:xH K H .non (.type "NoneType")
 | bl (x:Bool):xH K H (.bl x) (.type "bool")
 | int (i:Int):xH K H (.int i) (.type "int")
 | str (x:Str):xH K H (.str x) (.type "str")
 | flt (x:UInt64):xH K H (.flt x) (.type "float")
 | lst {a:Addr} {xs:List V} (e:H a=some (.lst xs)):xH K H (.ref a) (.type "list")
 | tZ {a:Addr} {o:Obj} {xs:List V} (e:H a=some (.tZ o (.lst xs))):xH K H (.ref a) (.type "list")
 | tup {a:Addr} {xs:List V} (e:H a=some (.tup xs)):xH K H (.ref a) (.type "tuple")
 | dK {a:Addr} {kvs:List (Key×V)} (e:H a=some (.dK kvs)):xH K H (.ref a) (.type "dict")
 | dT {a:Addr} {kvs:List (List Key×V)} (e:H a=some (.dT kvs)):xH K H (.ref a) (.type "dict")
 | ins {a C dx:Addr} {fs:List (Str×V)} (e:H a=some (.ins C dx fs)) (cl:vm K C) (ha:J6 K (.ref C) "__class__" = some (some (.builtin "object.__class__")))
   (hn:P4 K (.builtin "object.__class__") "__get__" = some (some (.builtin "getset_descriptor.__get__"))) (htk:U0 K (.builtin "object.__class__")=some true)
   (hm:Q0 K C (.type "object")=some true):xH K H (.ref a) (.ref C)
A9 rB{x:V}{u t:Value}(I:Inv X pins σ H s)(rx:RelV x u)(ty:xH X.K H x t)(e:O8 X.K t c=some b)(h:∀tk,Q (.bool b) {s with toks:=tk}) :
  wpAny (model X.prog X.w) A (call (.builtin "isinstance") [u,c]) Q E s:=by
 cases ty with
 | non=>cases(show u=Value.none from rx);~F8 PySem.W.kitx_none I.uA True.intro e (fun z=>nomatch z) h
 | bl y=>cases(show u=Value.bool y from rx);~F8 PySem.W.kitx_bool I.uA True.intro e (fun z=>nomatch z) h
 | int i=>A7⟨t,q⟩:=(show ∃t,u=Value.int i t from rx);cases q;~F8 PySem.W.kitx_int I.uA True.intro e (fun z=>nomatch z) h
 | str y=>A7⟨t,q⟩:=(show ∃t,u=Value.str y t from rx);cases q;~F8 PySem.W.kitx_str I.uA True.intro e (fun z=>nomatch z) h
 | flt y=>A7⟨t,q⟩:=(show ∃t,u=Value.float y t from rx);cases q;~F8 PySem.W.kitx_float I.uA True.intro e (fun z=>nomatch z) h
 | @lst a xs ea=>
  cases(show u=Value.ref a from rx)
  A7⟨_,_,n,_,h1⟩:=(show gY X.prog X.w H s.heap a (.lst xs)from I.hok a _ ea)
  ~F8 S7 I.uA ⟨_,h1,rfl⟩ e (fun z=>nomatch z) h
 | @tZ a ob xs ea=>
  cases(show u=Value.ref a from rx)
  A7⟨_,_,_,n,_,h1⟩:=(show gY X.prog X.w H s.heap a (.tZ ob (.lst xs))from I.hok a _ ea)
  ~F8 S7 I.uA ⟨_,h1,rfl⟩ e (fun z=>nomatch z) h
 | @tup a xs ea=>
  cases(show u=Value.ref a from rx)
  A7⟨_,_,_,p⟩:=(show gY X.prog X.w H s.heap a (.tup xs)from I.hok a _ ea)
  A7⟨o,h1,h2,_⟩:=p
  ~F8 V7 I.uA ⟨o,h1,h2⟩ e (fun z=>nomatch z) h
 | @dK a kvs ea=>
  cases(show u=Value.ref a from rx)
  A7⟨_,_,vs,_,p⟩:=(show gY X.prog X.w H s.heap a (.dK kvs)from I.hok a _ ea)
  A7⟨o,es,ep,h1,h2,_⟩:=p
  ~F8 S8 I.uA ⟨o,h1,h2.1⟩ e (fun z=>nomatch z) h
 | @dT a kvs ea=>
  cases(show u=Value.ref a from rx)
  A7⟨_,_,xs,_,o,es,ep,h1,h2,_⟩:=(show gY X.prog X.w H s.heap a (.dT kvs)from I.hok a _ ea)
  ~F8 S8 I.uA ⟨o,h1,h2.1⟩ e (fun z=>nomatch z) h
 | @ins a C dx fs ea cl ha hn htk hm=>
  cases(show u=Value.ref a from rx)
  A7⟨mA,O,_⟩:=Zr I.hok ea
  A7⟨od,J,_⟩:=O.look
  ~F8 (PySem.W.kitx_own (cl.get _) cl.hd ha hn htk hm) I.uA J e (fun z=>nomatch z) h
end
end L2
namespace L2
open PySem PySem.Spec PyProof.Rows
structure kI(k:Nat)(A:Around):Prop where
 hd:A.handled=none
 dp:A.depth+3*k+5<recursionLimit
 un:A.units+16*k+200<cLine
A9 kI.mono{j k:Nat}{A:Around}(r:kI k A)(h:j≤k):kI j A:=⟨r.hd,by have:=r.dp;omega,by have:=r.un;omega⟩
A9 kI.deeper{k:Nat}{A:Around}(r:kI (k+1) A)(env:Env):kI k (A.deeper env):=
 ⟨r.hd,by have:=r.dp;show A.depth+1+3*k+5<_;omega,by have:=r.un;show A.units+3+16*k+200<_;omega⟩
A9 kI.depth{k:Nat}{A:Around}(r:kI k A):A.depth<recursionLimit:=by have:=r.dp;omega
A9 kI.units{k:Nat}{A:Around}(r:kI k A):A.units+64<cLine:=by have:=r.un;omega
def iM:TA:=fun _ H Q=>Q [] H
def bV(ta:TE)(tr:TA):TA:=fun σ H Q=>ta σ H fun x H1=>tr σ H1 fun xs H2=>Q (x::xs) H2
section
variable{X:Cx}{e:Expr}{es:List Expr}{te:TE}{t:TA}{pos:Pos}
A9 bI:PA X [] iM:=fun _ _ _ _ H Q I h=>Calls.spliced_nil ⟨[],H,I,.nil,h⟩
A9 aV(ha:PE X e te)(hr:PA X es t)(hs:starEach (e::es) X.env=(false,eval e X.env)::starEach es X.env:=by rfl):PA X (e::es) (bV te t):=by
 intro pos pins s σ H Q I h
 rw[hs]
 show wpAny _ _ (spliced ((false,eval e X.env)::backTo pos (starEach es X.env))) _ _ s
 &Calls.spliced_cons (eY (ha pins s σ H _ I h) fun u s1 ⟨x,H1,I1,r1,q1⟩=>?_)
 ~eY (hr pos pins s1 σ H1 _ I1 q1) fun us s2 ⟨xs,H2,I2,r2,q2⟩=>⟨x::xs,H2,I2,.cons r1 r2,q2⟩
def Uw(t:TA):TE:=fun σ H Q=>t σ H fun xs H1=>xs.length≤sizeLine∧∀p,H1 p=none→Q (.ref p) (upd H1 p (.tup xs))
def Rn(t:TA):TE:=fun σ H Q=>t σ H fun xs H1=>xs.length≤sizeLine∧∀p,H1 p=none→Q (.ref p) (upd H1 p (.lst xs))
A9 Et{x1}(h:PA X es t):PE X (.Tuple es x1 pos) (Uw t):=by
 intro pins s σ H Q I hq
 &wpAny_Tuple_spliced (eY (h pos pins s σ H _ I hq) fun us s1 ⟨xs,H1,I1,r,z,q⟩=>⟨by rw[←r.length];~z,?_⟩)
 have hf:H1 s1.heap.objs.size=none:=I1.hok.fresh (D2 _)
 &⟨.ref s1.heap.objs.size,upd H1 s1.heap.objs.size (.tup xs),I1.laid (t':=s1.toks) (fun b u e=>Heap.get?_push_of_some _ e) (D2 _) ?_,rfl,q _ hf⟩
 ~⟨z,us,r,⟨_,Heap.get?_push_size _ rfl,rfl,_,rfl⟩⟩
A9 Lg(h:PA X es t):PE X (.List es pos) (Rn t):=by
 intro pins s σ H Q I hq
 &wpAny_List_spliced (eY (h pos pins s σ H _ I hq) fun us s1 ⟨xs,H1,I1,r,z,q⟩=>⟨by rw[←r.length];~z,?_⟩)
 have hf:H1 s1.heap.objs.size=none:=I1.hok.fresh (D2 _)
 &⟨.ref s1.heap.objs.size,upd H1 s1.heap.objs.size (.lst xs),I1.laid (t':=s1.toks) (fun b u e=>Heap.get?_push_of_some _ e) (D2 _) ?_,rfl,q _ hf⟩
 ~⟨z,us,0,r,Heap.get?_push_size _ rfl⟩
end
abbrev Sp:=List V→Hp→VK→XK→Prop
abbrev Ku:=List Env→Hp→Shared→XK→Value→Shared→Prop
structure Zt(P:Program)(w:World)(K:aA)(mg:Str→Option Value)(base:Heap)(A:Around)(outer:List Env)(s:Shared)(H:Hp):Prop where
 frames:A.frames=some outer
 mod:Mod K mg base
 bs:∀b o,base.get? b=some o→s.heap.get? b=some o∧H b=none
 Uc:base.objs.size≤s.heap.objs.size
 rR:s.heap.FunFrames base outer
 Yz:∀b∈frs outer,H b=none
 hok:rQ P w H s.heap
 bare:AllBare s.gens
def CE(outer:List Env)(P:Program)(w:World)(H:Hp)(s:Shared)(Q:VK)(u:Value)(s':Shared):Prop:=
 ∃v H',s'.os=s.os∧AllBare s'.gens∧Un (frs outer) [] H H' s.heap s'.heap∧rQ P w H' s'.heap∧RelV v u∧Q v H'
def CR(CX:Ku)(outer:List Env)(P:Program)(w:World)(H:Hp)(s:Shared)(Q:VK)(E:XK)(r:Result)(s':Shared):Prop:=
 match r with
 | .ok (.ret u)=>CE outer P w H s Q u s'
 | .ok _=>False
 | .error e=>CX outer H s E e s'
structure uD(P:Program)(w:World)(K:aA)(mg:Str→Option Value)(base:Heap)(CX:Ku)(k:Nat)(f:Addr)(fd:FuncData)(ps:List Str)(sp:Sp):Prop where
 len:∀vs H Q E,sp vs H Q E→vs.length=ps.length
 run:∀(A:Around)(outer:List Env)(s:Shared)(H:Hp)(args:Args)(us:List Value)(vs:List V)(Q:VK)(E:XK),kI k A→Zt P w K mg base A outer s H→BindsTo s fd args (ps.zip us)→Vals vs us→sp vs H Q E →
  codeAny (model P w) A (.call (.ref f) args) (CR CX outer P w H s Q E) s
section
variable{X:Cx}{pins:List (Addr×Obj)}{σ:St}{H:Hp}{s s':Shared}
A9 Inv.env0(I:Inv X pins σ H s):Zt X.prog X.w X.K X.mg X.base X.A X.stack s H:=
 ⟨I.ok.frames,I.ok.mod,I.bs,F0 I.ok.Uc I.sz,I.stack,I.Eo,I.hok,I.bare⟩
A9 Inv.after{Q:VK}{u:Value}(I:Inv X pins σ H s)(h:CE X.stack X.prog X.w H s Q u s'):EP X pins σ Q u s':=by
 A7⟨v,H',os,bare,un,hok,r,q⟩:=h
 A7⟨hh,g,d,t,os'⟩:=s'
 A7 rfl:os'=s.os:=os
 ~⟨v,H',I.call (h':=hh) (g':=g) (d':=d) (t':=t) (ch:=[]) un hok bare (fun b z=>absurd z (by simp)),r,q⟩
end
def Cq(sp:Sp)(Ro:List V)(E:XK)(t:TA):TE:=fun σ H Q=>t σ H fun vs H1=>sp (vs++Ro) H1 Q E
def Binds(K:aA)(fd:FuncData)(ps:List Str)(ds:List Value):Prop:=
 ∀(s:Shared)(us:List Value),K.In s.heap→(us++ds).length=ps.length→BindsTo s fd ⟨us,[]⟩ (ps.zip (us++ds))
A9 Binds.all{K:aA}{fd:FuncData}{ps:List Str}(h:∀us:List Value,us.length=ps.length→bindArgs fd ⟨us,[]⟩=pure (ps.zip us)):Binds K fd ps []:=fun s us _ hl=>by
 rw[U1]at hl ⊢
 ~.of_eq (h us hl)
def Passes(CX:Ku)(X:Cx)(E:XK):Prop:=∀(pins:List (Addr×Obj))(σ:St)(H:Hp)(s:Shared)(e:Value)(s':Shared),Inv X pins σ H s→CX X.stack H s E e s'→X.xe e s'
section
variable{X:Cx}{CX:Ku}{k:Nat}{f C:Addr}{fd:FuncData}{ps:List Str}{sp:Sp}{Ro:List V}{ds:List Value}{E:XK}{x m:Str}{p pos apos:Pos}{e o:Expr}{es:List Expr}{ta:TE}{t:TA}
A9 SJ{pins:List (Addr×Obj)}{σ:St}{H:Hp}{s:Shared}{Q:VK}{us:List Value}{vs:List V}(F:uD X.prog X.w X.K X.mg X.base CX k f fd ps sp)(hr:kI k X.A)(hb:Binds X.K fd ps ds)(hd:Vals Ro ds)(hx:Passes CX X E)
  (I:Inv X pins σ H s) (r:Vals vs us) (h:sp (vs++Ro) H Q E):wpAny (model X.prog X.w) X.A (call (.ref f) us) (EP X pins σ Q) X.xe s:=by
 have r2:Vals (vs++Ro) (us++ds):=r.append hd
 have hl:(us++ds).length=ps.length:=by rw[←r2.length];~F.len _ _ _ _ h
 &wpAny_call (codeAny_mono (F.run X.A X.stack s H ⟨us,[]⟩ (us++ds) (vs++Ro) Q E hr I.env0 (hb s us I.uA hl) r2 h) fun r s' hq=>?_)
 cases r with
 | error e=>~hx pins σ H s e s' I hq
 | ok fl=>
  cases fl with
  | ret u=>~I.after hq
  | next=>~False.elim hq
  | brk=>~False.elim hq
  | cont=>~False.elim hq
A9 Zu(F:uD X.prog X.w X.K X.mg X.base CX k f fd ps sp)(hr:kI k X.A)(hg:Gl X x)(hm:X.mg x=some (.ref f))(hk:K6 X.K (.ref f)=true)(hb:Binds X.K fd ps ds)(hd:Vals Ro ds)(hx:Passes CX X E)
  (ha:PA X (e::es) t) (hdb:(x==("__debug__" : Str))=false:=by decide) (he:starEach (e::es) X.env=(false,eval e X.env)::starEach es X.env:=by rfl) (hpl:(backTo pos (starEach es X.env)).any (·.1)=false:=by rfl) :
  PE X (.Call (.Name x p) (e::es) [] pos) (Cq sp Ro E t):=by
 intro pins s σ H Q I h
 &wpAny_Call_Name_kw (rA I hg hm ?_ hdb)
 &V8 (h₀:=X.base) I.ok.mod.il hk (eY (ha pos pins s σ H _ I h) fun us s1 ⟨vs,H1,I1,r,q⟩=>⟨I1.uA,?_⟩) he hpl
 ~SJ F hr hb hd hx I1 r q
structure Mk(K:aA)(C f:Addr):Prop where
 makes:PySem.W.makesIn K C=true
 init:J6 K (.ref C) "__init__" = some (some (.ref f))
 fn:Z6 K (.ref f)=true
 kp:K6 K (.ref C)=true
end
section
variable{X:Cx}{CX:Ku}{k:Nat}{f C:Addr}{fd:FuncData}{ps ks:List Str}{sp:Sp}{E:XK}{x m:Str}{p pos apos kpos:Pos}{e o:Expr}{es:List Expr}{kws:List Keyword}{te ta:TE}{t tk:TA}{nm:Option Str}
structure yo(K:aA)(fd:FuncData)(ps ks:List Str)(g:List Value→List Value→List Value)(gV:List V→List V→List V):Prop where
 to:∀(s:Shared)(us ws:List Value),K.In s.heap→(g us ws).length=ps.length→BindsTo s fd ⟨us,ks.zip ws⟩ (ps.zip (g us ws))
 rel:∀{vs:List V} {us:List Value} {zs:List V} {ws:List Value},Vals vs us→Vals zs ws→Vals (gV vs zs) (g us ws)
variable{g:List Value→List Value→List Value}{gV:List V→List V→List V}
end
structure bO(N P:List Str)(sc:Scope):Prop where
 kind:sc.kind=.function
 co:sc.isCoroutine=false
 gen:sc.isGenerator=false
 nd:N.Nodup
 pre:N.take P.length=P
 par:∀x∈P,sc.names.lookup x=some .local∨sc.names.lookup x=some .cell
 SM:∀y∈sc.names,y.2≠.free
A9 Cr{kindOf:Str→Option NameKind}{x:Str}:∀{binds:List (Str×Value)} {m:Str→Option Value},(∀v,(x,v)∉binds)→bindL kindOf binds m x=m x
 | [],_,_=>rfl
 | (n,v)::r,m,h=>by
  A8 bindL
  rw[Cr fun w hw=>h w (C5 _ hw)]
  split
  ·have:x≠n:=by rintro rfl;~h v D1
   simp[this]
  ·rfl
A9 Cu{kindOf:Str→Option NameKind}{x:Str}:∀{binds:List (Str×Value)} {m:Str→Option Value},(∀v,(x,v)∉binds)→bindC kindOf binds m x=m x
 | [],_,_=>rfl
 | (n,v)::r,m,h=>by
  A8 bindC
  rw[Cu fun w hw=>h w (C5 _ hw)]
  split
  ·rfl
  ·have:x≠n:=by rintro rfl;~h v D1
   simp[this]
A9 Cv{kindOf:Str→Option NameKind}{x:Str}{v:Value}:∀{P:List Str} {vs:List Value} {i:Nat} {m:Str→Option Value},P.Nodup→P[i]?=some x→vs[i]?=some v→kindOf x=some .local →
  bindL kindOf (P.zip vs) m x=some v
 | [],_,_,_,_,h,_,_=>by simp at h
 | _::_,[],_,_,_,_,h,_=>by simp at h
 | p::P,w::vs,0,m,nd,h1,h2,hk=>by
  simp at h1 h2;subst h1;subst h2
  show bindL kindOf ((p,w)::P.zip vs) m p=_
  A8 bindL
  rw[Cr fun v hv=>(Q9.mp nd).1 (U2 hv).1,if_pos hk]
  simp
 | p::P,w::vs,i+1,m,nd,h1,h2,hk=>by
  show bindL kindOf ((p,w)::P.zip vs) m x=_
  A8 bindL
  ~Cv (i:=i) (Q9.mp nd).2 (by simpa using h1) (by simpa using h2) hk
A9 Cw{kindOf:Str→Option NameKind}{x:Str}{v:Value}:∀{P:List Str} {vs:List Value} {i:Nat} {m:Str→Option Value},P.Nodup→P[i]?=some x→vs[i]?=some v→kindOf x≠some .local →
  bindC kindOf (P.zip vs) m x=some v
 | [],_,_,_,_,h,_,_=>by simp at h
 | _::_,[],_,_,_,_,h,_=>by simp at h
 | p::P,w::vs,0,m,nd,h1,h2,hk=>by
  simp at h1 h2;subst h1;subst h2
  show bindC kindOf ((p,w)::P.zip vs) m p=_
  A8 bindC
  rw[Cu fun v hv=>(Q9.mp nd).1 (U2 hv).1,if_neg hk]
  simp
 | p::P,w::vs,i+1,m,nd,h1,h2,hk=>by
  show bindC kindOf ((p,w)::P.zip vs) m x=_
  A8 bindC
  ~Cw (i:=i) (Q9.mp nd).2 (by simpa using h1) (by simpa using h2) hk
def start(N:List Str)(vs:List V):St:=vs.map some++B9 (N.length-vs.length) none
def jL(CX:Ku)(P:Program)(w:World)(K:aA)(mg:Str→Option Value)(base:Heap)(N:List Str)(qual:Str)(scope:Scope)(f:Addr)(cd:Value)(A:Around)(outer:List Env)(s:Shared)(H:Hp)(E:XK):Cx where
 prog:=P
 w:=w
 K:=K
 mg:=mg
 base:=base
 A:=A.deeper (envOfC qual scope s.heap.objs.size f cd)
 N:=N
 s₀:=s
 H₀:=H
 env:=envOfC qual scope s.heap.objs.size f cd
 outer:=outer
 stack:=envOfC qual scope s.heap.objs.size f cd::outer
 ex:=[]
 calm:=true
 fn:=fun _=>true
 pn:=[]
 xe:=fun e s'=>wpAny (model P w) (A.deeper (envOfC qual scope s.heap.objs.size f cd)) (leaving (envOfC qual scope s.heap.objs.size f cd) e) (fun _ s''=>CX outer H s E e s'') (fun e' s''=>CX outer H s E e' s'') s'
A9 Ih{sc:Scope}{n:Nat}{x:Str}(h:sc.names.lookup x=some .cell):∃c,(cellsFrom n sc.names []).lookup x=some c:=by
 have q:=U3 sc.names n [] (.inl h)
 ~O5.mp q
A9 Rp{CX:Ku}{P:Program}{w:World}{K:aA}{mg:Str→Option Value}{base:Heap}{N ps:List Str}{qual:Str}{scope:Scope}{f:Addr}{cd:Value}{A:Around}{outer:List Env}{s s1:Shared}{H:Hp}{E:XK}{us:List Value}{vs:List V}
  (S:bO N ps scope) (hd:A.handled=none) (e0:Zt P w K mg base A outer s H) (hl:vs.length=ps.length) (r:Vals vs us)
  (x:InCallC s s.heap.objs.size (bindL (envOfC qual scope s.heap.objs.size f cd).kindOf (ps.zip us) fun _=>none) (cellsFrom (s.heap.objs.size+1) scope.names []) (bindC (envOfC qual scope s.heap.objs.size f cd).kindOf (ps.zip us) fun _=>none) s1) :
  Inv (jL CX P w K mg base N qual scope f cd A outer s H E) [] (start N vs) H s1:=by
 have hpl:ps.length≤N.length:=by have:=congrArg W9 S.pre;rw[J9]at this;omega
 A7⟨h1,tk,rfl,hk⟩:=x.done
 have jh:∀b:Addr,b∉(jL CX P w K mg base N qual scope f cd A outer s H E).ex:=fun b z=>absurd (show b∈([]:List Addr)from z) (by simp)
 &⟨⟨e0.mod,S.kind,rfl,rfl,D2 _,fun y z c h1 h2=>?_,fun y hy=>?_,fun y c _ h=>?_,fun _=>hd,Around.frames_deeper e0.frames,.inr ⟨rfl,rfl⟩,fun b z=>absurd z (jh b),e0.bs,e0.Uc,fun b _ _=>jh b,fun b z=>absurd z (jh b),e0.rR,e0.Yz⟩,
  rfl,e0.bare,Un.kept hk,⟨_,x.toInCall.ns,fun i y v h1 h2 h3=>?_⟩,fun y c h=>⟨_,x.cell y c h⟩,e0.hok.fresh (D2 _),fun y c h=>?_,fun p hp=>absurd (show p∈([]:List (Addr×Obj))from hp) (by simp),e0.hok.kept hk,?_⟩
 ·~name_of_addr x.apart (K9 h1) (K9 h2)
 ·have hy:scope.names.lookup y=some .cell∨scope.names.lookup y=some .free:=hy
  rcases hy with hy | hy
  ·~Ih hy
  ·~absurd rfl (S.SM _ (K9 hy))
 ·~V5 (x.above y c (K9 h))
 ·have hi:i<vs.length:=by
   A8 start at h2
   by_cases hi:i<vs.length
   ·~hi
   ·rw[S4 (by simpa using hi)]at h2
    rw[P0]at h2
    split at h2<;>cases h2
  have ha:vs[i]?=some v:=by
   A8 start at h2
   rw[T0 (by simpa using hi),D5]at h2
   cases e:vs[i]? with
   | none=>rw[e]at h2;cases h2
   | some a=>rw[e]at h2;cases h2;rfl
  A7⟨u,hu,rv⟩:=r.get ha
  have hp:ps[i]?=some y:=by
   rw[←S.pre,List.getElem?_take_of_lt A3];~h1
  have ndP:ps.Nodup:=by rw[←S.pre];~S.nd.sublist (List.take_sublist _ _)
  &⟨u,rv,?_⟩
  rcases S.par y (J0 hp)with k | k
  ·~.inl ⟨k,Cv ndP hp hu k⟩
  ·A7⟨c,e⟩:=Ih (n:=s.heap.objs.size+1) k
   &.inr ⟨.inl k,c,e,?_⟩
   have q:=x.cell y c e
   rw[Cw ndP hp hu (by show scope.names.lookup y≠_;rw[k];decide)]at q
   ~q
 ·~e0.hok.fresh (V5 (x.above y c (K9 h)))
 ·A8 start
  show _=N.length
  rw[C6,B3,K2]
  omega
A9 MF{CX:Ku}{P:Program}{w:World}{K:aA}{mg:Str→Option Value}{base:Heap}{k:Nat}{f:Addr}{name qual:Str}{params:Arguments}{body:List Stmt}{scope:Scope}{dV kV doc pm cdv ct oc:Value}{an od:Option Addr}
  {osl:Array (Option Value)} {N ps:List Str} {sp:Sp} (lk:K.lookup f=some ⟨oc,od,.func (G6 name qual params body scope dV kV doc pm an cdv ct),osl⟩) (hcd:N7 K cdv qual=true) (S:bO N ps scope)
  (len:∀vs H Q E,sp vs H Q E→vs.length=ps.length)
  (hbody:∀(A:Around)(outer:List Env)(s:Shared)(H:Hp)(vs:List V)(Q:VK)(E:XK),kI k (A.deeper (envOfC qual scope s.heap.objs.size f cdv))→sp vs H Q E →
   ∃t,Ce (jL CX P w K mg base N qual scope f cdv A outer s H E) body t∧t {nx:=fun _ H'=>Q .non H',rt:=Q} (start N vs) H) :
  uD P w K mg base CX (k+1) f (G6 name qual params body scope dV kV doc pm an cdv ct) ps sp:=by
 &⟨len,fun A outer s H args us vs Q E hr e0 hb r hsp=>?_⟩
 have hl:=len _ _ _ _ hsp
 have KX:K.In s.heap:=e0.mod.il.keeps fun b o e=>(e0.bs b o e).1
 have lim:s.heap.NoLimit:=e0.mod.nolimit.keeps fun b o e=>(e0.bs b o e).1
 have hkind:∀y∈ps.zip us,scope.names.lookup y.1=some .local∨(scope.names.lookup y.1=some .cell∧((cellsFrom (s.heap.objs.size+1) scope.names []).lookup y.1).isSome=true):=fun⟨n,v⟩ hy=>by
  rcases S.par n (U2 hy).1 with q | q
  ·~.inl q
  ·~.inr ⟨q,U3 _ _ _ (.inl q)⟩
 &codeAny_call_function hr.depth (KX _ _ lk) rfl S.co S.gen rfl (PySem.W.codeRec_of KX hcd) (hb _ _ _ _ ?_)
 &wpAny_newFunctionEnv_cells S.kind hkind fun env he s1 x=>?_
 subst he
 &⟨lim.keeps x.toInCall.keep,codeAny_func ?_⟩
 A7⟨t,ht,hq⟩:=hbody A outer s H vs Q E (hr.deeper _) hsp
 have I:Inv (jL CX P w K mg base N qual scope f cdv A outer s H E) [] (start N vs) H s1:=Rp S hr.hd e0 hl r x
 &wpAny_mono (ht [] s1 (start N vs) H _ I hq) (fun fl s' hs=>?_) fun e s' hs=>hs
 have fin:∀{σ':St} {H':Hp} {v:V} {u:Value},Inv (jL CX P w K mg base N qual scope f cdv A outer s H E) [] σ' H' s'→RelV v u→Q v H'→CE outer P w H s Q u s':=
  fun{σ' H' v u} J rv q=>⟨v,H',J.os,J.bare,J.base,J.hok,rv,q⟩
 cases fl with
 | ret u=>
  A7⟨v,σ',H',J,rv,q⟩:=hs
  ~fin J rv q
 | next=>
  A7⟨σ',H',J,q⟩:=hs
  ~fin (v:=V.non) (u:=Value.none) J rfl q
 | brk=>
  A7⟨_,_,_,q⟩:=hs
  ~False.elim q
 | cont=>
  A7⟨_,_,_,q⟩:=hs
  ~False.elim q
end L2
namespace L2
open PySem PySem.Spec PyProof.Rows
section
variable{X:Cx}{x:Str}{p pos:Pos}{e:Expr}{es:List Expr}{t:TA}{id T:String}{r:List V→Hp→VK→Prop}
def Zv(r:List V→Hp→VK→Prop)(t:TA):TE:=fun σ H Q=>t σ H fun vs H1=>r vs H1 Q
A9 pM(hc:iV X (.builtin id) r)(hg:Gl X x)(hm:X.mg x=none)(hv:bootBuiltins x=some (.builtin id))(ha:PA X (e::es) t)(hn:x ≠ "__name__" := by decide) (hdb:(x==("__debug__" : Str))=false:=by decide)
  (he:starEach (e::es) X.env=(false,eval e X.env)::starEach es X.env:=by rfl) (hpl:(backTo pos (starEach es X.env)).any (·.1)=false:=by rfl):PE X (.Call (.Name x p) (e::es) [] pos) (Zv r t):=by
 intro pins s σ H Q I h
 &wpAny_Call_Name_kw (Ep I hg hm hv ?_ hn hdb)
 ~PyProof.Rows.callWith_builtin1 (eY (ha pos pins s σ H _ I h) fun us s1 ⟨vs,H1,I1,r1,q1⟩=>hc pins s1 σ H1 vs us Q I1 r1 q1) he hpl
A9 Rq(hc:iV X (.type T) r)(hg:Gl X x)(hm:X.mg x=none)(hv:bootBuiltins x=some (.type T))(ha:PA X (e::es) t)(hn:x ≠ "__name__" := by decide) (hdb:(x==("__debug__" : Str))=false:=by decide)
  (he:starEach (e::es) X.env=(false,eval e X.env)::starEach es X.env:=by rfl) (hpl:(backTo pos (starEach es X.env)).any (·.1)=false:=by rfl):PE X (.Call (.Name x p) (e::es) [] pos) (Zv r t):=by
 intro pins s σ H Q I h
 &wpAny_Call_Name_kw (Ep I hg hm hv ?_ hn hdb)
 ~S2 (eY (ha pos pins s σ H _ I h) fun us s1 ⟨vs,H1,I1,r1,q1⟩=>hc pins s1 σ H1 vs us Q I1 r1 q1) he hpl
end
end L2
namespace HT
open PySem PyProof.Rows
section
open PySem.SeqAt
open PySem.AutoSeq1 (wpAny_loadPart')
open PySem.MeetsSeq PySem.MeetsSeq2 PySem.MeetsSeq3
end
section
variable{prog:Program}{w:World}{A:Around}{E:Value→Shared→Prop}{s:Shared}
def pJ(n d:Nat):Option Int→Nat
 | none=>d
 | some v=>if v<0 then(v+(n:Int)).toNat else min v.toNat n
A9 Ux(n d:Nat):pJ n d none=d:=rfl
end
end HT
namespace L2
open PySem PySem.Spec PyProof.Rows
abbrev TO:=St→Hp→(Option Int→Hp→Prop)→Prop
def PO(X:Cx)(e:Option Expr)(t:TO):Prop:=
 ∀(pins:List (Addr×Obj))(s:Shared)(σ:St)(H:Hp)(Q:Option Int→Hp→Prop),Inv X pins σ H s→t σ H Q →
  wpAny (model X.prog X.w) X.A (evalPart e X.env) (fun u s'=>∃o H',Inv X pins σ H' s'∧IsPart u o∧Q o H') X.xe s
def Oi:TO:=fun _ H Q=>Q none H
def MJ(t:TE):TO:=fun σ H Q=>t σ H fun x H1=>∃i,x=.int i∧Q (some i) H1
section
variable{X:Cx}{e:Expr}{te:TE}{lo hi:Option Expr}{tl th:TO}{pos p2:Pos}
A9 Zw:PO X none Oi:=by
 intro pins s σ H Q I h
 rw[evalPart_none]
 ~wpAny_pure ⟨none,H,I,.none,h⟩
A9 Zx(h:PE X e te):PO X (some e) (MJ te):=by
 intro pins s σ H Q I hw
 rw[evalPart_some]
 &eY (h pins s σ H _ I hw) fun u s1 ⟨x,H1,I1,r1,q1⟩=>?_
 A7⟨i,rfl,q⟩:=q1
 A7⟨t,rfl⟩:=r1
 ~⟨some i,H1,I1,.int i t,q⟩
def vo(X:Cx)(r:V→Option Int→Option Int→Hp→VK→Prop):Prop:=
 ∀(pins:List (Addr×Obj))(s:Shared)(σ:St)(H:Hp)(x:V)(v vl vu:Value)(lo hi:Option Int)(sl:Addr)(Q:VK),Inv X pins σ H s→RelV x v→s.heap.IsSliceOf sl vl vu .none→IsPart vl lo→IsPart vu hi→r x lo hi H Q →
  ∃T id,typeLookup (.type T) "__getitem__" = pure (some (.builtin id))∧s.TypeIs v T∧wpAny (model X.prog X.w) X.A (getItem v (.ref sl)) (EP X pins σ Q) X.xe s
def yp(r:V→Option Int→Option Int→Hp→VK→Prop)(te:TE)(tl th:TO):TE:=fun σ H Q=>te σ H fun x H1=>tl σ H1 fun l H2=>th σ H2 fun u H3=>r x l u H3 Q
A9 Ii{r:V→Option Int→Option Int→Hp→VK→Prop}(hr:vo X r)(he:PE X e te)(hl:PO X lo tl)(hu:PO X hi th):PE X (.Subscript e (.Slice lo hi none p2) pos) (yp r te tl th):=by
 intro pins s σ H Q I h
 &Subscript_ (eY (he pins s σ H _ I h) fun v s1 ⟨x,H1,I1,r1,q1⟩=>?_)
 &wpAny_Slice (eY (hl pins s1 σ H1 _ I1 q1) fun vl s2 ⟨l,H2,I2,pl,q2⟩=>eY (hu pins s2 σ H2 _ I2 q2) fun vu s3 ⟨u,H3,I3,pu,q3⟩=>?_)
 rw[evalPart_none]
 &wpAny_pure ?_
 have I4:Inv X pins σ H3 {s3 with heap:=s3.heap.push {cls:=.type "slice", data:=.fields #[vl,vu,.none]}}:=I3.kept (t':=s3.toks) fun b ob q=>Heap.get?_push_of_some _ q
 A7⟨T,id,hT,ht,hg⟩:=hr pins {s3 with heap:=s3.heap.push {cls:=.type "slice", data:=.fields #[vl,vu,.none]}} σ H3 x v vl vu l u s3.heap.objs.size Q I4 r1 (Heap.IsSliceOf.new ..) pl pu q3
 show wpAny (model X.prog X.w) X.A (subscriptTail e (.Slice lo hi none p2) v (.ref s3.heap.objs.size)) (EP X pins σ Q) X.xe {s3 with heap:=s3.heap.push {cls:=.type "slice", data:=.fields #[vl,vu,.none]}}
 ~tail_any (ops:=[.ref s3.heap.objs.size,v]) ht hT hg (by with_unfolding_all rfl)
def Lh(xs:List V)(lo hi:Option Int):List V:=(xs.drop (HT.pJ xs.length 0 lo)).take (HT.pJ xs.length xs.length hi-HT.pJ xs.length 0 lo)
A9 Ij(xs:List V)(lo hi:Option Int):(Lh xs lo hi).length≤xs.length:=by
 A8 Lh
 rw[J9,M4]
 omega
end
end L2
namespace L2
open PySem PySem.Spec PyProof.Rows
def Oj(n:Nat)(i:Int):Option Nat:=if 0≤i then(if i<n then some i.toNat else none)else if -(n:Int)≤i then some (i+n).toNat else none
def Ik{α:Type}(xs:List α)(i:Int):Option α:=(Oj xs.length i).bind fun j=>xs[j]?
A9 Ol{n:Nat}{i:Int}{j:Nat}(h:Oj n i=some j):seqIndex? i n=some j∧j<n∧-(n:Int)≤i∧i<n:=by
 A8 Oj at h
 by_cases h0:0≤i
 ·rw[if_pos h0]at h
  by_cases h1:i<n
  ·rw[if_pos h1]at h
   have e:i.toNat=j:=G1 h
   ~⟨by rw[seqIndex_of h0 h1,e],by omega,by omega,h1⟩
  ·rw[if_neg h1]at h;cases h
 ·rw[if_neg h0]at h
  by_cases h1:-(n:Int)≤i
  ·rw[if_pos h1]at h
   have e:(i+n).toNat=j:=G1 h
   ~⟨by rw[seqIndex_neg A3 h1,e],by omega,h1,by omega⟩
  ·rw[if_neg h1]at h;cases h
A9 Eu{α:Type}{xs:List α}{i:Int}{v:α}(h:Ik xs i=some v):∃j,seqIndex? i xs.length=some j∧xs[j]?=some v∧j<xs.length∧-(xs.length:Int)≤i∧i<xs.length:=by
 A8 Ik at h
 cases e:Oj xs.length i with
 | none=>rw[e]at h;cases h
 | some j=>
  rw[e]at h
  A7⟨h1,h2,h3,h4⟩:=Ol e
  ~⟨j,h1,h,h2,h3,h4⟩
A9 Zy{α:Type}{xs:List α}{j:Nat}{v:α}(h:xs[j]?=some v):Ik xs (j:Int)=some v:=by
 have hj:j<xs.length:=(C4.mp h).1
 have e:Oj xs.length (j:Int)=some j:=by
  A8 Oj
  rw[if_pos A3,if_pos A3];simp
 A8 Ik;rw[e];~h
def xR(b:Expr):Prop:=∀o i,subscripted b false o i=operate [o,i] (getItem o i)
def Za(X:Cx)(r:R2):Prop:=
 ∀(value slice:Expr)(pins:List (Addr×Obj))(s:Shared)(σ:St)(H:Hp)(x y:V)(v u:Value)(Q:VK),Inv X pins σ H s→RelV x v→RelV y u→r x y H Q →
  subscripted slice false v u=operate [v,u] (getItem v u)→wpAny (model X.prog X.w) X.A (subscriptTail value slice v u) (EP X pins σ Q) X.xe s
def ji(X:Cx)(id:String)(r:V→List V→Hp→VK→Prop):Prop:=
 ∀(pins:List (Addr×Obj))(s:Shared)(σ:St)(H:Hp)(x:V)(xs:List V)(v:Value)(us:List Value)(Q:VK),Inv X pins σ H s→RelV x v→Vals xs us→r x xs H Q →
  wpAny (model X.prog X.w) X.A (call (.builtin id) (v::us)) (EP X pins σ Q) X.xe s
section
variable{X:Cx}{a b:Expr}{ta tb:TE}{pos:Pos}
A9 Za.or{r r':R2}(h:Za X r)(h':Za X r'):Za X (fun x y H Q=>r x y H Q∨r' x y H Q):=by
 intro value slice pins s σ H x y v u Q I rx ry q hs
 rcases q with q | q
 ·~h value slice pins s σ H x y v u Q I rx ry q hs
 ·~h' value slice pins s σ H x y v u Q I rx ry q hs
A9 Uy{r:R2}(hr:Za X r)(ha:PE X a ta)(hb:PE X b tb)(hs:xR b):PE X (.Subscript a b pos) (Ck r ta tb):=by
 intro pins s σ H Q I h
 ~Subscript_ (RL ha hb I h fun v u s2 x y H2 I2 rx ry q=>hr a b pins s2 σ H2 x y v u Q I2 rx ry q (hs _ _))
def jj(K:aA):R2:=fun x y H Q=>∃p xs i v,x=.ref p∧y=.int i∧mC K H p xs∧Ik xs i=some v∧Q v H
def jk(K:aA):R2:=fun x y H Q=>∃p xs i v,x=.ref p∧y=.int i∧pI K H p xs∧Ik xs i=some v∧Q v H
def SN:R2:=fun x y H Q=>∃z i c,x=.str z∧y=.int i∧z.length≤sizeLine∧Ik z.cps.toList i=some c∧Q (.str ⟨#[c]⟩) H
A9 Zz:Za X (jj X.K):=by
 intro value slice pins s σ H x y v u Q I rx ry h hs
 A7⟨p,xs,i,z,rfl,rfl,hq,he,q⟩:=h
 cases rx
 A7⟨t,rfl⟩:=ry
 A7⟨its,r,pl,hz⟩:=I.list hq
 A7⟨j,h1,h2,h3,h4,h5⟩:=Eu he
 A7⟨w,ew,Li⟩:=r.get h2
 have hl:=r.length
 have hn:=vI
 have fin:EP X pins σ Q w s:=⟨z,H,I,Li,q⟩
 by_cases h0:0≤i
 ·have hj:i.toNat=j:=by
   rw[seqIndex_of h0 h5]at h1
   ~G1 h1
  ~item_listR pl.isList h0 A3 (by rw[hj];simpa using ew) fin hs
 ·have hj:(i+(its.toArray.size:Int)).toNat=j:=by
   rw[seqIndex_neg A3 h4]at h1
   rw[B7,←hl]
   ~G1 h1
  ~subscriptTail_builtinR (x:=w) pl.isList.typeIs slot_list_getitem.lookup
   (wpAny_getItem_list_neg (Q:=fun r s'=>r=w∧EP X pins σ Q r s') pl.isList A3 (by rw[B7]<;>omega) A3 (by rw[hj];simpa using ew) ⟨rfl,fin⟩) hs
A9 SQ:Za X (jk X.K):=by
 intro value slice pins s σ H x y v u Q I rx ry h hs
 A7⟨p,xs,i,z,rfl,rfl,hq,he,q⟩:=h
 cases rx
 A7⟨t,rfl⟩:=ry
 A7⟨its,r,pl,hz⟩:=I.tuple hq
 A7⟨j,h1,h2,h3,h4,h5⟩:=Eu he
 A7⟨w,ew,Li⟩:=r.get h2
 have hl:=r.length
 have hn:=vI
 have fin:EP X pins σ Q w s:=⟨z,H,I,Li,q⟩
 ~subscriptTail_builtinR (x:=w) pl.typeIs slot_tuple_getitem.lookup
  (getItem_tuple (j:=j) (Q:=fun r s'=>r=w∧EP X pins σ Q r s') pl A3 A3 (by rw[B7,←hl];~h1) (by simpa using ew) ⟨rfl,fin⟩) hs
A9 Uz:Za X SN:=by
 intro value slice pins s σ H x y v u Q I rx ry h hs
 A7⟨z,i,c,rfl,rfl,hz,he,q⟩:=h
 A7⟨t,rfl⟩:=rx
 A7⟨t',rfl⟩:=ry
 A7⟨j,h1,h2,h3,h4,h5⟩:=Eu he
 have hl:z.cps.toList.length=z.length:=by simp[Str.length]
 rw[hl]at h1 h4 h5
 have hn:=vI
 ~tail_any (typeIs_str s z t) slot_str_getitem.lookup (getItem_str (c:=c) (by
  have e1:decide (i < -(2 ^ 63:Int))=false:=decide_eq_false A3
  have e2:decide (i≥2 ^ 63)=false:=decide_eq_false A3
  rw[e1,e2,Bool.or_false]) (by rw[h1];simpa using h2) ⟨.str ⟨#[c]⟩,H,I.tok _,⟨_,rfl⟩,q⟩) hs
def vp(K:aA):R2:=fun x y H Q=>jj K x y H Q∨jk K x y H Q∨SN x y H Q
A9 SX:Za X (vp X.K):=Zz.or (SQ.or Uz)
A9 Lj(its:List Value)(n j:Nat)(u:Value):Obj.mapSeq (·.setIfInBounds j u) {cls:=.type "list", data:=.seq its.toArray n}={cls:=.type "list", data:=.seq (its.set j u).toArray n}:=by
 simp[Obj.mapSeq]
A9 Inv.lst{pins:List (Addr×Obj)}{σ:St}{H:Hp}{s:Shared}{p:Addr}{xs:List V}(I:Inv X pins σ H s)(h:H p=some (.lst xs)) :
  ∃(its:List Value)(n:Nat),Vals xs its∧s.heap.get? p=some {cls:=.type "list", data:=.seq its.toArray n}∧xs.length≤sizeLine:=by
 A7⟨z,its,n,r,e⟩:=I.hok p _ h
 ~⟨its,n,r,e,z⟩
A9 Inv.TF{pins:List (Addr×Obj)}{σ:St}{H:Hp}{s:Shared}{p:Addr}{xs ys:List V}{its its':List Value}{n n':Nat}{f:Obj→Obj}(I:Inv X pins σ H s)(h:H p=some (.lst xs))
  (ho:s.heap.get? p=some {cls:=.type "list", data:=.seq its.toArray n}) (hf:f {cls:=.type "list", data:=.seq its.toArray n}={cls:=.type "list", data:=.seq its'.toArray n'}) (r:Vals ys its') (hz:ys.length≤sizeLine) (t:Nat) :
  Inv X pins σ (upd H p (.lst ys)) {s with heap:=s.heap.update p f,toks:=t}:=by
 have e:(s.heap.update p f).get? p=some {cls:=.type "list", data:=.seq its'.toArray n'}:=by
  rw[Heap.get?_update_self f ho (by rw[hf]<;>rfl),hf]
 &I.write (x:=p) (e:=p) (by rw[h];trivial) (.inl rfl) (fun b u hb q=>(Heap.get?_update_other _ _ (Ne.symm hb)).trans q) ⟨_,e⟩ ?_
 ~⟨hz,its',n',r,e⟩
def Om:V→V→V→Hp→(Hp→Prop)→Prop:=fun o i v H Q=>∃p xs k j,o=.ref p∧i=.int k∧H p=some (.lst xs)∧Oj xs.length k=some j∧Q (upd H p (.lst (xs.set j v)))
A9 set_list:jb X Om:=by
 intro pins s σ H o i v ov iv u Q I ro ri rv h
 A7⟨p,xs,k,j,rfl,rfl,hp,hj,q⟩:=h
 cases ro
 A7⟨t,rfl⟩:=ri
 A7⟨its,n,r,ho,hz⟩:=I.lst hp
 A7⟨h1,h2,h3,h4⟩:=Ol hj
 have hl:=r.length
 have hn:=vI
 have I':Inv X pins σ (upd H p (.lst (xs.set j v))) {s with heap:=s.heap.update p (Obj.mapSeq (·.setIfInBounds j u))}:=
  I.TF hp ho (Lj its n j u) (r.set rv j) (by rw[O3];~hz) s.toks
 by_cases h0:0≤k
 ·have hk:k.toNat=j:=by
   rw[seqIndex_of h0 h4]at h1
   ~G1 h1
  ~PySem.W.ki_setAt ho h0 A3 (by rw[B7,←hl];~h4) (by rw[hk];~⟨_,I',q⟩)
 ·have hk:(k+(its.toArray.size:Int)).toNat=j:=by
   rw[seqIndex_neg A3 h3]at h1
   rw[B7,←hl]
   ~G1 h1
  ~PySem.W.ki_setBack ho A3 (by rw[B7,←hl];~h3) A3 (by rw[hk];~⟨_,I',q⟩)
A9 Ew(lo hi:Option Int)(n:Nat):(sliceBounds lo hi none n).1=((HT.pJ n 0 lo:Nat):Int)∧(sliceBounds lo hi none n).2.1=((HT.pJ n n hi:Nat):Int)∧(sliceBounds lo hi none n).2.2=1:=by
 &⟨?_,?_,rfl⟩
 ·cases lo with
  | none=>simp[sliceBounds,HT.pJ]
  | some i=>
   simp only[sliceBounds,HT.pJ,X1,show (1:Int) > 0 by decide,if_true]
   by_cases h:i<0
   ·simp only[h,if_true]<;>omega
   ·simp only[h,if_false]<;>omega
 ·cases hi with
  | none=>simp[sliceBounds,HT.pJ]
  | some i=>
   simp only[sliceBounds,HT.pJ,X1,show (1:Int) > 0 by decide,if_true]
   by_cases h:i<0
   ·simp only[h,if_true]<;>omega
   ·simp only[h,if_false]<;>omega
A9 Bj(its:List Value)(lo hi:Option Int):slicePick its.toArray lo hi none=((its.drop (HT.pJ its.length 0 lo)).take (HT.pJ its.length its.length hi-HT.pJ its.length 0 lo)).toArray:=by
 A7⟨h1,h2,h3⟩:=Ew lo hi its.toArray.size
 A8 slicePick
 rw[h1,h2,h3]
 simp only[sliceRange_one,pick_run,B7]<;>rfl
def TJ(K:aA):V→Option Int→Option Int→Hp→VK→Prop:=fun x lo hi H Q=>∃a xs,x=.ref a∧mC K H a xs∧∀p,H p=none→Q (.ref p) (upd H p (.lst (Lh xs lo hi)))
A9 BJ:vo X (TJ X.K):=by
 intro pins s σ H x v vl vu lo hi sl Q I rx hs pl pu h
 A7⟨a,xs,rfl,hx,q⟩:=h
 cases rx
 A7⟨its,r,ht,hz⟩:=I.list hx
 have hlen:=r.length
 &⟨"list", _,slot_list_getitem.lookup,ht.isList.typeIs,?_⟩
 &wpAny_getItem_list_slice ht.isList hs pl pu .none (by simp) ?_ (by rw[B7]<;>omega)
 rw[Bj,←hlen]
 &⟨.ref s.heap.objs.size,_,I.laid (t':=s.toks) (o:=.lst (Lh xs lo hi)) (fun b ob q=>Heap.get?_push_of_some _ q) (D2 _) ?_,rfl,q _ (I.hok.fresh (D2 _))⟩
 ~⟨F0 (Ij xs lo hi) hz,_,0,(r.drop (HT.pJ xs.length 0 lo)).take (HT.pJ xs.length xs.length hi-HT.pJ xs.length 0 lo),Heap.get?_push_size _ rfl⟩
def pN:V→Bool
 | .non=>true
 | .bl _=>true
 | .int _=>true
 | .str _=>true
 | _=>false
def MK:V→V→Bool
 | .non,.non=>true
 | .bl a,.bl b=>a==b
 | .bl a,.int b=>(if a then 1 else 0)==b
 | .int a,.bl b=>a==(if b then 1 else 0)
 | .int a,.int b=>a==b
 | .str a,.str b=>a==b
 | _,_=>false
A9 TQ{A:Around}{s:Shared}{y x:V}{u v:Value}(ry:RelV y u)(rx:RelV x v)(fy:pN y=true)(fx:pN x=true):SeqAt.EqAt A s u v (MK y x):=by
 cases y with
 | non=>
  cases ry
  cases x with
  | non=>cases rx;~SeqAt.EqAt.same _
  | bl b=>cases rx;~SeqAt.EqAt.none_bool b
  | int b=>A7⟨t,rfl⟩:=rx;~SeqAt.EqAt.none_int b t
  | str b=>A7⟨t,rfl⟩:=rx;~SeqAt.EqAt.none_str b t
  | _=>~absurd (show false=true from fx) B8
 | bl a=>
  cases ry
  cases x with
  | non=>cases rx;~SeqAt.EqAt.bool_none a
  | bl b=>cases rx;~SeqAt.EqAt.bool_bool a b
  | int b=>A7⟨t,rfl⟩:=rx;~SeqAt.EqAt.bool_int a b t
  | str b=>A7⟨t,rfl⟩:=rx;~SeqAt.EqAt.bool_str a b t
  | _=>~absurd (show false=true from fx) B8
 | int a=>
  A7⟨t',rfl⟩:=ry
  cases x with
  | non=>cases rx;~SeqAt.EqAt.int_none a t'
  | bl b=>cases rx;~SeqAt.EqAt.int_bool a t' b
  | int b=>A7⟨t,rfl⟩:=rx;~SeqAt.EqAt.int_int a t' b t
  | str b=>A7⟨t,rfl⟩:=rx;~SeqAt.EqAt.int_str a t' b t
  | _=>~absurd (show false=true from fx) B8
 | str a=>
  A7⟨t',rfl⟩:=ry
  cases x with
  | non=>cases rx;~SeqAt.EqAt.str_none a t'
  | bl b=>cases rx;~SeqAt.EqAt.str_bool a t' b
  | int b=>A7⟨t,rfl⟩:=rx;~SeqAt.EqAt.str_int a t' b t
  | str b=>A7⟨t,rfl⟩:=rx;~SeqAt.EqAt.str_str a t' b t
  | _=>~absurd (show false=true from fx) B8
 | _=>~absurd (show false=true from fy) B8
def BK(x:V)(u:Value):Bool:=match u with
 | .none=>MK .non x
 | .bool b=>MK (.bl b) x
 | .int i _=>MK (.int i) x
 | .str z _=>MK (.str z) x
 | _=>false
A9 Va{x y:V}{u:Value}(r:RelV y u)(f:pN y=true):BK x u=MK y x:=by
 cases y with
 | non=>cases r;rfl
 | bl b=>cases r;rfl
 | int i=>A7⟨t,rfl⟩:=r;rfl
 | str z=>A7⟨t,rfl⟩:=r;rfl
 | _=>~absurd (show false=true from f) B8
A9 Ey{x:V}:∀{xs:List V} {us:List Value},Vals xs us→xs.all pN=true→us.any (BK x)=xs.any fun y=>MK y x
 | _,_,.nil,_=>rfl
 | y::xs,u::us,.cons r t,f=>by
  rw[K3,B4]at f
  rw[Q1,Q1,Va r f.1,Ey t f.2]
A9 yN{A:Around}{s:Shared}{x:V}{v:Value}(rx:RelV x v)(fx:pN x=true):∀{xs:List V} {us:List Value},Vals xs us→xs.all pN=true→∀u∈us,SeqAt.EqAt A s u v (BK x u)
 | _,_,.nil,_=>fun u hu=>by cases hu
 | y::xs,u::us,.cons r t,f=>fun u' hu=>by
  rw[K3,B4]at f
  rcases G2.mp hu with rfl | hu
  ·rw[Va r f.1];~TQ r rx f.1 fx
  ·~yN rx fx t f.2 u' hu
def inV(x:V)(xs:List V):Bool:=xs.any fun y=>MK y x
def yq(K:aA)(neg:Bool):R2:=fun x y H Q=>∃p xs,y=.ref p∧(mC K H p xs∨pI K H p xs)∧pN x=true∧xs.all pN=true∧Q (.bl (if neg then !inV x xs else inV x xs)) H
A9 Rr:lQ X (compareOp .In) (yq X.K false):=by
 intro pins s σ H x y v u Q I rx ry h
 A7⟨p,xs,rfl,hq,fx,fs,q⟩:=h
 cases ry
 rcases hq with hq | hq
 ·A7⟨its,r,pl,hz⟩:=I.list hq
  &SeqAt.in_listAt (BK x) pl.isList (fun w hw=>yN rx fx r fs w (by simpa using hw)) ⟨.bl _,H,I,rfl,?_⟩
  rw[show its.toArray.any (BK x)=its.any (BK x) by simp,Ey r fs]
  ~q
 ·A7⟨its,r,pl,hz⟩:=I.tuple hq
  &SeqAt.in_tupleAt (BK x) pl (fun w hw=>yN rx fx r fs w (by simpa using hw)) ⟨.bl _,H,I,rfl,?_⟩
  rw[show its.toArray.any (BK x)=its.any (BK x) by simp,Ey r fs]
  ~q
A9 Ez:iV X (.builtin "len") (fun xs H Q=>∃p ys,xs=[.ref p]∧(mC X.K H p ys∨pI X.K H p ys)∧Q (.int ys.length) H):=by
 intro pins s σ H xs us Q I r h
 A7⟨p,ys,rfl,hq,q⟩:=h
 A7⟨u,rfl,rx⟩:=vals1 r
 cases rx
 have hn:=vI
 rcases hq with hq | hq
 ·A7⟨its,r',pl,hz⟩:=I.list hq
  have hlen:=r'.length
  ~Calls.call_len_list pl.isList (by simp only[B7]<;>omega) ⟨.int ys.length,H,I.tok _,⟨s.toks+1,by rw[B7,hlen]⟩,q⟩
 ·A7⟨its,r',pl,hz⟩:=I.tuple hq
  have hlen:=r'.length
  ~len_tuple pl (by simp only[B7]<;>omega) ⟨.int ys.length,H,I.tok _,⟨s.toks+1,by rw[B7,hlen]⟩,q⟩
A9 lG:iV X (.builtin "len") (fun xs H Q=>∃z,xs=[.str z]∧z.length≤sizeLine∧Q (.int z.length) H):=by
 intro pins s σ H xs us Q I r h
 A7⟨z,rfl,hz,q⟩:=h
 A7⟨u,rfl,t,rfl⟩:=vals1 r
 have hn:=vI
 ~len_str A3 ⟨.int z.length,H,I.tok _,⟨_,rfl⟩,q⟩
A9 Bk:iV X (.type "tuple") (fun xs H Q=>∃p ys,xs=[.ref p]∧((mC X.K H p ys∧∀l,H l=none→Q (.ref l) (upd H l (.tup ys)))∨(pI X.K H p ys∧Q (.ref p) H))):=by
 intro pins s σ H xs us Q I r h
 A7⟨p,ys,rfl,h⟩:=h
 A7⟨u,rfl,rx⟩:=vals1 r
 cases rx
 rcases h with ⟨hq,q⟩ | ⟨hq,q⟩
 ·A7⟨its,r',pl,hz⟩:=I.list hq
  have hlen:=r'.length
  &call_tuple_list pl.isList (fun h' kp=>?_) (by simp only[B7]<;>omega)
  have I1:Inv X pins σ H {s with heap:=h'}:=I.kept (t':=s.toks) kp
  have I2:Inv X pins σ (upd H h'.objs.size (.tup ys)) {s with heap:=h'.push {cls:=.type "tuple", data:=.seq its.toArray}}:=
   I1.laid (t':=s.toks) (fun b o e=>Heap.get?_push_of_some _ e) (D2 _) (show gY X.prog X.w _ _ _ (.tup ys)from⟨hz,its,r',IsTup.new _ _⟩)
  ~⟨.ref h'.objs.size,_,I2,rfl,q _ (I1.hok.fresh (D2 _))⟩
 ·A7⟨its,r',pl,hz⟩:=I.tuple hq
  ~call_tuple_same pl ⟨.ref p,H,I,rfl,q⟩
def tyV(K:aA)(T:String)(x:V)(H:Hp):Prop:=match x with
 | .str _=>T = "str"
 | .int _=>T = "int"
 | .ref p=>(T = "list" ∧ ∃xs,mC K H p xs)∨(T = "tuple" ∧ ∃o,K.lookup p=some o∧o.cls=.type "tuple" ∧ o.dict=none) ∨
   (T = "dict" ∧ ((∃kvs,H p=some (.dK kvs))∨∃kvs,H p=some (.dT kvs)))∨(T = "set" ∧ ∃S n,H p=some (.set S n))
 | _=>False
A9 TV{pins:List (Addr×Obj)}{σ:St}{H:Hp}{s:Shared}{T:String}{x:V}{v:Value}(I:Inv X pins σ H s)(r:RelV x v)(ty:tyV X.K T x H) :
  s.TypeIs v T∧∀a,v=.ref a→∃ob,s.heap.get? a=some ob∧ob.dict=none:=by
 cases x with
 | str z=>
  A7⟨t,rfl⟩:=r
  cases(show T = "str" from ty)
  ~⟨typeIs_str s z t,fun _ e=>nomatch e⟩
 | int i=>
  A7⟨t,rfl⟩:=r
  cases(show T = "int" from ty)
  ~⟨typeIs_int s i t,fun _ e=>nomatch e⟩
 | ref p=>
  cases r
  rcases ty with ⟨rfl,xs,hq⟩ | ⟨rfl,o,hk,hc,hd⟩ | ⟨rfl,hk⟩ | ⟨rfl,S,n,hk⟩
  ·A7⟨its,_,pl,_⟩:=I.list hq
   &⟨pl.isList.typeIs,fun a e=>?_⟩
   cases e
   A7⟨o,n,e,c,hd,_⟩:=pl
   ~⟨o,e,hd⟩
  ·&⟨⟨o,I.uA p o hk,hc⟩,fun a e=>?_⟩
   cases e
   ~⟨o,I.uA _ o hk,hd⟩
  ·have z:∃o,s.heap.get? p=some o∧o.ExactDict:=by
    rcases hk with ⟨kvs,hk⟩ | ⟨kvs,hk⟩
    ·A7⟨_,_,_,_,o,_,_,e,ex,_⟩:=I.hok p _ hk
     ~⟨o,e,ex⟩
    ·A7⟨_,_,_,_,o,_,_,e,ex,_⟩:=I.hok p _ hk
     ~⟨o,e,ex⟩
   A7⟨o,e,ex⟩:=z
   &⟨⟨o,e,ex.1⟩,fun a e2=>?_⟩
   cases e2
   ~⟨o,e,ex.2.1⟩
  ·A7⟨o,_,_,_,e,ex,_⟩:=I.hok p _ hk
   &⟨⟨o,e,ex.1⟩,fun a e2=>?_⟩
   cases e2
   ~⟨o,e,ex.2.1⟩
 | _=>~False.elim ty
def Bl(K:aA)(T:String)(r:V→List V→Hp→VK→Prop)(to:TE)(t:TA):TE:=fun σ H Q=>to σ H fun x H1=>tyV K T x H1∧t σ H1 fun xs H2=>r x xs H2 Q
variable{o e:Expr}{es:List Expr}{to:TE}{t:TA}{name:Str}{apos cpos:Pos}{T id:String}{r:V→List V→Hp→VK→Prop}
A9 gD(pa:PlainAttrs T)(slot:Slot T name id)(hty:typeOf (.builtin id)=pure (.type "method_descriptor")) (hm:ji X id r) (ho:PE X o to) (ha:PA X (e::es) t)
  (hbase:attributeBase o name X.env (eval o X.env)=eval o X.env:=by rfl)
  (hfew:((backTo cpos (starEach (e::es) X.env)).all (fun x=>!x.1)&&(backToKw cpos (keywordEach [] X.env)).all (fun x=>x.1.isSome)
   && decide ((e::es).length+([]:List Keyword).length+(if([]:List Keyword).isEmpty then 0 else 1)<30))=true:=by rfl)
  (hline:(apos.endLine==cpos.line)=true:=by rfl) (hs:starEach (e::es) X.env=(false,eval e X.env)::starEach es X.env:=by rfl) (hplain:(backTo cpos (starEach es X.env)).any (·.1)=false:=by rfl) :
  PE X (.Call (.Attribute o name apos) (e::es) [] cpos) (Bl X.K T r to t):=by
 intro pins s σ H Q I h
 &wpAny_Call_method_late hbase hfew hline rfl (eY (ho pins s σ H _ I h) fun v s1 ⟨x,H1,I1,r1,ty,q1⟩=>?_)
 A7⟨h1,h2⟩:=TV I1 r1 ty
 &⟨T,id,pa,slot,hty,h1,h2,?_⟩
 have hA:=ha cpos pins s1 σ H1 _ I1 q1
 rw[hs]at hA ⊢
 &Calls.callWith_builtin (by show (false||(backTo cpos (starEach es X.env)).any (·.1))=false;rw[hplain]<;>rfl) (Calls.evalArgs_plain ?_)
 ~eY hA fun us s2 ⟨vs,H2,I2,r2,q2⟩=>hm pins s2 σ H2 x vs v us Q I2 r1 r2 q2
end
end L2
namespace L2
open PySem PySem.Spec PyProof.Rows
def yr(X:Cx)(id:String)(r:V→List V→Hp→VK→Prop):Prop:=
 ∀(pins:List (Addr×Obj))(s:Shared)(σ:St)(H:Hp)(x:V)(xs:List V)(v:Value)(us:List Value)(Q:VK),Inv X pins σ H s→RelV x v→Vals xs us→r x xs H Q →
  wpAny (model X.prog X.w) X.A (call (.builtin id) (v::us)) (EP X pins σ Q) X.xe s
A9 Vals.one:∀{x:V} {us:List Value},Vals [x] us→∃u,us=[u]∧RelV x u
 | _,_,.cons r .nil=>⟨_,rfl,r⟩
A9 Vals.two:∀{x y:V} {us:List Value},Vals [x,y] us→∃u v,us=[u,v]∧RelV x u∧RelV y v
 | _,_,_,.cons r (.cons q .nil)=>⟨_,_,rfl,r,q⟩
A9 Vals.eraseIdx:∀{xs:List V} {us:List Value} (i:Nat),Vals xs us→Vals (xs.eraseIdx i) (us.eraseIdx i)
 | _,_,_,.nil=>.nil
 | _,_,0,.cons _ t=>t
 | _,_,i+1,.cons r t=>.cons r (Vals.eraseIdx i t)
A9 Vals.rep{xs:List V}{us:List Value}(h:Vals xs us):∀k:Nat,Vals (B9 k xs).flatten (B9 k us).flatten
 | 0=>.nil
 | k+1=>by
  rw[G9,G9,M3,M3]
  ~Vals.append h (Vals.rep h k)
A9 Cy{α:Type}:∀(l:List α)(i:Nat),(l.eraseIdx i).length≤l.length
 | [],_=>D2 _
 | _::_,0=>P6 _
 | _::r,i+1=>Nat.succ_le_succ (Cy r i)
A9 foldl_rep(its:List Value):∀(k:Nat)(acc:List Value),
  X9 (fun x1 x2=>x1++x2) acc.toArray (B9 k its.toArray)=(acc++(B9 k its).flatten).toArray
 | 0,acc=>by simp
 | k+1,acc=>by
  have e:acc.toArray++its.toArray=(acc++its).toArray:=by simp
  have e2:(acc++its)++(B9 k its).flatten=acc++(B9 (k+1) its).flatten:=by
   rw[G9,M3,W6]
  rw[←e2,←foldl_rep its k (acc++its),←e,G9,Y0]
section
variable{X:Cx}{pins:List (Addr×Obj)}{σ:St}{H:Hp}{s:Shared}{l b:Addr}{xs ys zs:List V}
A9 Inv.TX{its its':List Value}{n:Nat}{f:Array Value→Array Value}{t':Nat}(I:Inv X pins σ H s)(hH:H l=some (.lst xs))
  (e:s.heap.get? l=some {cls:=.type "list", data:=.seq its.toArray n}) (hf:f its.toArray=its'.toArray) (hv:Vals ys its') (hz:ys.length≤sizeLine) :
  Inv X pins σ (upd H l (.lst ys)) {s with heap:=s.heap.update l (Obj.mapSeq f),toks:=t'}:=by
 have q:=PySem.IsL.update e f
 rw[hf]at q
 &I.write (x:=l) (e:=l) (by rw[hH];~trivial) (.inl rfl) (fun b' u hb hu=>(Heap.get?_update_other s.heap (Obj.mapSeq f) (Ne.symm hb)).trans hu) ⟨_,q⟩ ?_
 ~⟨hz,its',_,hv,q⟩
A9 Inv.Ru{its:List Value}{t':Nat}(I:Inv X pins σ H s)(hv:Vals ys its)(hz:ys.length≤sizeLine) :
  Inv X pins σ (upd H s.heap.objs.size (.lst ys)) {s with heap:=s.heap.push {cls:=.type "list", data:=.seq its.toArray},toks:=t'}:=
 I.laid (fun _ _ q=>Heap.get?_push_of_some _ q) (D2 _) ⟨hz,its,0,hv,Heap.get?_push_size _ rfl⟩
A9 Inv.fresh(I:Inv X pins σ H s):H s.heap.objs.size=none:=I.hok.fresh (D2 _)
A9 Inv.BL(I:Inv X pins σ H s)(hH:H l=some (.lst xs)):xs.length≤sizeLine∧∃(its:List Value)(n:Nat),Vals xs its∧xs.length=its.length∧s.heap.get? l=some {cls:=.type "list", data:=.seq its.toArray n}:=by
 A7⟨z,its,n,r,e⟩:=I.hok l _ hH
 ~⟨z,its,n,r,r.length,e⟩
A9 Vb{n:Nat}(h:n≤sizeLine):Builtin.List.listTooLong n=false:=by
 A8 Builtin.List.listTooLong
 ~decide_eq_false A3
end
section
variable{X:Cx}
def oO:V→List V→Hp→VK→Prop:=fun x vs H Q=>∃l xs y,x=.ref l∧vs=[y]∧H l=some (.lst xs)∧xs.length<sizeLine∧Q .non (upd H l (.lst (xs++[y])))
A9 jM:yr X "list.append" oO:=by
 intro pins s σ H x vs v us Q I rx rv h
 A7⟨l,xs,y,rfl,rfl,hH,hz,q⟩:=h
 cases rx
 A7⟨u,rfl,ru⟩:=rv.one
 A7⟨z,its,n,r,hl,e⟩:=I.BL hH
 &call_meets F.slot_list_append ⟨_,e,rfl⟩ F.entry_list_append (F.args_list_append_2 _ _) (PySem.list_append l its.toArray n u (by rw[B7];omega)) ⟨e,?_⟩
 &⟨.non,_,I.TX (its':=its++[u]) hH e (by simp) (r.append (.cons ru .nil)) ?_,rfl,q⟩
 rw[C6,D8]
 omega
def Fb:V→List V→Hp→VK→Prop:=fun x vs H Q=>∃l xs i k y,x=.ref l∧vs=[.int i]∧H l=some (.lst xs)∧-(2 ^ 63)≤i∧i<2 ^ 63∧seqIndex? i xs.length=some k∧xs[k]?=some y∧Q y (upd H l (.lst (xs.eraseIdx k)))
A9 Vc:yr X "list.pop" Fb:=by
 intro pins s σ H x vs v us Q I rx rv h
 A7⟨l,xs,i,k,y,rfl,rfl,hH,h1,h2,hk,hy,q⟩:=h
 cases rx
 A7⟨u,rfl,ru⟩:=rv.one
 A7⟨t,rfl⟩:=ru
 A7⟨z,its,n,r,hl,e⟩:=I.BL hH
 A7⟨w,hw,Li⟩:=r.get hy
 &call_meets F.slot_list_pop ⟨_,e,rfl⟩ F.entry_list_pop (F.args_list_pop_2 _ _)
  (MeetsSeq.list_pop_at l its.toArray n i t k w (fitsIndex_both h1 h2) (by rw[B7,←hl];~hk) (by rw[←U7];~hw) (by rw[B7];omega)) ⟨e,?_⟩
 &⟨y,_,I.TX (its':=its.eraseIdx k) hH e ?_ (r.eraseIdx k) ?_,Li,q⟩
 ·show its.toArray.eraseIdxIfInBounds k=(its.eraseIdx k).toArray
  rw[List.eraseIdxIfInBounds_toArray]
 ·have:=Cy xs k
  omega
def jl:R2:=fun x y H Q=>∃l k xs,x=.ref l∧y=.int k∧H l=some (.lst xs)∧-(2 ^ 63)≤k∧k<2 ^ 63∧xs.length*k.toNat≤sizeLine ∧
 ∀p,H p=none→Q (.ref p) (upd H p (.lst (B9 k.toNat xs).flatten))
A9 len_rep{α:Type}(xs:List α)(k:Nat):(B9 k xs).flatten.length=k*xs.length:=by
 induction k with
 | zero=>simp
 | succ k ih=>rw[G9,M3,C6,ih,Nat.succ_mul,Nat.add_comm]
A9 TY:lQ X (binaryOp .Mult) jl:=by
 intro pins s σ H x y v u Q I rx ry h
 A7⟨l,k,xs,rfl,rfl,hH,h1,h2,hz,q⟩:=h
 cases rx
 A7⟨t,rfl⟩:=ry
 A7⟨z,its,n,r,hl,e⟩:=I.BL hH
 have hlen:its.toArray.size*k.toNat≤sizeLine:=by rw[B7,←hl];~hz
 have yu:¬its.toArray.size*k.toNat > (2 ^ 63-1)/8:=by
  have:(sizeLine:Nat)≤(2 ^ 63-1)/8:=by decide
  omega
 have hfit:¬(!Builtin.List.listFitsIndex k)=true:=by
  rw[fitsIndex_both h1 h2]
  ~B8
 have jm:¬Builtin.List.listTooLong (its.toArray.size*k.toNat)=true:=by
  rw[Vb hlen]
  ~B8
 have hnew:X9 (fun x1 x2=>x1++x2) #[] (B9 (if its.toArray.isEmpty=true then 0 else k.toNat) its.toArray)=(B9 k.toNat its).flatten.toArray:=by
  have f0:∀m:Nat,X9 (fun x1 x2=>x1++x2) #[] (B9 m its.toArray)=(B9 m its).flatten.toArray:=fun m=>by
   have:=foldl_rep its m []
   rw[O4]at this
   ~this
  rw[f0]
  cases its with
  | nil=>simp
  | cons a r'=>rw[if_neg (by simp)]
 &wpAny_binaryOp_repeat_ref (T := "list") (U := "int") A5 ⟨_,e,rfl⟩ (fun s'=>typeIs_int s' k t) noFill_list_mul F.fills_int_mul F.slot_int_rmul repeat_list F.slot_int_index.lookup
  (call_meets F.slot_int_rmul (typeIs_int s k t) F.entry_int_rmul (F.args_int_rmul_2 _ _) (int___rmul___int_list k t l its.toArray n)
   ⟨e,rfl,⟨_,e,rfl⟩,call_meets F.slot_list_mul ⟨_,e,rfl⟩ F.entry_list_mul (F.args_list_mul_2 _ _) (AutoListH.list___mul___list_int_3 l its.toArray n k t hfit yu jm) ⟨e,?_⟩⟩)
 rw[hnew]
 ~⟨.ref _,_,I.Ru (t':=s.toks) (r.rep k.toNat) (by rw[len_rep,Nat.mul_comm];~hz),rfl,q _ I.fresh⟩
end
section
variable{prog:Program}{w:World}{A:Around}{E:Value→Shared→Prop}{s:Shared}
end
section
variable{X:Cx}
end
end L2
namespace L2
open PySem PySem.Spec PyProof.Rows
section
variable{κ:Type} [DecidableEq κ]
def Rw(kvs:List (κ×V))(k:κ):Option V:=(kvs.find? fun kv=>decide (kv.1=k)).map (·.2)
def putK(kvs:List (κ×V))(k:κ)(v:V):List (κ×V):=
 if(kvs.any fun kv=>decide (kv.1=k))=true then kvs.map (fun kv=>if kv.1=k then(kv.1,v)else kv)else kvs++[(k,v)]
def aAz(kvs:List (κ×V))(k:κ):List (κ×V):=kvs.filter fun kv=>decide (kv.1≠k)
end
abbrev KT(H:Hp):List (List Key×V)→List (List Key×Addr×Value)→Prop:=Paired fun p q=>p.1=q.1∧H q.2.1=some (.tup (p.1.map kV))∧RelV p.2 q.2.2
section
variable{P:Program}{w:World}{H:Hp}{h:Heap}{a:Addr}
A9 jo{u:HO}(ok:rQ P w H h)(e:Rd H a u):gY P w H h a u:=e.ok ok
A9 jq{kvs:List (Key×V)}(ok:rQ P w H h)(e:Rd H a (.dK kvs)):kvs.length≤sizeLine∧(a==sysModules)=false∧∃vs,KV kvs vs∧h.DictOf (El P w) a vs:=
 show gY P w H h a (.dK kvs)from jo ok e
end
def aAQ(H:Hp)(a:Addr)(y:V)(r:Option V):Prop:=
 (∃kvs k,Rd H a (.dK kvs)∧y=kV k∧r=Rw kvs k)∨∃kvs k b,Rd H a (.dT kvs)∧y=.ref b∧H b=some (.tup (k.map kV))∧r=Rw kvs k
def aAR(H:Hp)(a:Addr)(y v:V)(H':Hp):Prop:=
 (∃kvs k,H a=some (.dK kvs)∧y=kV k∧kvs.length<sizeLine∧H'=upd H a (.dK (putK kvs k v))) ∨
 ∃kvs k b,H a=some (.dT kvs)∧y=.ref b∧H b=some (.tup (k.map kV))∧kvs.length<sizeLine∧H'=upd H a (.dT (putK kvs k v))
section
variable{X:Cx}{pins:List (Addr×Obj)}{σ:St}{H:Hp}{s:Shared}{a:Addr}{y v:V}{u r:Value}{o:Option V}{A:Around}{E:Value→Shared→Prop}
end
section
variable{X:Cx}{pins:List (Addr×Obj)}{σ:St}{H:Hp}{s:Shared}{a:Addr}{kvs:List (Key×V)}{k:Key}{u:Value}{A:Around}{E:Value→Shared→Prop}
end
section
variable{X:Cx}{o i e value:Expr}{pos pos' tpos:Pos}{td ty tv:TE}
end
section
variable{X:Cx}{pos:Pos}
end
def Lk:List (TE×TE)→St→Hp→(List (V×V)→Hp→Prop)→Prop
 | [],_,H,Q=>Q [] H
 | (tk,tv)::r,σ,H,Q=>tk σ H fun x H1=>tv σ H1 fun y H2=>Lk r σ H2 fun ps H3=>Q ((x,y)::ps) H3
abbrev VV:List (V×V)→List (Value×Value)→Prop:=Paired fun p q=>RelV p.1 q.1∧RelV p.2 q.2
def PPs(X:Cx)(pos:Pos)(keys:List (Option Expr))(values:List Expr)(trs:List (TE×TE)):Prop:=
 ∀(pins:List (Addr×Obj))(s:Shared)(σ:St)(H:Hp)(Q:List (V×V)→Hp→Prop),Inv X pins σ H s→Lk trs σ H Q →
  wpAny (model X.prog X.w) X.A (evalPairs (pairTrees keys values X.env pos)) (fun vs s'=>∃ps H',Inv X pins σ H' s'∧VV ps vs∧Q ps H') X.xe s
structure M1(X:Cx)(o:Expr)(m:Str)(apos:Pos)(e:Expr)(cpos:Pos):Prop where
 base:attributeBase o m X.env (eval o X.env)=eval o X.env
 few:((backTo cpos (starEach [e] X.env)).all (fun x=>!x.1)&&(backToKw cpos (keywordEach [] X.env)).all (fun x=>x.1.isSome)
  && decide (([e]:List Expr).length+([]:List Keyword).length+(if([]:List Keyword).isEmpty then 0 else 1)<30))=true
 line:(apos.endLine==cpos.line)=true
 trees:backTo cpos (starEach [e] X.env)=[(false,eval e X.env)]
structure M2(X:Cx)(o:Expr)(m:Str)(apos:Pos)(e f:Expr)(cpos:Pos):Prop where
 base:attributeBase o m X.env (eval o X.env)=eval o X.env
 few:((backTo cpos (starEach [e,f] X.env)).all (fun x=>!x.1)&&(backToKw cpos (keywordEach [] X.env)).all (fun x=>x.1.isSome)
  && decide (([e,f]:List Expr).length+([]:List Keyword).length+(if([]:List Keyword).isEmpty then 0 else 1)<30))=true
 line:(apos.endLine==cpos.line)=true
 trees:backTo cpos (starEach [e,f] X.env)=[(false,eval e X.env),(false,eval f X.env)]
section
variable{X:Cx}{pins:List (Addr×Obj)}{σ:St}{H:Hp}{s:Shared}{a:Addr}{y d:V}{u r:Value}{o:Option V}{A:Around}{E:Value→Shared→Prop}
end
section
variable{X:Cx}{o e f:Expr}{apos cpos:Pos}{td ty tx:TE}
end
section
variable{X:Cx}{pins:List (Addr×Obj)}{σ:St}{H:Hp}{s:Shared}{a:Addr}{kvs:List (Key×V)}{A:Around}{E:Value→Shared→Prop}
end
section
variable{X:Cx}{pins:List (Addr×Obj)}{σ:St}{H:Hp}{s:Shared}{a:Addr}{y:V}{u:Value}{A:Around}{E:Value→Shared→Prop}
end
end L2
namespace Att
open PySem PySem.W PySem.Calls PyProof.Rows
A9 xJ{P:Params}{h:Heap}:∀(ns:List Int)(vs:List Value),WellAll P h vs (ns.map WData.int)→IntsAre vs ns:=by
 intro ns
 induction ns with
 | nil=>
  intro vs w
  rw[J7]at w
  cases w
  ~.nil
 | cons n ns ih=>
  intro vs w
  rw[D7]at w
  cases w with
  | cons a b=>
   cases a
   ~.cons _ _ (ih _ b)
A9 Rx{l:OpenLaw}{n:Nat}(hn:l.most=some n){P:Params}{h:Heap}{args:List WData}{vals:List Value}
  (hpre:l.row.toRowW.claim.pre args=true) (hwl:WellAll P h vals args) :
  ∃a vs ns,vals=[Value.ref a]∧args=[WData.list (ns.map WData.int)]∧h.get? a=some {cls:=.type "list", data:=.seq vs.toArray}∧IntsAre vs ns∧ns.length≤n:=by
 have hsh:WShape.hasAll [] args [.list .int]=true:=(pre_splitW hpre).1
 have hc:l.pre.holds [] {args:=args}=true:=(pre_splitW hpre).2
 A7⟨d,r,rfl,h1,h2⟩:=hasAllW_cons hsh
 A7 rfl:=hasAllW_nil h2
 A7⟨xs,rfl,h3⟩:=hasW_list h1
 A7⟨ns,rfl⟩:=items_int h3
 have hlen:ns.length≤n:=by
  A8 OpenLaw.pre at hc
  have h4:(WTm.not (.lt (.lit (.int (n:Int))) (.len (.arg 0)))).holds [] {args:=[.list (ns.map .int)]}=true:=by
   have h4:=(holds_andW hc).1
   rw[hn]at h4
   ~h4
  have h5:=condW_of h4 (w_not (w_lt w_lit (w_len_list (w_arg rfl))))
  rw[B3]at h5
  &Nat.le_of_not_lt fun q=>?_
  have q':(n:Int)<((ns.length:Nat):Int):=by omega
  first
   | (rw[decide_eq_true q']at h5;~absurd h5 A5)
   | (simp at h5;omega)
 cases hwl with
 | cons w1 w2=>
  cases w2
  cases w1 with
  | list ho hall=>~⟨_,_,ns,rfl,rfl,ho,xJ ns _ hall,hlen⟩
A9 Ry(l:OpenLaw)(args:List WData):l.row.toRowW.claim.post args (.bool true) args=true:=
 postW_of (r:=l.row.toRowW) (X:=(true==true))
  (show WShape.has [] (.bool true) .bool=true by first | rfl | decide | simp[WShape.has,WShape.arms,WShape.armsAll])
  (show (WTm.eq .res (.lit (.bool true))).value [] {args:=args,res:=some (.bool true),after:=args}=some (.bool (true==true))from w_eq_bool (w_res rfl) w_lit) rfl
section
variable{prog:Program}{w:World}{A:Around}{E:Value→Shared→Prop}{s:Shared}{K:Frag}
end
end Att
namespace L2
open PySem PySem.Spec PyProof.Rows
A9 Cz:∀{vs:List Value} {ns:List Int},IntsAre vs ns→Vals (ns.map V.int) vs
 | _,_,.nil=>.nil
 | _,_,.cons n t h=>.cons ⟨t,rfl⟩ (Cz h)
def Only(H:Hp):Prop:=∀b,H b=none∨∃o xs,H b=some (.tZ o (.lst xs))
A9 Vd{P:Program}{w:World}{K:aA}{mg mb:Str→Option Value}{CX:Ku}{k:Nat}{fa a:Addr}{fd:FuncData}{x:Str}{sp:Sp}{s₁:Shared}{vs:List Value}{ns:List Int}
  (KX:K.In s₁.heap) (hns:s₁.heap.Ns mainGlobals mg) (hb:s₁.heap.Ns builtinsNs mb) (hbb:∀x:Str,x ≠ "__name__" → mb x=bootBuiltins x) (hlim:s₁.heap.NoLimit) (hg:s₁.gens=#[])
  (ha:s₁.heap.get? a=some {cls:=.type "list", data:=.seq vs.toArray}) (hi:IntsAre vs ns) (hl:ns.length≤sizeLine) (hr:kI k callerA)
  (F:∀base:Heap,K.In base→base.Ns mainGlobals mg→uD P w K mg base CX k fa fd [x] sp) (hbind:∀(s:Shared)(u:Value),BindsTo s fd ⟨[u],[]⟩ [(x,u)])
  (hsp:∀H:Hp,Only H→mC K H a (ns.map V.int)→sp [.ref a] H (fun v _=>v=.bl true) fun _ _ _=>False)
  (yw:∀H e s',CX [] H s₁ (fun _ _ _=>False) e s'→False) :
  codeAny (model P w) callerA (.call (.ref fa) ⟨[.ref a],[]⟩) (fun r s'=>r=.ok (.ret (.bool true))∧OldK s₁.heap s'.heap∧s'.os=s₁.os∧AllBare s'.gens) s₁:=by
 have rv:=Cz hi
 have lenV:=hi.length
 have core:∀H:Hp,Only H→mC K H a (ns.map V.int)→rQ P w H s₁.heap→(∀b,H b≠none→b=a)→(H a≠none→K.lookup a=none) →
   codeAny (model P w) callerA (.call (.ref fa) ⟨[.ref a],[]⟩) (fun r s'=>r=.ok (.ret (.bool true))∧OldK s₁.heap s'.heap∧s'.os=s₁.os∧AllBare s'.gens) s₁:=by
  intro H hO hS hok hA hK
  have Oo:∀{b:Addr} {o:Obj},s₁.heap.get? b=some o→H b=none→(Em s₁.heap H).get? b=some o:=fun e n=>Uk e n
  have jh:∀{b:Addr} {o:Obj} {es:Array DictEntry} {ep:Nat},s₁.heap.get? b=some o→o.data=.dict es ep→H b=none:=fun{b o es ep} e d=>by
   cases q:H b with
   | none=>rfl
   | some u=>
    have e':b=a:=hA b (by rw[q];simp)
    subst e'
    rw[ha]at e;cases e
    have d':Data.seq vs.toArray _=Data.dict es ep:=d
    cases d'
  have vq:∀{b:Addr} {m:Str→Option Value},s₁.heap.Ns b m→(Em s₁.heap H).Ns b m:=fun{b m} ⟨o,es,ep,e,d,r⟩=>⟨o,es,ep,Oo e (jh e d),d,r⟩
  have hKb:K.In (Em s₁.heap H):=fun b o e=>Oo (KX b o e) (by
   cases q:H b with
   | none=>rfl
   | some u=>
    have e':b=a:=hA b (by rw[q];simp)
    subst e'
    rw[hK (by rw[q];simp)]at e;cases e)
  have hM:Mod K mg (Em s₁.heap H):=⟨hKb,vq hns,⟨mb,vq hb,hbb⟩,let ⟨mc,h1,h2⟩:=hlim;⟨mc,vq h1,h2⟩⟩
  have e0:Zt P w K mg (Em s₁.heap H) callerA [] s₁ H:=⟨rfl,hM,fun b o e=>Zf e,Nat.le_of_eq (Rc _ _),trivial,fun b hb=>absurd (show b∈([]:List Addr)from hb) (by simp),hok,.of_eq hg⟩
  &codeAny_mono ((F _ hKb (vq hns)).run callerA [] s₁ H ⟨[.ref a],[]⟩ [.ref a] [.ref a] _ _ hr e0 (hbind s₁ (.ref a)) (.cons rfl .nil) (hsp H hO hS)) fun r s' h=>?_
  cases r with
  | error e=>~(yw H e s' h).elim
  | ok fl=>
   cases fl with
   | next=>~False.elim h
   | brk=>~False.elim h
   | cont=>~False.elim h
   | ret u=>
    A7⟨v,H',os,bare,un,hok',r',q⟩:=h
    have q':v=.bl true:=q
    subst q'
    A7 rfl:u=Value.bool true:=r'
    &⟨rfl,OldK.of_keep fun b o e=>?_,os,bare⟩
    cases q:H b with
    | none=>~un.keep b o e q (by intro z;~absurd (show b∈([]:List Addr)from z) (by simp)) (by simp)
    | some u=>
     rcases hO b with z | ⟨ob,xs,z⟩
     ·rw[q]at z;cases z
     ·have z2:=un.xF b ob _ z
      A7⟨e1,_⟩:=hok b _ z
      A7⟨e2,_⟩:=hok' b _ z2
      rw[e]at e1;cases e1
      ~e2
 cases hk:K.lookup a with
 | some o=>
  have e:=KX a o hk
  rw[ha]at e
  cases e
  &core (fun _=>none) (fun _=>.inl rfl) (.inr ⟨_,vs.toArray,_,hk,rfl,rfl,rfl,by rw[B7,lenV];~hl,by simpa using rv⟩) (fun b u z=>by have z':(none:Option HO)=some u:=z;cases z') (fun b z=>absurd rfl z) fun z=>absurd rfl z
 | none=>
  &core (fun b=>if b=a then some (.tZ {cls:=.type "list", data:=.seq vs.toArray} (.lst (ns.map V.int)))else none) (fun b=>?_) (.inl (.inr ⟨{cls:=.type "list", data:=.seq vs.toArray},if_pos rfl⟩)) (fun b u z=>?_) (fun b z=>?_) fun _=>hk
  ·by_cases hb:b=a
   ·~.inr ⟨_,_,if_pos hb⟩
   ·~.inl (if_neg hb)
  ·by_cases hb:b=a
   ·have z':=(if_pos hb).symm.trans z
    cases z'
    subst hb
    ~⟨ha,by rw[B3];~hl,vs,_,rv,ha⟩
   ·have z':=(if_neg hb).symm.trans z
    cases z'
  ·by_cases hb:b=a
   ·~hb
   ·~absurd (if_neg hb) z
end L2
namespace L2
open PySem PySem.Spec PyProof.Rows
end L2
namespace L2
open PySem PySem.Spec PyProof.Rows
def fV(s:Stmt):Arguments:=match s with
 | .FunctionDef _ a _ _ _ _ _ _ _ _=>a
 | _=>{posonlyargs:=[],args:=[],vararg:=none,kwonlyargs:=[],kw_defaults:=[],kwarg:=none,defaults:=[]}
def cQ(s:Stmt):List Stmt:=match s with
 | .FunctionDef _ _ b _ _ _ _ _ _ _=>b
 | _=>[]
def aM(s:Stmt):Scope:=match s with
 | .FunctionDef _ _ _ _ _ _ sc _ _ _=>sc
 | _=>{kind:=.function,names:=[],isGenerator:=false,isCoroutine:=false}
abbrev Ue:Ku:=fun _ _ _ _ _ _=>False
abbrev E0:XK:=fun _ _ _=>False
A9 jt{X:Cx}:Passes Ue X E0:=fun _ _ _ _ _ _ _ h=>h.elim
structure Zb(K:aA)(x qual:Str)(st:Stmt)(f:Addr)(fd:FuncData):Prop where
 ex:∃(oc:Value)(od:Option Addr)(kV doc pm:Value)(an:Option Addr)(cdv ct:Value)(osl:Array (Option Value)),
  fd=G6 x qual (fV st) (cQ st) (aM st) .none kV doc pm an cdv ct∧K.lookup f=some ⟨oc,od,.func fd,osl⟩∧N7 K cdv qual=true
 kp:K6 K (.ref f)=true
section
variable{P:Program}{w:World}{K:aA}{mg:Str→Option Value}{base:Heap}
A9 Zb.ok{x qual:Str}{st:Stmt}{f:Addr}{fd:FuncData}{N ps:List Str}{k:Nat}{sp:Sp}(F:Zb K x qual st f fd)(S:bO N ps (aM st))(len:∀vs H Q E,sp vs H Q E→vs.length=ps.length)
  (hbody:∀(cdv:Value)(A:Around)(outer:List Env)(s:Shared)(H:Hp)(vs:List V)(Q:VK)(E:XK),kI k (A.deeper (envOfC qual (aM st) s.heap.objs.size f cdv))→sp vs H Q E →
   ∃t,Ce (jL Ue P w K mg base N qual (aM st) f cdv A outer s H E).RC (cQ st) t∧t {nx:=fun _ H'=>Q .non H',rt:=Q} (start N vs) H):uD P w K mg base Ue (k+1) f fd ps sp:=by
 A7⟨oc,od,kV,doc,pm,an,cdv,ct,osl,rfl,lk,hcd⟩:=F.ex
 &MF lk hcd S len fun A outer s H vs Q E hr hsp=>?_
 A7⟨t,h,q⟩:=hbody cdv A outer s H vs Q E hr hsp
 ~⟨t,h.RC,q⟩
A9 Zb.binds{x qual:Str}{st:Stmt}{f:Addr}{fd:FuncData}{ps:List Str}(F:Zb K x qual st f fd)
  (h:∀(kV doc pm:Value)(an:Option Addr)(cdv ct:Value)(us:List Value),us.length=ps.length→bindArgs (G6 x qual (fV st) (cQ st) (aM st) .none kV doc pm an cdv ct) ⟨us,[]⟩=pure (ps.zip us)):Binds K fd ps []:=by
 A7⟨oc,od,kV,doc,pm,an,cdv,ct,osl,rfl,lk,hcd⟩:=F.ex
 ~.all (h kV doc pm an cdv ct)
A9 UG{x qual:Str}{st:Stmt}{f:Addr}{oc:Value}{od an:Option Addr}{osl:Array (Option Value)}{kV doc pm cdv ct:Value}(l:K.lookup f=some ⟨oc,od,.func (G6 x qual (fV st) (cQ st) (aM st) .none kV doc pm an cdv ct),osl⟩)
  (c:N7 K cdv qual=true) (k:K6 K (.ref f)=true):Zb K x qual st f (G6 x qual (fV st) (cQ st) (aM st) .none kV doc pm an cdv ct):=⟨⟨oc,od,kV,doc,pm,an,cdv,ct,osl,rfl,l,c⟩,k⟩
end
A9 iC{A:Around}{k:Nat}(hr:kI k A):A.units+1<cLine:=Nat.lt_of_le_of_lt (Nat.add_le_add_left (by decide:1≤64) _) hr.units
section
variable{X:Cx}
A9 pv(i:Nat){x:Str}{pos:Pos}(hN:X.N[i]?=some x:=by rfl)(hv:uz X.env.scope x:=by first | ~D4 rfl | ~D3 (D4 rfl) | ~D3 (D3 rfl))(hd:(x==("__debug__" : Str))=false:=by decide)
  (hcd:(x==("__classdict__" : Str))=false:=by decide):PE X (.Name x pos) (jF i):=QJ hN hv hd hcd
end
def aN(H H':Hp):Prop:=∀b o,H b=some o→H' b=some o
A9 aN.refl(H:Hp):aN H H:=fun _ _ h=>h
A9 aN.trans{H H1 H2:Hp}(a:aN H H1)(b:aN H1 H2):aN H H2:=fun c o h=>b c o (a c o h)
A9 aN.free{H H':Hp}(e:aN H H'){l:Addr}(h:H' l=Z8):H l=Z8:=by
 cases q:H l with
 | none=>rfl
 | some o=>
  rw[e l o q]at h
  cases h
A9 aN.seq{K:aA}{H H':Hp}{a:Addr}{xs:List V}(e:aN H H')(h:mC K H a xs):mC K H' a xs:=by
 rcases h with (h | ⟨o,h⟩) | h
 ·~.inl (.inl (e _ _ h))
 ·~.inl (.inr ⟨o,e _ _ h⟩)
 ·~.inr h
section
variable{κ:Type} [DecidableEq κ]
end
end L2


namespace L2
open PySem PySem.Spec PyProof.Rows
A9 sY(env:Env):∀(names:List (Str×NameKind))(acc:List (Str×Addr)),(∀x∈names,x.2=.free→∃c,env.cells.lookup x.1=some c) →
    ∃cl:List (Str×Addr),(forIn names acc (fun(x:Str×NameKind) (r:List (Str×Addr))=>(match x with
      | (name,kind)=>if(kind==.free)=true then do let c ←cellOf env name;pure (ForInStep.yield ((name,c)::r))else pure (ForInStep.yield r):Sem (ForInStep (List (Str×Addr))))))=pure cl ∧
      (∀x c,cl.lookup x=some c→(∃k,(x,k)∈names∧k=.free∧env.cells.lookup x=some c)∨acc.lookup x=some c) ∧
      (∀x,(x,NameKind.free)∈names→∃c,cl.lookup x=some c)∧(∀x c,acc.lookup x=some c→∃c',cl.lookup x=some c')
  | [],acc,_=>⟨acc,rfl,fun x c h=>.inr h,fun x h=>by simp at h,fun x c h=>⟨c,h⟩⟩
  | (n,k)::r,acc,h=>by
    rw[List.forIn_cons]
    by_cases hk:k=.free
    · subst hk
      A7⟨c,hc⟩:=h (n,.free) D1 rfl
      A7⟨cl,e,h1,h2,h3⟩:=sY env r ((n,c)::acc) fun x hx=>h x (C5 _ hx)
      &⟨cl,?_,fun x d hd=>?_,fun x hx=>?_,fun x d hd=>?_⟩
      · have e0:cellOf env n=pure c:=by A8 cellOf;rw[hc]
        simp only[beq_self_eq_true,if_true,e0,pure_bind]
        ~e
      · rcases h1 x d hd with ⟨k',m,q⟩ | q
        · ~.inl ⟨k',C5 _ m,q⟩
        · rw[Q3]at q
          by_cases e:x==n
          · rw[e]at q
            have e':=eq_of_beq e
            subst e'
            cases q
            ~.inl ⟨.free,D1,rfl,hc⟩
          · have e':(x==n)=false:=by simpa using e
            rw[e']at q
            ~.inr q
      · rcases G2.mp hx with q | q
        · cases q
          ~h3 n c (by simp)
        · ~h2 x q
      · by_cases e:x==n
        · ~h3 x c (by rw[Q3,e])
        · have e':(x==n)=false:=by simpa using e
          ~h3 x d (by rw[Q3,e'];~hd)
    · A7⟨cl,e,h1,h2,h3⟩:=sY env r acc fun x hx=>h x (C5 _ hx)
      have hb:(k==NameKind.free)=false:=by simpa using hk
      &⟨cl,?_,fun x d hd=>?_,fun x hx=>?_,h3⟩
      · simp only[hb,V9,if_false,pure_bind]
        ~e
      · rcases h1 x d hd with ⟨k',m,q⟩ | q
        · ~.inl ⟨k',C5 _ m,q⟩
        · ~.inr q
      · rcases G2.mp hx with q | q
        · cases q
          ~absurd rfl hk
        · ~h2 x q
A9 nA(scope:Scope)(env:Env)(h:∀x∈scope.names,x.2=.free→∃c,env.cells.lookup x.1=some c) :
    ∃cl,closureFor scope env=pure cl∧(∀x c,cl.lookup x=some c→(x,NameKind.free)∈scope.names∧env.cells.lookup x=some c)∧∀x,(x,NameKind.free)∈scope.names→∃c,cl.lookup x=some c:=by
  A7⟨cl,e,h1,h2,_⟩:=sY env scope.names [] h
  &⟨cl,?_,fun x c hx=>?_,h2⟩
  · A8 closureFor
    ~(congrArg (fun t=>t >>= pure) e).trans (pure_bind _ _)
  · rcases h1 x c hx with ⟨k,m,rfl,q⟩ | q
    · ~⟨m,q⟩
    · simp at q
A9 Fd{scope:Scope}{env:Env}(hcell:∀y∈scope.names,y.2≠.cell){x:Str}(h:(relabel scope env).names.lookup x=some .cell∨(relabel scope env).names.lookup x=some .free):(x,NameKind.free)∈scope.names:=by
 have m:(x,NameKind.cell)∈(relabel scope env).names∨(x,NameKind.free)∈(relabel scope env).names:=by
  rcases h with h | h
  ·~.inl (K9 h)
  ·~.inr (K9 h)
 A8 relabel at m
 rcases m with m | m
 all_goals
  A7⟨⟨n,k⟩,hm,e⟩:=M7.mp m
  dsimp only at e
  split at e
  ·rename_i hc
   simp only[B4,beq_iff_eq]at hc
   cases e
   first
    | (rw[hc.1.1]at hm;~hm)
    | skip
  ·cases e
   first
    | ~hm
    | ~absurd rfl (hcell _ hm)
def bR(X:Cx)(scope:Scope)(N:List Str)(cl:List (Str×Addr))(fp:List Addr)(s:Shared)(H:Hp)(C:Addr):Cx where
 prog:=X.prog
 w:=X.w
 K:=X.K
 mg:=X.mg
 base:=X.base
 A:=X.A
 N:=N
 s₀:=s
 H₀:=H
 env:=compEnvC scope cl C X.env
 outer:=X.stack
 stack:=X.stack
 ex:=fp
 calm:=X.calm
 fn:=fun _=>false
 pn:=[]
 xe:=fun _ _=>False
def Fe(σ:St)(fr:List Nat):St:=fr.map fun i=>σ.getD i none
def blk(k:Nat)(σ:St)(fr:List Nat):St:=B9 k none++Fe σ fr
def Kp(k:Nat)(σ:St)(fr:List Nat)(σ2:St):Prop:=σ2.length=(blk k σ fr).length∧∀(j:Nat) v,(blk k σ fr)[j]?=some (some v)→σ2[j]?=some (some v)
def fu(X:Cx)(ifs:List Expr)(t:TT):Prop:=
 ∀(pins:List (Addr×Obj))(s:Shared)(σ:St)(H:Hp)(Q:Bool→Hp→Prop),Inv X pins σ H s→t σ H Q →
  wpAny (model X.prog X.w) X.A (forIn ifs true fun c r=>if r=true then do let ok ←isTrue c X.env (eval c X.env);pure (ForInStep.yield ok)else pure (ForInStep.yield r)) (TP X pins σ Q) X.xe s
def ju:TT:=fun _ H Q=>Q true H
A9 BP{X:Cx}:fu X [] ju:=fun _ _ _ H _ I h=>wpAny_tests_nil ⟨H,I,h⟩
A9 rT{prog:Program}{w:World}{A:Around}{R:Result→Shared→Prop}{s:Shared}{elt target iter:Expr}{ifs:List Expr}{scope:Scope}{pos:Pos}{it acc:Value}{env:Env}(I:Nat→Shared→Prop)
  (turn:∀n s,I n s→wpAny (model prog w) A (pyNext it) (fun r s₁=>match r with
   | none=>R (.ok .next) s₁
   | some v=>wpAny (model prog w) A (letOwnedTupleGo target it v) (fun _ s₀=>wpAny (model prog w) A (assign target env v) (fun _ s₂=>
     wpAny (model prog w) A (forIn ifs true fun c r=>if r=true then do let ok ←isTrue c env (eval c env);pure (ForInStep.yield ok)else pure (ForInStep.yield r)) (fun ok s₃=>
      if ok=true then wpAny (model prog w) A (eval elt env) (fun x s₄=>
       wpAny (model prog w) A (call (.builtin "list.append") [acc,x]) (fun _ s₅=>∃m,m<n∧I m s₅) (fun _ _=>False) s₄) (fun _ _=>False) s₃
      else ∃m,m<n∧I m s₃) (fun _ _=>False) s₂) (fun _ _=>False) s₀) (fun _ _=>False) s₁) (fun _ _=>False) s)
  (n:Nat) (h:I n s) :
  codeAny (model prog w) A (.compLoop (.ListComp elt [⟨target,iter,ifs,0⟩] scope pos) 0 it acc env) R s:=by
 &codeAny_loop rfl I (fun n s hI=>?_) n h
 show wpAny _ A ((compTurn (.ListComp elt [⟨target,iter,ifs,0⟩] scope pos) 0 it acc env).onRaise (fun x=>do noteFrame x env;theTreesLotGoes x)) _ _ s
 &wpAny_noted ?_
 rw[compTurn_list]
 &wpAny_mono (E:=fun _ _=>False) ?_ (fun _ _ q=>q) fun _ _ x=>x.elim
 &wpAny_bind (wpAny_standAt (wpAny_bind (wpAny_mono (turn n s hI) (fun r s₁ h₁=>?_) fun _ _ h'=>h')))
 cases r with
 | none=>~wpAny_pure h₁
 | some v=>
  &wpAny_bind (wpAny_mono h₁ (fun _ s₀ h₀=>?_) fun _ _ h'=>h')
  &wpAny_bind (wpAny_mono h₀ (fun _ s₂ h₂=>wpAny_bind (wpAny_mono h₂ (fun ok s₃ h₃=>?_) fun _ _ h'=>h')) fun _ _ h'=>h')
  cases ok with
  | false=>~wpAny_pure ⟨rfl,h₃⟩
  | true=>
   ~wpAny_bind (wpAny_bind (wpAny_mono h₃ (fun x s₄ h₄=>wpAny_bind (wpAny_mono h₄ (fun _ s₅ h₅=>wpAny_pure (wpAny_pure ⟨rfl,h₅⟩)) fun _ _ h'=>h')) fun _ _ h'=>h'))
def MN(J:It)(k:Nat)(fr:List Nat)(g:TG)(tc:TT)(te:TE)(σ:St)(H1:Hp)(Q:VK)(D:Addr):Prop:=∃W:Nat→Nat→List V→Hp→Prop,(∃m,W 0 m [] (upd H1 D (.lst []))) ∧
 ∀i m ys H,W i m ys H→H D=some (.lst ys)∧((J.stop i H∧Q (.ref D) H)∨(J.go i H∧∀x H',J.fj i H x H'→g x (blk k σ fr) H' fun σ2 H2=>Kp k σ fr σ2∧tc σ2 H2 fun ok H3=>if ok=true then
  te σ2 H3 fun y H4=>H4 D=some (.lst ys)∧ys.length<sizeLine∧∃m',m'<m∧W (i+1) m' (ys++[y]) (upd H4 D (.lst (ys++[y])))else ∃m',m'<m∧W (i+1) m' ys H3))
def Il(wi:TI)(k:Nat)(fr:List Nat)(g:TG)(tc:TT)(te:TE):TE:=fun σ H Q=>wi σ H fun J H1=>∀D,H1 D=none→MN J k fr g tc te σ H1 Q D
def pO(scope Hv:Scope):Scope:=
 {scope with names:=scope.names.map fun(n,k)=>if(k==.free&&Hv.kind==.function&&Hv.names.lookup n==some .cell)then(n,.cell)else(n,k)}
structure dC(Hv scope:Scope)(oN N:List Str)(k:Nat)(fr:List Nat):Prop where
 kind:scope.kind=.function
 cell:∀y∈scope.names,y.2≠.cell
 loc:∀y∈scope.names,y.2=.local→scope.names.lookup y.1=some .local
 free:∀y∈scope.names,y.2=.free→Hv.names.lookup y.1=some .cell∨Hv.names.lookup y.1=some .free
 len:N.length=k+fr.length
 slots:∀j∈K4 fr.length,oN[fr.getD j 0]?=N[k+j]?
 from_:∀x∈N.drop k,(x,NameKind.free)∈scope.names∧((pO scope Hv).names.lookup x=some .cell∨(pO scope Hv).names.lookup x=some .free)
def Ve(Hv scope:Scope)(oN N:List Str)(k:Nat)(fr:List Nat):Bool:=
 decide (scope.kind=.function)&&decide (∀y∈scope.names,y.2≠.cell)&&decide (∀y∈scope.names,y.2=.local→scope.names.lookup y.1=some .local) &&
 decide (∀y∈scope.names,y.2=.free→Hv.names.lookup y.1=some .cell∨Hv.names.lookup y.1=some .free)&&decide (N.length=k+fr.length) &&
 decide (∀j∈K4 fr.length,oN[fr.getD j 0]?=N[k+j]?) &&
 decide (∀x∈N.drop k,(x,NameKind.free)∈scope.names∧((pO scope Hv).names.lookup x=some .cell∨(pO scope Hv).names.lookup x=some .free))
A9 dC.of{Hv scope:Scope}{oN N:List Str}{k:Nat}{fr:List Nat}(h:Ve Hv scope oN N k fr=true):dC Hv scope oN N k fr:=by
 A8 Ve at h
 simp only[B4,decide_eq_true_eq]at h
 A7⟨⟨⟨⟨⟨⟨h1,h2⟩,h3⟩,h4⟩,h5⟩,h6⟩,h7⟩:=h
 ~⟨h1,h2,h3,h4,h5,h6,h7⟩
section
variable{X:Cx}
A9 BR{k:Nat}{σ:St}{fr:List Nat}{i:Nat}{v:V}(h:(blk k σ fr)[i]?=some (some v)):∃j o,i=k+j∧fr[j]?=some o∧σ[o]?=some (some v):=by
 A8 blk at h
 by_cases hi:i<k
 ·rw[T0 (by simpa using hi),P0]at h
  rw[if_pos hi]at h
  cases h
 ·rw[S4 (by simpa using hi),K2]at h
  A8 Fe at h
  rw[D5]at h
  cases e:fr[i-k]? with
  | none=>rw[e]at h;cases h
  | some o=>
   rw[e]at h
   &⟨i-k,o,by omega,e,?_⟩
   have h:some (σ.getD o none)=some (some v):=h
   have h:=G1 h
   rw[F1]at h
   cases e2:σ[o]? with
   | none=>rw[e2]at h;cases h
   | some z=>rw[e2]at h;~congrArg some h
A9 yO{pins:List (Addr×Obj)}{σ:St}{H:Hp}{s:Shared}{scope:Scope}{N:List Str}{k:Nat}{fr:List Nat}{cl:List (Str×Addr)}{fp:List Addr}{h₁:Heap}{tk:Nat}{m:Str→Option Value}
    (I:Inv X pins σ H s) (B:dC X.env.scope scope X.N N k fr) (hf:∀b∈fp,xG X pins H b) (hfo:∀b∈fp,b<s.heap.objs.size)
    (hcl:∀x c,cl.lookup x=some c→(x,NameKind.free)∈scope.names∧X.env.cells.lookup x=some c) (Rz:∀x,(x,NameKind.free)∈scope.names→∃c,cl.lookup x=some c)
    (hn:h₁.Ns (s.heap.objs.size+1) m) (hs:Heap.SameBut (s.heap.objs.size+1) ((s.heap.push {cls:=.type "list", data:=.seq ([]:List Value).toArray}).push {cls:=.type "dict", data:=.dict #[]}) h₁) :
    Inv (bR X scope N cl fp s H (s.heap.objs.size+1)) [] (blk k σ fr) (upd H s.heap.objs.size (.lst [])) {s with heap:=h₁,toks:=tk}:=by
  have I3:=I.Ru (ys:=[]) (its:=[]) (t':=tk) .nil (O1 _)
  have hD:H s.heap.objs.size=none:=I.fresh
  have hC:H (s.heap.objs.size+1)=none:=I.hok.fresh (P6 _)
  have dz:∀b o,(s.heap.push {cls:=.type "list", data:=.seq ([]:List Value).toArray}).get? b=some o→b≠s.heap.objs.size+1:=fun b o e=>by
    have:=Heap.lt_size e
    rw[Heap.size_push]at this
    ~F2 this
  have MP:∀b o,(s.heap.push {cls:=.type "list", data:=.seq ([]:List Value).toArray}).get? b=some o→h₁.get? b=some o:=fun b o e=>
    hs.extBut b o (dz b o e) (Heap.get?_push_of_some _ e)
  have kept:∀b o,s.heap.get? b=some o→h₁.get? b=some o:=fun b o e=>MP b o (Heap.get?_push_of_some _ e)
  &⟨⟨I.ok.mod,B.kind,I.ok.glob,I.ok.blt,P6 _,fun x y c h1 h2=>I.ok.inj x y c (hcl x c h1).2 (hcl y c h2).2,fun x hx=>Rz x (Fd B.cell hx),fun x c h _=>(nomatch h),
      I.ok.hd,I.ok.frames,.inl rfl,fun b hb=>⟨?_,fun x c e=>(hf b hb).2.2.2.2.1 x c (hcl x c e).2⟩,fun b o e=>I.bs b o e,F0 I.ok.Uc I.sz,fun b o e hb=>?_,fun b hb hb2=>?_,I.stack,I.Eo⟩,
    rfl,I.bare,Un.laid kept (D2 _) hD,⟨m,hn,fun i x v h1 h2 h3=>?_⟩,fun x c e=>?_,?_,fun x c e=>?_,fun p hp=>absurd (show p∈([]:List (Addr×Obj))from hp) (by simp),?_,?_⟩
  · ~F2 (N5 (hfo b hb))
  · rcases(hf b hb).2.2.2.1 with z | z
    · ~I.ok.En b o e z
    · ~absurd (C3 (Heap.lt_size e) (F0 I.ok.Uc z)) (G3 _)
  · rcases G2.mp (I.sW b hb2)with z | z
    · ~(hf b hb).2.1 z
    · ~(hf b hb).2.2.1 z
  · A7⟨j,o,rfl,h4,h5⟩:=BR h2
    have h1:N[k+j]?=some x:=h1
    have hj:j<fr.length:=(C4.mp h4).1
    have hx:X.N[o]?=some x:=by
      have q:=B.slots j (N1.mpr hj)
      rw[F1,h4]at q
      ~q.trans h1
    A7⟨hfr,hre⟩:=B.from_ x (J0 (i:=j) (by rw[List.getElem?_drop];~h1))
    have hk:=B.free _ hfr rfl
    A7⟨m0,hn0,hl0⟩:=I.loc
    have hv:uz X.env.scope x:=by
      rcases hk with q | q
      · ~.inr (.inl q)
      · ~.inr (.inr q)
    A7⟨u,r,l⟩:=hl0 o x v hx h5 hv
    &⟨u,r,.inr ?_⟩
    rcases l with ⟨q,_⟩ | ⟨_,c,e,z⟩
    · rcases hk with q' | q'
      · ~absurd (q.symm.trans q') (by intro z;cases z)
      · ~absurd (q.symm.trans q') (by intro z;cases z)
    · A7⟨c',e'⟩:=Rz x hfr
      have e2:=(hcl x c' e').2
      rw[e]at e2
      cases e2
      &⟨hre,c,e',?_⟩
      A7⟨oc,hoc,hd⟩:=z
      ~⟨oc,kept c oc hoc,hd⟩
  · A7⟨v,oc,hoc,hd⟩:=I.cell x c (hcl x c e).2
    ~⟨v,oc,kept c oc hoc,hd⟩
  · show upd H s.heap.objs.size (.lst []) (s.heap.objs.size+1)=none
    rw[bH (N6 (X2 _))]
    ~hC
  · have hc:=(hcl x c e).2
    A7⟨v,oc,hoc,hd⟩:=I.cell x c hc
    show upd H s.heap.objs.size (.lst []) c=none
    rw[bH (F2 (Heap.lt_size hoc))]
    ~I.lF x c hc
  · ~rQ.kept I3.hok MP
  · show (blk k σ fr).length=N.length
    rw[B.len]
    A8 blk Fe
    simp
A9 Im{tg elt iter:Expr}{ifs:List Expr}{scope:Scope}{pos:Pos}{N:List Str}{k:Nat}{fr:List Nat}{g:TG}{tc:TT}{te:TE}{cl:List (Str×Addr)}{pins:List (Addr×Obj)}{σ:St}{H:Hp}{s:Shared}{it:Addr}{fp:List Addr}{tn:Nat→Heap→Prop}{J:It}{Q:VK}
    {RR:Value→Addr→Result→Shared→Prop} {E:Value→Shared→Prop} (hcalm:X.calm=true) (I:Inv X pins σ H s) (T:Turn X.prog X.w X.K tg J fp it tn) (st:tn 0 s.heap) (hf:∀b∈fp,xG X pins H b) (B:dC X.env.scope scope X.N N k fr)
    (hcl:∀x c,cl.lookup x=some c→(x,NameKind.free)∈scope.names∧X.env.cells.lookup x=some c) (Rz:∀x,(x,NameKind.free)∈scope.names→∃c,cl.lookup x=some c)
    (hg:∀cl fp s H C,PG (bR X scope N cl fp s H C) tg g) (hc:∀cl fp s H C,fu (bR X scope N cl fp s H C) ifs tc) (he:∀cl fp s H C,PE (bR X scope N cl fp s H C) elt te)
    (hw:∀D,H D=none→MN J k fr g tc te σ H Q D)
    (hRR:∀D C m s' H',s'.heap.Ns C m→s.heap.objs.size≤C→H' C=none→C≠D→Inv X pins σ H' s'→Q (.ref D) H'→RR (.ref D) C (.ok .next) s') :
    wpAny (model X.prog X.w) X.A (newList []) (fun acc s₃=>wpAny (model X.prog X.w) X.A (newFunctionEnv scope X.env.globals cl [] X.env.qual none .none (some X.env)) (fun cenv s₄=>
      codeAny (model X.prog X.w) X.A (.compStart (.ListComp elt [⟨tg,iter,ifs,0⟩] scope pos) 0 (.ref it) acc {cenv with scope:=relabel scope X.env}) (RR acc cenv.locals) s₄) E s₃) E s:=by
  &wpAny_newObj_type (wpAny_newFunctionEnv B.cell (by intro y hy;simp at hy) (fun h₁ hns₁ hsb₁=>?_) B.kind)
  dsimp only at hns₁ hsb₁ ⊢
  rw[Heap.size_push]at hns₁ hsb₁ ⊢
  have hfo:∀b∈fp,b<s.heap.objs.size:=fun b hb=>by
    A7⟨o,e,_⟩:=T.obj 0 _ st b hb
    ~Heap.lt_size e
  have I4:=yO (tk:=s.toks+([]:List (Str×Value)).length) I B hf hfo hcl Rz hns₁ hsb₁
  generalize hD:s.heap.objs.size=D at *
  have yx:H D=none:=by rw[←hD];~I.fresh
  A7⟨W,⟨m0,w0⟩,turn⟩:=hw D yx
  have st1:tn 0 h₁:=T.keep 0 _ _ st fun b hb o e=>hsb₁.extBut b o (F2 (N5 (by have:=hfo b hb;~this))) (Heap.get?_push_of_some _ (Heap.get?_push_of_some _ e))
  have yz:∀b∈fp,(upd H D (.lst [])) b=none:=fun b hb=>by
    rw[bH (F2 (hfo b hb))]
    ~(hf b hb).1
  generalize hX':bR X scope N cl fp s H (D+1)=X' at I4
  have stat:∀{H':Hp},(∀b∈fp,H' b=none)→∀b∈fp,xG X' [] H' b:=fun{H'} hn b hb=>by
    subst hX'
    &⟨hn b hb,?_,fun z=>?_,.inl hb,fun x c e=>(hf b hb).2.2.2.2.1 x c (hcl x c e).2,fun p hp=>absurd (show p∈([]:List (Addr×Obj))from hp) (by simp)⟩
    · ~F2 (N5 (hfo b hb))
    · rcases G2.mp (I.sW b z)with z | z
      · ~(hf b hb).2.1 z
      · ~(hf b hb).2.2.1 z
  have loop:∀s₃:Shared,s₃={s with heap:=h₁,toks:=s.toks+([]:List (Str×Value)).length} →
      codeAny (model X.prog X.w) X.A (.compLoop (.ListComp elt [⟨tg,iter,ifs,0⟩] scope pos) 0 (.ref it) (.ref D) (compEnvC scope cl (D+1) X.env)) (RR (.ref D) (D+1)) s₃:=by
    rintro s₃ rfl
    &rT (fun n s'=>∃i ys H',Inv X' [] (blk k σ fr) H' s'∧tn i s'.heap∧(∀b∈fp,H' b=none)∧W i n ys H') ?_ m0 ⟨0,[],_,I4,st1,yz,w0⟩
    rintro n s5 ⟨i,ys,H5,I5,st5,fr5,w5⟩
    A7⟨hys,way⟩:=turn i n ys H5 w5
    have e1:X'.prog=X.prog:=by rw[←hX'];rfl
    have e2:X'.w=X.w:=by rw[←hX'];rfl
    have e3:X'.K=X.K:=by rw[←hX'];rfl
    have e4:X'.A=X.A:=by rw[←hX'];rfl
    have e5:X'.calm=true:=by rw[←hX'];~hcalm
    have e6:X'.env=compEnvC scope cl (D+1) X.env:=by rw[←hX'];rfl
    have e7:X'.xe=fun _ _=>False:=by rw[←hX'];rfl
    rcases way with ⟨stop,q⟩ | ⟨go,step⟩
    · have d:=T.done X' e1 e2 e3 e5 i [] s5 _ H5 (fun _ _=>False) I5 (stat fr5) st5 stop
      rw[e4]at d
      &eY d fun r s6 ⟨hr,I6⟩=>?_
      subst hr
      subst hX'
      A7⟨m6,hn6,_⟩:=I6.loc
      &hRR D (D+1) m6 s6 H5 hn6 (P6 _) I6.free (N6 (X2 _)) ?_ q
      ~I.call' I6.os I6.base I6.hok I6.bare fun b hb=>⟨(hf b hb).2.2.2.1,(hf b hb).2.1,(hf b hb).2.2.2.2.1,(hf b hb).2.2.2.2.2⟩
    · have d:=T.item X' e1 e2 e3 e5 i [] s5 _ H5 (fun _ _=>False) I5 (stat fr5) st5 go
      rw[e4]at d
      &eY d fun r s6 ⟨u,hr,h6⟩=>?_
      subst hr
      &eY h6 fun _ s7 ⟨x,H7,I7,r7,y7,st7,fr7⟩=>?_
      have zb:=I7.pinned (stat fr7) (T.obj _ _ st7)
      have hg':PG X' tg g:=by rw[←hX'];~hg _ _ _ _ _
      have hc':fu X' ifs tc:=by rw[←hX'];~hc _ _ _ _ _
      have he':PE X' elt te:=by rw[←hX'];~he _ _ _ _ _
      have a1:=hg' _ s7 _ H7 x u _ zb r7 (step x H7 y7)
      rw[e1,e2,e4,e6,e7]at a1
      &eY a1 fun _ s8 ⟨σ8,H8,I8,⟨kl,kk⟩,q8⟩=>?_
      have a2:=hc' _ s8 σ8 H8 _ I8 q8
      rw[e1,e2,e4,e6,e7]at a2
      &eY a2 fun ok s9 ⟨H9,I9,q9⟩=>?_
      have again:∀{Ha:Hp} {ya:List V} {sa:Shared},Inv X' ([]++sX fp s7.heap) σ8 Ha sa→(∃m',m'<n∧W (i+1) m' ya Ha) →
          ∃m,m<n∧∃i ys H',Inv X' [] (blk k σ fr) H' sa∧tn i sa.heap∧(∀b∈fp,H' b=none)∧W i m ys H':=fun{Ha ya sa} Ia ⟨m',hm,w'⟩=>by
        &⟨m',hm,i+1,ya,Ha,(Ia.weak kl.symm kk).pL,T.keep _ _ _ st7 fun b hb o e=>(Ia.pin (b,o) (C9 _ (C9 _ (jK hb e)))).1,fun b hb=>?_,w'⟩
        A7⟨o,e,d⟩:=T.obj _ _ st7 b hb
        ~(Ia.pin (b,o) (C9 _ (C9 _ (jK hb e)))).2.1
      cases ok with
      | false=>~again I9 q9
      | true=>
        have a3:=he' _ s9 σ8 H9 _ I9 q9
        rw[e1,e2,e4,e6,e7]at a3
        show wpAny _ _ _ _ _ s9
        &eY a3 fun v zc ⟨y,H10,I10,r10,hD10,hz,q10⟩=>?_
        have a4:=jM (X:=X') _ zc σ8 H10 (.ref D) [y] (.ref D) [v] (fun _ jw=>jw=upd H10 D (.lst (ys++[y]))) I10 rfl (.cons r10 .nil) ⟨D,ys,y,rfl,rfl,hD10,hz,rfl⟩
        rw[e1,e2,e4,e7]at a4
        &eY a4 fun _ s11 ⟨_,jw,I11,_,e11⟩=>?_
        subst e11
        ~again I11 q10
  ~codeAny_compStart_list (loop _ rfl) (T.self _ 0 _ _ _ st1 (loop _ rfl))
A9 BV{tg elt iter:Expr}{ifs:List Expr}{scope:Scope}{pos:Pos}{wi:TI}{g:TG}{tc:TT}{te:TE}(N:List Str)(k:Nat)(fr:List Nat)(hcalm:X.calm=true)(B:dC X.env.scope scope X.N N k fr)(hi:PI X tg iter wi)
  (hg:∀cl fp s H C,PG (bR X scope N cl fp s H C) tg g) (hc:∀cl fp s H C,fu (bR X scope N cl fp s H C) ifs tc) (he:∀cl fp s H C,PE (bR X scope N cl fp s H C) elt te)
  (hs:∀x,foldedSetIterable iter X.env x=pure x:=by intro _;rfl):PE X (.ListComp elt [⟨tg,iter,ifs,0⟩] scope pos) (Il wi k fr g tc te):=by
 intro pins s σ H Q I h
 A7⟨cl,e,h1,h2⟩:=nA scope X.env fun y hy hk=>I.ok.has y.1 (B.free y hy hk)
 rw[eval_ListComp]
 &wpAny_comprehension_free (use:=none) rfl hs e B.kind B.loc (wpAny_mono (hi pins s σ H _ I h) (fun xv s₁ q₁=>wpAny_mono q₁ (fun itv s₂ q₂=>?_) fun _ _ x=>x) fun _ _ x=>x)
 A7⟨it,fp,tn,J,H2,rfl,I2,T,st2,f2,hw⟩:=q₂
 &Im (Q:=Q) (RR:=fun acc C=>compPost (model X.prog X.w) X.A X.xe none (EP X pins σ Q) acc C) hcalm I2 T st2 f2 B h1 h2 hg hc he hw ?_
 intro D C m s' H' hn hC hf hne I' q
 &⟨m,hn,fun h' hs'=>⟨.ref D,H',?_,rfl,q⟩⟩
 ~I'.turned (t':=s'.toks) (fun b o hb eb=>(hs'.2 b hb).trans eb) hf (N6 (C3 I2.lt hC)) (.inr (F0 I2.sz hC)) (fun x c ec z=>by
  A7⟨v,q⟩:=I2.cell x c ec
  ~absurd (C3 q.lt (by rw[z];~hC)) (G3 _)) fun p hp z=>absurd (C3 (Heap.lt_size (I2.pin p hp).1) (by rw[z];~hC)) (G3 _)
A9 BW{tg elt iter:Expr}{ifs:List Expr}{scope:Scope}{pos spos py:Pos}{y:Str}{i:Nat}{wi:TI}{g:TG}{tc:TT}{te:TE}(N:List Str)(k:Nat)(fr:List Nat)(hcalm:X.calm=true)(B:dC X.env.scope scope X.N N k fr)(hN:X.N.Nodup)(hy:X.N[i]?=some y)(hx:Loc X.env.scope y)(hi:PI X tg iter wi)
  (hg:∀cl fp s H C,PG (bR X scope N cl fp s H C) tg g) (hc:∀cl fp s H C,fu (bR X scope N cl fp s H C) ifs tc) (he:∀cl fp s H C,PE (bR X scope N cl fp s H C) elt te)
  (hsw:swapsWith (.ListComp elt [⟨tg,iter,ifs,0⟩] scope pos) (some (.Name y py)) spos.line X.env=pure true:=by rfl)
  (hs:∀x,foldedSetIterable iter X.env x=pure x:=by intro _;rfl) (hf:X.fn y=true∨X.env.scope.names.lookup y=some .local:=by first | ~.inl rfl | ~.inr rfl | assumption) :
  PS X (.Assign [.Name y py] (.ListComp elt [⟨tg,iter,ifs,0⟩] scope pos) spos) (nO (Il wi k fr g tc te) (cB i)):=by
 intro pins s σ H D I h
 A7⟨cl,e,h1,h2⟩:=nA scope X.env fun y hy hk=>I.ok.has y.1 (B.free y hy hk)
 rw[exec_Assign_Name_used _ _ _ _ hsw]
 &wpAny_bind (wpAny_standAt (wpAny_bind ?_))
 show wpAny _ X.A (do let _ ←comprehension (.ListComp elt [⟨tg,iter,ifs,0⟩] scope pos) scope X.env _ (newList []) false (eval iter X.env) (some (assign (.Name y py) X.env))) _ _ s
 &wpAny_bind (wpAny_mono (wpAny_comprehension_free (use:=some (assign (.Name y py) X.env)) (Q:=fun _ s'=>SP X pins D .next s') rfl hs e B.kind B.loc
  (wpAny_mono (hi pins s σ H _ I h) (fun xv s₁ q₁=>wpAny_mono q₁ (fun itv s₂ q₂=>?_) fun _ _ x=>x) fun _ _ x=>x)) (fun _ s' hq=>wpAny_pure (wpAny_pure hq)) fun _ _ x=>x)
 A7⟨it,fp,tn,J,H2,rfl,I2,T,st2,f2,hw⟩:=q₂
 &Im (Q:=fun x H1=>cB i x σ H1 D.nx) (RR:=fun acc C=>compPost (model X.prog X.w) X.A X.xe (some (assign (.Name y py) X.env)) (fun _ s'=>SP X pins D .next s') acc C) hcalm I2 T st2 f2 B h1 h2 hg hc he hw ?_
 intro E C m s' H' hn hC hfr hne I' q
 show wpAny _ X.A (assign (.Name y py) X.env (.ref E)) _ _ _
 have Oc:∀x c,X.env.cells.lookup x=some c→c≠C:=fun x c ec z=>by
  A7⟨v,q⟩:=I2.cell x c ec
  ~absurd (C3 q.lt (by rw[z];~hC)) (G3 _)
 &wpAny_assign_Name (Cd I' hN hy hx (show RelV (.ref E) (.ref E)from rfl) (fun s6 I6 ⟨a,hsb,ha⟩=>?_) hf)
 have neA:C≠a:=by
  rcases ha with z | z
  ·rw[z];~N6 (C3 I2.lt hC)
  ·~fun q=>Oc _ _ z q.symm
 &⟨m,hn.sameBut hsb neA,fun h'' hs''=>⟨_,H',?_,q⟩⟩
 ~I6.turned (t':=s6.toks) (fun b o hb eb=>(hs''.2 b hb).trans eb) hfr (N6 (C3 I2.lt hC)) (.inr (F0 I2.sz hC)) Oc
  fun p hp z=>absurd (C3 (Heap.lt_size (I2.pin p hp).1) (by rw[z];~hC)) (G3 _)
end
end L2


set_option maxHeartbeats 4000000
namespace L2
open PySem PySem.Spec PyProof.Rows
def UJ(J:It)(P:Hp→Prop)(xs:List V):Prop:=
 ∀i H,P H→(i<xs.length→J.go i H)∧(∀x H',J.fj i H x H'→H'=H∧(i<xs.length→xs[i]?=some x))∧(xs.length≤i→J.stop i H)
A9 Io{K:aA}{a:Addr}{xs:List V}:UJ (yf K a) (fun H=>mC K H a xs) xs:=fun i H hq=>
 ⟨fun h=>⟨xs,xs[i],hq,by simp[h]⟩,fun x H' ⟨e,y⟩=>⟨e,fun _=>y xs hq⟩,fun h=>⟨xs,hq,h⟩⟩
A9 BX{K:aA}{a:Addr}{xs:List V}:UJ (yg K a) (fun H=>pI K H a xs) xs:=fun i H hq=>
 ⟨fun h=>⟨xs,xs[i],hq,by simp[h]⟩,fun x H' ⟨e,y⟩=>⟨e,fun _=>y xs hq⟩,fun h=>⟨xs,hq,h⟩⟩
A9 Dc{lo:Int}{n:Nat}:UJ (vh lo n) (fun _=>True) ((K4 n).map fun i:Nat=>V.int (lo+(i:Int))):=fun i H _=>
 ⟨fun h=>show i<n by simpa using h,fun x H' ⟨e,y⟩=>⟨e,fun h=>by
  have h:i<n:=by simpa using h
  subst y
  simp[h]⟩,fun h=>show n≤i by simpa using h⟩
section
variable{X:Cx}
A9 eN{scope:Scope}{N:List Str}{x:Str}{pos:Pos}(hN:N.Nodup)(hi:N[0]?=some x)(hx:(pO scope X.env.scope).names.lookup x=some .local) :
  ∀cl fp s H C,PG (bR X scope N cl fp s H C) (.Name x pos) (cB 0):=fun _ _ _ _ _=>jA hN hi (D4 hx) (D3 hx)
A9 Ff{J:It}{P:Hp→Prop}{xs:List V}(hJ:UJ J P xs){g:TG}{tb:TS}{D:Ends}{σ:St}{H:Hp}(Pv:Nat→St→Hp→Prop)(h0:Pv 0 σ H)(hl:∀i σ H,i≤xs.length→Pv i σ H→P H)
  (hs:∀i x σ H,xs[i]?=some x→Pv i σ H→g x σ H fun σ2 H2=>tb {D with nx:=Pv (i+1),ct:=Pv (i+1),bk:=D.nx} σ2 H2) (hd:∀σ H,Pv xs.length σ H→D.nx σ H) :
  ∃W:Nat→Nat→St→Hp→Prop,(∃m,W 0 m σ H)∧∀i m σ H,W i m σ H →
   (J.stop i H∧D.nx σ H)∨(J.go i H∧∃N:St→Hp→Prop,(∀σ' H',N σ' H'→∃m',m'<m∧W (i+1) m' σ' H')∧∀x H',J.fj i H x H'→g x σ H' fun σ2 H2=>tb {D with nx:=N,ct:=N,bk:=D.nx} σ2 H2):=by
 &⟨fun i m σ H=>m=xs.length-i∧i≤xs.length∧Pv i σ H,⟨xs.length,by simp,O1 _,h0⟩,?_⟩
 rintro i m σ H ⟨rfl,hi,p⟩
 A7⟨j1,j2,j3⟩:=hJ i H (hl i σ H hi p)
 by_cases hlt:i<xs.length
 ·&.inr ⟨j1 hlt,Pv (i+1),fun σ' H' p'=>⟨xs.length-(i+1),by omega,rfl,hlt,p'⟩,fun x H' y=>?_⟩
  A7⟨e,ex⟩:=j2 x H' y
  subst e
  ~hs i x σ _ (ex hlt) p
 ·have e:i=xs.length:=by omega
  subst e
  ~.inl ⟨j3 (D2 _),hd σ H p⟩
end
end L2


namespace L2
open PySem PySem.Spec PyProof.Rows
section
variable{X:Cx}
A9 wO:∀{bs:List Bool} {us:List Value},Vals (bs.map V.bl) us→us=bs.map Value.bool
 | [],us,r=>by rw[J7]at r;cases r;rfl
 | b::bs,us,r=>by
  rw[D7]at r
  cases r with
  | cons r1 r2=>
   cases(show _=Value.bool b from r1)
   rw[wO r2]
   rfl
A9 Ln(bs:List Bool):((K4 bs.length).all fun i=>(bs[i]?).getD true)=bs.all id:=by
 rw[F7,D9,D9]
 constructor
 ·intro h b hb
  A7⟨i,hi,rfl⟩:=V3 hb
  have:=h i (N1.mpr hi)
  simpa[hi]using this
 ·intro h i hi
  have hi':=N1.mp hi
  simp only[B6 hi',X3]
  ~h _ (X4 hi')
A9 BZ{s:Shared}{h':Heap}{o:Obj}(hk:∀b x,b∉[s.heap.objs.size]→(s.heap.push o).get? b=some x→h'.get? b=some x):∀b x,s.heap.get? b=some x→h'.get? b=some x:=
 fun b x e=>hk b x (fun hm=>by rw[F6.mp hm]at e;~G3 _ (Heap.lt_size e)) (Heap.get?_push_of_some _ e)
A9 Vf(hc:X.calm=true):iV X (.builtin "all") (fun xs H Q=>∃(p:Addr)(bs:List Bool),xs=[.ref p]∧mC X.K H p (bs.map V.bl)∧Q (.bl (bs.all id)) H):=by
 intro pins s σ H xs us Q I r h
 A7⟨p,bs,rfl,hq,q⟩:=h
 A7⟨u,rfl,rx⟩:=vals1 r
 cases rx
 A7⟨its,rv,pl,hz⟩:=I.list hq
 have hb:=wO rv
 subst hb
 have hl:=pl.isList
 have hlt:p<s.heap.objs.size:=by A7⟨_,e,_⟩:=hl;~Heap.lt_size e
 &call_all_walk (wpAny_pyIter_list hl ?_)
 &⟨s.heap.objs.size,[s.heap.objs.size,p],[s.heap.objs.size],_,_,_,fun i=>(bs[i]?).getD true,rfl,Walks.list (A:=X.A.in1) (I.ok.hd hc) _ p (F2 hlt) _,
  ⟨⟨_,Heap.get?_push_size _ rfl,rfl,rfl⟩,hl.push _⟩,fun i v s' Q' E' hP hQ=>?_,fun h' tk hk=>?_⟩
 ·have e:(bs.map Value.bool)[i]?=some v:=by simpa using hP
  rw[D5]at e
  cases e2:bs[i]? with
  | none=>rw[e2]at e;cases e
  | some b=>
   rw[e2]at e
   cases e
   simp only[e2,X3]at hQ
   ~wpAny_truthy_bool hQ
 ·have e:((K4 (bs.map Value.bool).toArray.size).all fun i=>(bs[i]?).getD true)=bs.all id:=by
   rw[B7,B3];~Ln bs
  rw[e]
  ~⟨.bl _,H,I.kept (BZ hk),rfl,q⟩
end
inductive DV where
  | int (i:Int) | non | lst (ds:List DV) | tup (ds:List DV)
mutual
def Reads(K:aA)(H:Hp):DV→V→Prop
 | .int i,x=>x=.int i
 | .non,x=>x=.non
 | .lst ds,x=>∃a xs,x=.ref a∧mC K H a xs∧bT K H ds xs
 | .tup ds,x=>∃a xs,x=.ref a∧pI K H a xs∧bT K H ds xs
def bT(K:aA)(H:Hp):List DV→List V→Prop
 | [],xs=>xs=[]
 | d::ds,xs=>∃y ys,xs=y::ys∧Reads K H d y∧bT K H ds ys
end
mutual
def DV.depth:DV→Nat
 | .int _=>0
 | .non=>0
 | .lst ds=>cY ds+1
 | .tup ds=>cY ds+1
def cY:List DV→Nat
 | []=>0
 | d::ds=>max d.depth (cY ds)
end
A9 bT.length{K:aA}{H:Hp}:∀{ds:List DV} {xs:List V},bT K H ds xs→xs.length=ds.length
 | [],xs,h=>by
  A8 bT at h
  rw[h]
  rfl
 | d::ds,xs,h=>by
  A8 bT at h
  A7⟨y,ys,rfl,_,h2⟩:=h
  simp[bT.length h2]
A9 bT.get{K:aA}{H:Hp}:∀{ds:List DV} {xs:List V} {i:Nat} {d:DV},bT K H ds xs→ds[i]?=some d→∃x,xs[i]?=some x∧Reads K H d x
 | [],xs,i,d,h,e=>by simp at e
 | d'::ds,xs,0,d,h,e=>by
  A8 bT at h
  A7⟨y,ys,rfl,h1,_⟩:=h
  simp at e
  subst e
  ~⟨y,rfl,h1⟩
 | d'::ds,xs,i+1,d,h,e=>by
  A8 bT at h
  A7⟨y,ys,rfl,_,h2⟩:=h
  A7⟨x,e1,e2⟩:=bT.get h2 (by simpa using e)
  ~⟨x,by simpa using e1,e2⟩
A9 yP:∀{ds:List DV} {i:Nat} {d:DV},ds[i]?=some d→d.depth≤cY ds
 | [],i,d,e=>by simp at e
 | d'::ds,0,d,e=>by
  simp at e
  subst e
  A8 cY
  ~Nat.le_max_left _ _
 | d'::ds,i+1,d,e=>by
  have:=yP (ds:=ds) (i:=i) (d:=d) (by simpa using e)
  A8 cY
  ~F0 this (Nat.le_max_right _ _)
A9 Lp(A:Around):A.in1.units=A.units+1:=rfl
section
open SeqAt
open Classical in
noncomputable def pP(d e:DV):Bool:=decide (d=e)
A9 nP{d e:DV}:pP d e=true↔d=e:=by A8 pP;simp
A9 pQ(d:DV):pP d d=true:=nP.mpr rfl
A9 eO{d e:DV}(h:d≠e):pP d e=false:=by A8 pP;simp[h]
A9 CG(a b:Int):pP (.int a) (.int b)=(a==b):=by
 by_cases h:a=b
 ·subst h;simp[pQ]
 ·rw[eO (by simpa using h)];simp[h]
open Classical in
A9 jX{ds es:List DV}(hl:ds.length=es.length):((K4 ds.length).all fun i=>match ds[i]?,es[i]? with | some d,some e=>pP d e | _,_=>true)=decide (ds=es):=by
 rw[F7,D9,decide_eq_true_iff]
 constructor
 ·intro h
  apply X5 hl
  intro i h1 h2
  have:=h i (N1.mpr h1)
  simp only[B6 h1,B6 h2]at this
  ~nP.mp this
 ·rintro rfl i hi
  have hi':=N1.mp hi
  simp only[B6 hi']
  ~pQ _
variable{X:Cx}{pins:List (Addr×Obj)}{σ:St}{H:Hp}{s:Shared}
open Classical in
A9 Oq(ds es:List DV):pP (.lst ds) (.lst es)=decide (ds=es):=by
 by_cases h:ds=es
 ·subst h;simp[pQ]
 ·rw[eO (by intro z;cases z;~h rfl)];simp[h]
open Classical in
A9 Ot(ds es:List DV):pP (.tup ds) (.tup es)=decide (ds=es):=by
 by_cases h:ds=es
 ·subst h;simp[pQ]
 ·rw[eO (by intro z;cases z;~h rfl)];simp[h]
A9 De(I:Inv X pins σ H s):∀(n:Nat)(d e:DV)(x:V),d.depth≤n→Reads X.K H d x→Reads X.K H e x→d=e:=by
 have lists:∀(n:Nat),(∀(d e:DV)(x:V),d.depth≤n→Reads X.K H d x→Reads X.K H e x→d=e)→∀(ds es:List DV)(xs:List V),cY ds≤n→bT X.K H ds xs→bT X.K H es xs→ds=es:=by
  intro n ih ds
  induction ds with
  | nil=>
   intro es xs _ h1 h2
   have l1:=h1.length
   have l2:=h2.length
   cases es with
   | nil=>rfl
   | cons _ _=>rw[l1]at l2;simp at l2
  | cons d ds ihl=>
   intro es xs hd h1 h2
   have hd1:d.depth≤n:=by A8 cY at hd;omega
   have hd2:cY ds≤n:=by A8 cY at hd;omega
   A8 bT at h1
   A7⟨y,ys,rfl,a1,a2⟩:=h1
   cases es with
   | nil=>have:=h2.length;simp at this
   | cons e es=>
    A8 bT at h2
    A7⟨y',ys',q,b1,b2⟩:=h2
    cases q
    rw[ih d e y hd1 a1 b1,ihl es ys hd2 a2 b2]
 have kinds:∀{a:Addr} {xs ys:List V},mC X.K H a xs→pI X.K H a ys→False:=fun{a xs ys} h1 h2=>by
  A7⟨_,_,p1,_⟩:=I.list h1
  A7⟨_,_,p2,_⟩:=I.tuple h2
  ~ne_of_list_tuple p1.isList (show s.heap.IsTuple a _ from p2) rfl
 intro n
 induction n with
 | zero=>
  intro d e x hd h1 h2
  cases d with
  | int i=>
   A8 Reads at h1
   subst h1
   cases e with
   | int j=>A8 Reads at h2;cases h2;rfl
   | non=>A8 Reads at h2;cases h2
   | lst es=>A8 Reads at h2;A7⟨_,_,q,_⟩:=h2;cases q
   | tup es=>A8 Reads at h2;A7⟨_,_,q,_⟩:=h2;cases q
  | non=>
   A8 Reads at h1
   subst h1
   cases e with
   | non=>rfl
   | int j=>A8 Reads at h2;cases h2
   | lst es=>A8 Reads at h2;A7⟨_,_,q,_⟩:=h2;cases q
   | tup es=>A8 Reads at h2;A7⟨_,_,q,_⟩:=h2;cases q
  | lst ds=>A8 DV.depth at hd;omega
  | tup ds=>A8 DV.depth at hd;omega
 | succ n ih=>
  intro d e x hd h1 h2
  cases d with
  | int i=>
   A8 Reads at h1
   subst h1
   cases e with
   | int j=>A8 Reads at h2;cases h2;rfl
   | non=>A8 Reads at h2;cases h2
   | lst es=>A8 Reads at h2;A7⟨_,_,q,_⟩:=h2;cases q
   | tup es=>A8 Reads at h2;A7⟨_,_,q,_⟩:=h2;cases q
  | non=>
   A8 Reads at h1
   subst h1
   cases e with
   | non=>rfl
   | int j=>A8 Reads at h2;cases h2
   | lst es=>A8 Reads at h2;A7⟨_,_,q,_⟩:=h2;cases q
   | tup es=>A8 Reads at h2;A7⟨_,_,q,_⟩:=h2;cases q
  | lst ds=>
   A8 Reads at h1
   A7⟨a,xs,rfl,hq,r⟩:=h1
   cases e with
   | int j=>A8 Reads at h2;cases h2
   | non=>A8 Reads at h2;cases h2
   | lst es=>
    A8 Reads at h2
    A7⟨b,ys,q,hq2,r2⟩:=h2
    cases q
    have:=I.Hy hq hq2
    subst this
    rw[lists n ih ds es xs (by A8 DV.depth at hd;omega) r r2]
   | tup es=>
    A8 Reads at h2
    A7⟨b,ys,q,hq2,r2⟩:=h2
    cases q
    ~(kinds hq hq2).elim
  | tup ds=>
   A8 Reads at h1
   A7⟨a,xs,rfl,hq,r⟩:=h1
   cases e with
   | int j=>A8 Reads at h2;cases h2
   | non=>A8 Reads at h2;cases h2
   | lst es=>
    A8 Reads at h2
    A7⟨b,ys,q,hq2,r2⟩:=h2
    cases q
    ~(kinds hq2 hq).elim
   | tup es=>
    A8 Reads at h2
    A7⟨b,ys,q,hq2,r2⟩:=h2
    cases q
    have:=I.Cg hq hq2
    subst this
    rw[lists n ih ds es xs (by A8 DV.depth at hd;omega) r r2]
A9 Vg(I:Inv X pins σ H s)(i:Int)(e:DV)(y:V)(u v:Value)(A:Around)(hu:A.units<cLine)(r2:Reads X.K H e y)(rx:RelV (.int i) u)(ry:RelV y v):RcAt A s u v (pP (.int i) e)∧EqAt A s u v (pP (.int i) e):=by
 A7⟨t,rfl⟩:=rx
 cases e with
 | int j=>
  A8 Reads at r2
  subst r2
  A7⟨t',rfl⟩:=ry
  rw[CG]
  ~⟨RcAt.int_int _ _ _ _,EqAt.int_int _ _ _ _⟩
 | non=>
  A8 Reads at r2
  subst r2
  cases ry
  rw[eO (by intro z;cases z)]
  ~⟨RcAt.int_none _ _,EqAt.int_none _ _⟩
 | lst es=>
  A8 Reads at r2
  A7⟨b,ys,rfl,hq,_⟩:=r2
  cases ry
  A7⟨its,_,pl,_⟩:=I.list hq
  rw[eO (by intro z;cases z)]
  ~⟨RcAt.int_list _ _ pl.isList (hu),EqAt.int_list _ _ pl.isList (hu)⟩
 | tup es=>
  A8 Reads at r2
  A7⟨b,ys,rfl,hq,_⟩:=r2
  cases ry
  A7⟨its,_,pl,_⟩:=I.tuple hq
  rw[eO (by intro z;cases z)]
  ~⟨RcAt.int_tuple _ _ pl (hu),EqAt.int_tuple _ _ pl (hu)⟩
A9 Vh(I:Inv X pins σ H s)(e:DV)(y:V)(u v:Value)(A:Around)(hu:A.units<cLine)(r2:Reads X.K H e y)(rx:RelV .non u)(ry:RelV y v):RcAt A s u v (pP .non e)∧EqAt A s u v (pP .non e):=by
 cases rx
 cases e with
 | non=>
  A8 Reads at r2
  subst r2
  cases ry
  rw[pQ]
  ~⟨RcAt.none_none,EqAt.same _⟩
 | int j=>
  A8 Reads at r2
  subst r2
  A7⟨t',rfl⟩:=ry
  rw[eO (by intro z;cases z)]
  ~⟨RcAt.none_int _ _,EqAt.none_int _ _⟩
 | lst es=>
  A8 Reads at r2
  A7⟨b,ys,rfl,hq,_⟩:=r2
  cases ry
  A7⟨its,_,pl,_⟩:=I.list hq
  rw[eO (by intro z;cases z)]
  ~⟨RcAt.none_list pl.isList hu,EqAt.none_list pl.isList hu⟩
 | tup es=>
  A8 Reads at r2
  A7⟨b,ys,rfl,hq,_⟩:=r2
  cases ry
  A7⟨its,_,pl,_⟩:=I.tuple hq
  rw[eO (by intro z;cases z)]
  ~⟨RcAt.none_tuple pl hu,EqAt.none_tuple pl hu⟩
A9 yQ(I:Inv X pins σ H s):∀(n:Nat)(A:Around),(∀(d e:DV)(x y:V)(u v:Value)(A:Around),d.depth≤n→A.units+n<cLine→Reads X.K H d x→Reads X.K H e y→RelV x u→RelV y v→RcAt A s u v (pP d e)∧EqAt A s u v (pP d e)) →
  ∀(ds es:List DV)(xs ys:List V)(us vs:List Value),cY ds≤n→A.units+(n+1)<cLine→bT X.K H ds xs→bT X.K H es ys→Vals xs us→Vals ys vs →
  ∀j (h1:j<us.toArray.size) (h2:j<vs.toArray.size),EqAt A.in1 s us.toArray[j] vs.toArray[j] (match ds[j]?,es[j]? with | some d,some e=>pP d e | _,_=>true):=by
 intro n A ih ds es xs ys us vs hd hu r1 r2 v1 v2 j h1 h2
 have l1:j<ds.length:=by rw[←r1.length,v1.length];simpa using h1
 have l2:j<es.length:=by rw[←r2.length,v2.length];simpa using h2
 A7⟨x,ex,rx⟩:=r1.get (i:=j) (d:=ds[j]) (by simp)
 A7⟨y,ey,ry⟩:=r2.get (i:=j) (d:=es[j]) (by simp)
 A7⟨u,eu,ru⟩:=v1.get ex
 A7⟨v,ev,rv⟩:=v2.get ey
 have e1:us.toArray[j]=u:=by
  rw[C4]at eu
  A7⟨_,eu⟩:=eu
  simpa using eu
 have e2:vs.toArray[j]=v:=by
  rw[C4]at ev
  A7⟨_,ev⟩:=ev
  simpa using ev
 rw[e1,e2]
 simp only[B6 l1,B6 l2]
 ~(ih _ _ x y u v A.in1 (F0 (yP (i:=j) (by simp)) hd) (by rw[Lp];omega) rx ry ru rv).2
A9 Fg(I:Inv X pins σ H s):∀(n:Nat)(d e:DV)(x y:V)(u v:Value)(A:Around),d.depth≤n→A.units+n<cLine→Reads X.K H d x→Reads X.K H e y→RelV x u→RelV y v→RcAt A s u v (pP d e)∧EqAt A s u v (pP d e):=by
 have items:=yQ I
 have seqs:∀(n:Nat)(A:Around),(∀(d e:DV)(x y:V)(u v:Value)(A:Around),d.depth≤n→A.units+n<cLine→Reads X.K H d x→Reads X.K H e y→RelV x u→RelV y v→RcAt A s u v (pP d e)∧EqAt A s u v (pP d e)) →
   ∀(d e:DV)(x y:V)(u v:Value),d.depth≤n+1→A.units+(n+1)<cLine→Reads X.K H d x→Reads X.K H e y→RelV x u→RelV y v→RcAt A s u v (pP d e)∧EqAt A s u v (pP d e):=by
  intro n A ih d e x y u v hd hu r1 r2 rx ry
  have of_same:∀{a b:Addr} {k:Bool},(a=b→k=true)→RcAt A s (.ref a) (.ref b) k→EqAt A s (.ref a) (.ref b) k:=fun{a b k} hk h=>by
   by_cases hab:a=b
   ·subst hab
    rw[hk rfl]
    ~EqAt.same _
   ·~EqAt.of_refs hab h
  cases d with
  | int i=>
   A8 Reads at r1
   subst r1
   ~Vg I i e y u v A A3 r2 rx ry
  | non=>
   A8 Reads at r1
   subst r1
   ~Vh I e y u v A A3 r2 rx ry
  | lst ds=>
   A8 Reads at r1
   A7⟨a,xs,rfl,hq1,Sd⟩:=r1
   cases rx
   A7⟨xK,v1,xT,_⟩:=I.list hq1
   have hd':cY ds≤n:=by A8 DV.depth at hd;omega
   cases e with
   | int j=>
    A8 Reads at r2
    subst r2
    A7⟨t',rfl⟩:=ry
    rw[eO (by intro z;cases z)]
    ~⟨RcAt.list_int _ _ xT.isList A3,EqAt.list_int _ _ xT.isList A3⟩
   | non=>
    A8 Reads at r2
    subst r2
    cases ry
    rw[eO (by intro z;cases z)]
    ~⟨RcAt.list_none xT.isList A3,EqAt.list_none xT.isList A3⟩
   | lst es=>
    A8 Reads at r2
    A7⟨b,ys,rfl,hq2,Lq⟩:=r2
    cases ry
    A7⟨its2,v2,Df,_⟩:=I.list hq2
    have e1:xK.toArray.size=ds.length:=by rw[B7,←v1.length,Sd.length]
    have e2:its2.toArray.size=es.length:=by rw[B7,←v2.length,Lq.length]
    have rc:RcAt A s (.ref a) (.ref b) (pP (.lst ds) (.lst es)):=by
     by_cases hl:ds.length=es.length
     ·have q:=RcAt.lists (A:=A) (s:=s) xT.isList Df.isList (by rw[e1,e2];~hl) A3 (items n A ih ds es xs ys xK its2 hd' hu Sd Lq v1 v2)
      rw[e1,jX hl]at q
      rw[Oq]
      ~q
     ·rw[eO (by intro z;cases z;~hl rfl)]
      ~RcAt.lists_lengths xT.isList Df.isList (by rw[e1,e2];simpa using hl) A3
    ~⟨rc,of_same (fun hab=>by
     subst hab
     &nP.mpr (De I (n+1) _ _ (.ref a) hd ?_ ?_)
     ·A8 Reads
      ~⟨a,xs,rfl,hq1,Sd⟩
     ·A8 Reads
      ~⟨a,ys,rfl,hq2,Lq⟩) rc⟩
   | tup es=>
    A8 Reads at r2
    A7⟨b,ys,rfl,hq2,Lq⟩:=r2
    cases ry
    A7⟨its2,v2,Df,_⟩:=I.tuple hq2
    rw[eO (by intro z;cases z)]
    ~⟨RcAt.list_tuple xT.isList Df A3,EqAt.list_tuple xT.isList Df A3⟩
  | tup ds=>
   A8 Reads at r1
   A7⟨a,xs,rfl,hq1,Sd⟩:=r1
   cases rx
   A7⟨xK,v1,xT,_⟩:=I.tuple hq1
   have hd':cY ds≤n:=by A8 DV.depth at hd;omega
   cases e with
   | int j=>
    A8 Reads at r2
    subst r2
    A7⟨t',rfl⟩:=ry
    rw[eO (by intro z;cases z)]
    ~⟨RcAt.tuple_int _ _ xT A3,EqAt.tuple_int _ _ xT A3⟩
   | non=>
    A8 Reads at r2
    subst r2
    cases ry
    rw[eO (by intro z;cases z)]
    ~⟨RcAt.tuple_none xT A3,EqAt.tuple_none xT A3⟩
   | lst es=>
    A8 Reads at r2
    A7⟨b,ys,rfl,hq2,Lq⟩:=r2
    cases ry
    A7⟨its2,v2,Df,_⟩:=I.list hq2
    rw[eO (by intro z;cases z)]
    ~⟨RcAt.tuple_list xT Df.isList A3,EqAt.tuple_list xT Df.isList A3⟩
   | tup es=>
    A8 Reads at r2
    A7⟨b,ys,rfl,hq2,Lq⟩:=r2
    cases ry
    A7⟨its2,v2,Df,_⟩:=I.tuple hq2
    have e1:xK.toArray.size=ds.length:=by rw[B7,←v1.length,Sd.length]
    have e2:its2.toArray.size=es.length:=by rw[B7,←v2.length,Lq.length]
    have rc:RcAt A s (.ref a) (.ref b) (pP (.tup ds) (.tup es)):=by
     have q:=RcAt.tuples (A:=A) (s:=s) (l:=a) (b:=b) xT Df A3 (items n A ih ds es xs ys xK its2 hd' hu Sd Lq v1 v2)
     rw[e1,e2]at q
     by_cases hl:ds.length=es.length
     ·rw[←hl,Nat.min_self,jX hl]at q
      rw[Ot]
      simpa using q
     ·rw[eO (by intro z;cases z;~hl rfl)]
      have z:(ds.length==es.length)=false:=by simpa using hl
      rw[z,Y3]at q
      ~q
    ~⟨rc,of_same (fun hab=>by
     subst hab
     &nP.mpr (De I (n+1) _ _ (.ref a) hd ?_ ?_)
     ·A8 Reads
      ~⟨a,xs,rfl,hq1,Sd⟩
     ·A8 Reads
      ~⟨a,ys,rfl,hq2,Lq⟩) rc⟩
 intro n
 induction n with
 | zero=>
  intro d e x y u v A hd hu r1 r2 rx ry
  cases d with
  | int i=>
   A8 Reads at r1
   subst r1
   ~Vg I i e y u v A A3 r2 rx ry
  | non=>
   A8 Reads at r1
   subst r1
   ~Vh I e y u v A A3 r2 rx ry
  | lst ds=>A8 DV.depth at hd;omega
  | tup ds=>A8 DV.depth at hd;omega
 | succ n ih=>
  intro d e x y u v A hd hu r1 r2 rx ry
  ~seqs n A ih d e x y u v hd hu r1 r2 rx ry
end
section
variable{X:Cx}
def UL(K:aA)(neg:Bool):R2:=fun x y H Q=>∃d e,Reads K H d x∧Reads K H e y∧d.depth≤32∧Q (.bl (if neg then !pP d e else pP d e)) H
A9 UT(hu:X.A.units+64<cLine):lQ X (compareOp .Eq) (UL X.K false):=by
 intro pins s σ H x y v u Q I rx ry h
 A7⟨d,e,r1,r2,hd,q⟩:=h
 ~(Fg I 32 d e x y v u X.A hd A3 r1 r2 rx ry).1 X.prog X.w X.xe _ ⟨.bl _,H,I,rfl,q⟩
open SeqAt in
A9 UW(hu:X.A.units+64<cLine):lQ X (compareOp .NotEq) (fun x y H Q=>∃ds es,Reads X.K H (.lst ds) x∧Reads X.K H (.lst es) y∧cY ds≤32∧Q (.bl (!pP (.lst ds) (.lst es))) H):=by
 intro pins s σ H x y v u Q I rx ry h
 A7⟨ds,es,r1,r2,hd,q⟩:=h
 A8 Reads at r1 r2
 A7⟨a,xs,rfl,hq1,Sd⟩:=r1
 A7⟨b,ys,rfl,hq2,Lq⟩:=r2
 cases rx
 cases ry
 A7⟨xK,v1,xT,_⟩:=I.list hq1
 A7⟨its2,v2,Df,_⟩:=I.list hq2
 have e1:xK.toArray.size=ds.length:=by rw[B7,←v1.length,Sd.length]
 have e2:its2.toArray.size=es.length:=by rw[B7,←v2.length,Lq.length]
 have rc:RcNeAt X.A s (.ref a) (.ref b) (!pP (.lst ds) (.lst es)):=by
  by_cases hl:ds.length=es.length
  ·have z:=RcNeAt.lists (A:=X.A) (s:=s) xT.isList Df.isList (by rw[e1,e2];~hl) A3 (yQ I 32 X.A (fun d e x y u v A a1 a2 a3 a4 a5 a6=>Fg I 32 d e x y u v A a1 a2 a3 a4 a5 a6) ds es xs ys xK its2 hd A3 Sd Lq v1 v2)
   rw[e1,jX hl]at z
   rw[Oq]
   ~z
  ·rw[eO (by intro z;cases z;~hl rfl)]
   ~RcNeAt.lists_lengths xT.isList Df.isList (by rw[e1,e2];simpa using hl) A3
 ~rc X.prog X.w X.xe _ ⟨.bl _,H,I,rfl,q⟩
end
end L2


namespace L2
open PySem PySem.Spec PyProof.Rows
structure Raw(K:aA)(mg:Str→Option Value)(x:Str)(st:Stmt):Prop where
 ex:∃f fd,Zb K x x st f fd∧mg x=some (.ref f)
A9 VB{K:aA}{h:Heap}{mg:Str→Option Value}{x:Str}{st:Stmt}{f:Addr}{oc:Value}{od an:Option Addr}{osl:Array (Option Value)}{kV doc pm cdv ct:Value}(X:K.In h)(G:h.Ns mainGlobals mg)
  (a:G7 K mainGlobals x=some (some (.ref f))) (l:K.lookup f=some ⟨oc,od,.func (G6 x x (fV st) (cQ st) (aM st) .none kV doc pm an cdv ct),osl⟩)
  (c:N7 K cdv x=true) (k:K6 K (.ref f)=true):Raw K mg x st:=⟨⟨f,_,UG l c k,G4 X G a⟩⟩
structure mG(P:Program)(w:World)(K:aA)(mg:Str→Option Value)(base:Heap)(x:Str)(k:Nat)(n:Nat)(sp:Sp):Prop where
 ex:∃f fd ps,ps.length=n∧uD P w K mg base Ue k f fd ps sp∧Binds K fd ps []∧K6 K (.ref f)=true∧mg x=some (.ref f)
A9 Raw.cal{P:Program}{w:World}{K:aA}{mg:Str→Option Value}{base:Heap}{x:Str}{st:Stmt}{N ps:List Str}{k:Nat}{sp:Sp}(R:Raw K mg x st)(S:bO N ps (aM st))(len:∀vs H Q E,sp vs H Q E→vs.length=ps.length)
  (hb:∀(kV doc pm:Value)(an:Option Addr)(cdv ct:Value)(us:List Value),us.length=ps.length→bindArgs (G6 x x (fV st) (cQ st) (aM st) .none kV doc pm an cdv ct) ⟨us,[]⟩=pure (ps.zip us))
  (hbody:∀(f:Addr)(cdv:Value)(A:Around)(outer:List Env)(s:Shared)(H:Hp)(vs:List V)(Q:VK)(E:XK),kI k (A.deeper (envOfC x (aM st) s.heap.objs.size f cdv))→sp vs H Q E →
   ∃t,Ce (jL Ue P w K mg base N x (aM st) f cdv A outer s H E).RC (cQ st) t∧t {nx:=fun _ H'=>Q .non H',rt:=Q} (start N vs) H):mG P w K mg base x (k+1) ps.length sp:=by
 A7⟨f,fd,F,m⟩:=R.ex
 ~⟨f,fd,ps,rfl,F.ok S len fun cdv A outer s H vs Q E hr h=>hbody f cdv A outer s H vs Q E hr h,F.binds hb,F.kp,m⟩
A9 VD{X:Cx}{x:Str}{k n:Nat}{sp:Sp}{e:Expr}{es:List Expr}{p pos:Pos}{t:TA}(C:mG X.prog X.w X.K X.mg X.base x k n sp)(hr:kI k X.A)(hg:Gl X x)
  (ha:PA X (e::es) t) (hdb:(x==("__debug__" : Str))=false:=by decide) (he:starEach (e::es) X.env=(false,eval e X.env)::starEach es X.env:=by rfl) (hpl:(backTo pos (starEach es X.env)).any (·.1)=false:=by rfl) :
  PE X (.Call (.Name x p) (e::es) [] pos) (Cq sp [] E0 t):=by
 A7⟨f,fd,ps,_,F,hb,hk,hm⟩:=C.ex
 ~Zu F hr hg hm hk hb .nil jt ha hdb he hpl
A9 call_of{sp:Sp}{E:XK}{t:TA}{σ:St}{H:Hp}{Q:VK}(h:t σ H fun vs H1=>sp vs H1 Q E):Cq sp [] E t σ H Q:=by
 A8 Cq
 have e:(fun(vs:List V) (H1:Hp)=>sp (vs++[]) H1 Q E)=fun vs H1=>sp vs H1 Q E:=by funext vs H1;rw[U1]
 rw[e]
 ~h
A9 cM{H:Hp}{p:Addr}(h:H p=none)(o:HO):aN H (upd H p o):=fun b u q=>by rw[bH (gC q h)];~q
A9 aN.tup{K:aA}{H H':Hp}{a:Addr}{xs:List V}(e:aN H H')(h:pI K H a xs):pI K H' a xs:=by
 rcases h with (h | ⟨o,h⟩) | h
 ·~.inl (.inl (e _ _ h))
 ·~.inl (.inr ⟨o,e _ _ h⟩)
 ·~.inr h
mutual
A9 aN.reads{K:aA}{H H':Hp}(e:aN H H'):∀(d:DV)(x:V),Reads K H d x→Reads K H' d x
 | .int i,x,h=>by A8 Reads at h ⊢;~h
 | .non,x,h=>by A8 Reads at h ⊢;~h
 | .lst ds,x,h=>by
  A8 Reads at h ⊢
  A7⟨a,xs,r,hq,l⟩:=h
  ~⟨a,xs,r,e.seq hq,aN.Lr e ds xs l⟩
 | .tup ds,x,h=>by
  A8 Reads at h ⊢
  A7⟨a,xs,r,hq,l⟩:=h
  ~⟨a,xs,r,e.tup hq,aN.Lr e ds xs l⟩
A9 aN.Lr{K:aA}{H H':Hp}(e:aN H H'):∀(ds:List DV)(xs:List V),bT K H ds xs→bT K H' ds xs
 | [],xs,h=>by A8 bT at h ⊢;~h
 | d::ds,xs,h=>by
  A8 bT at h ⊢
  A7⟨y,ys,r,h1,h2⟩:=h
  ~⟨y,ys,r,aN.reads e d y h1,aN.Lr e ds ys h2⟩
end
A9 sZ:∀ns:List Int,cY (ns.map DV.int)=0
 | []=>by rw[J7];A8 cY;rfl
 | n::ns=>by rw[D7];A8 cY DV.depth;rw[sZ ns];rfl
A9 Ip{ns ms:List Int}:ns.map DV.int=ms.map DV.int↔ns=ms:=by
 constructor
 ·intro h
  have:∀(a b:Int),DV.int a=DV.int b→a=b:=fun a b e=>by cases e;rfl
  ~(List.map_inj_right this).mp h
 ·rintro rfl;rfl
A9 zf{xs:List V}{k:Int}{v:V}(h0:0≤k)(h:xs[k.toNat]?=some v):Ik xs k=some v:=by
 have ek:k=((k.toNat:Nat):Int):=by omega
 rw[ek]
 ~Zy h
def mk(ns:List Int):List (Key×V):=ns.foldl (fun kvs n=>putK kvs (R9 n) (V.bl true)) []
end L2
namespace L2
A9 dC.at{scope:PySem.Scope}{N:List PySem.Str}{k:Nat}{fr:List Nat}(Hv:PySem.Scope)(oN:List PySem.Str)(h:Ve Hv scope oN N k fr=true):dC Hv scope oN N k fr:=dC.of h
end L2
namespace L2
open PySem PySem.Spec PyProof.Rows
def uE(H:Hp)(p:Addr):Prop:=(∀xs,H p≠some (.tup xs))∧∀o xs,H p≠some (.tZ o (.tup xs))
A9 rC{H:Hp}{p:Addr}{xs:List V}(h:H p=some (.lst xs)):uE H p:=⟨fun ys e=>(by rw[h]at e;cases e),fun o ys e=>(by rw[h]at e;cases e)⟩
A9 Vi{H:Hp}{p:Addr}{kvs:List (Key×V)}(h:H p=some (.dK kvs)):uE H p:=⟨fun ys e=>(by rw[h]at e;cases e),fun o ys e=>(by rw[h]at e;cases e)⟩
A9 pI.upd{K:aA}{H:Hp}{a p:Addr}{xs:List V}{o:HO}(h:pI K H a xs)(n:uE H p):pI K (upd H p o) a xs:=by
 rcases h with (h | ⟨u,h⟩) | h
 ·~.inl (.inl (by rw[bH (fun z=>n.1 xs (by rw[←z];~h))];~h))
 ·~.inl (.inr ⟨u,by rw[bH (fun z=>n.2 u xs (by rw[←z];~h))];~h⟩)
 ·~.inr h
mutual
def eX:DV→Bool
 | .int _=>true
 | .non=>true
 | .lst _=>false
 | .tup ds=>cT ds
def cT:List DV→Bool
 | []=>true
 | d::ds=>eX d&&cT ds
end
mutual
A9 Sg{K:aA}{H:Hp}{p:Addr}{o:HO}(n:uE H p):∀(d:DV)(x:V),eX d=true→Reads K H d x→Reads K (upd H p o) d x
 | .int i,x,_,h=>by A8 Reads at h ⊢;~h
 | .non,x,_,h=>by A8 Reads at h ⊢;~h
 | .lst ds,x,hi,h=>by A8 eX at hi;cases hi
 | .tup ds,x,hi,h=>by
  A8 eX at hi
  A8 Reads at h ⊢
  A7⟨a,xs,r,hq,l⟩:=h
  ~⟨a,xs,r,hq.upd n,yR n ds xs hi l⟩
A9 yR{K:aA}{H:Hp}{p:Addr}{o:HO}(n:uE H p):∀(ds:List DV)(xs:List V),cT ds=true→bT K H ds xs→bT K (upd H p o) ds xs
 | [],xs,_,h=>by A8 bT at h ⊢;~h
 | d::ds,xs,hi,h=>by
  A8 cT at hi
  rw[B4]at hi
  A8 bT at h ⊢
  A7⟨y,ys,r,h1,h2⟩:=h
  ~⟨y,ys,r,Sg n d y hi.1 h1,yR n ds ys hi.2 h2⟩
end
end L2
namespace L2
open PySem PySem.Spec PyProof.Rows
section
variable{X:Cx}
end
end L2
namespace L2
open PySem PySem.Spec PyProof.Rows
end L2
namespace L2
open PySem PySem.Spec PyProof.Rows
section
variable{X:Cx}
end
end L2


namespace L2
open PySem PySem.Spec PyProof.Rows
section
variable{X:Cx}
open SeqAt in
A9 VF(hu:X.A.units+64<cLine):lQ X (compareOp .NotEq) (fun x y H Q=>∃ds es,Reads X.K H (.tup ds) x∧Reads X.K H (.tup es) y∧cY ds≤32∧Q (.bl (!pP (.tup ds) (.tup es))) H):=by
 intro pins s σ H x y v u Q I rx ry h
 A7⟨ds,es,r1,r2,hd,q⟩:=h
 A8 Reads at r1 r2
 A7⟨a,xs,rfl,hq1,Sd⟩:=r1
 A7⟨b,ys,rfl,hq2,Lq⟩:=r2
 cases rx
 cases ry
 A7⟨xK,v1,xT,_⟩:=I.tuple hq1
 A7⟨its2,v2,Df,_⟩:=I.tuple hq2
 have e1:xK.toArray.size=ds.length:=by rw[B7,←v1.length,Sd.length]
 have e2:its2.toArray.size=es.length:=by rw[B7,←v2.length,Lq.length]
 have rc:RcNeAt X.A s (.ref a) (.ref b) (!pP (.tup ds) (.tup es)):=by
  have z:=RcNeAt.tuples (A:=X.A) (s:=s) (l:=a) (b:=b) xT Df A3 (yQ I 32 X.A (fun d e x y u v A a1 a2 a3 a4 a5 a6=>Fg I 32 d e x y u v A a1 a2 a3 a4 a5 a6) ds es xs ys xK its2 hd A3 Sd Lq v1 v2)
  rw[e1,e2]at z
  by_cases hl:ds.length=es.length
  ·rw[←hl,Nat.min_self,jX hl]at z
   rw[Ot]
   simpa using z
  ·rw[eO (by intro z;cases z;~hl rfl)]
   have zz:(ds.length==es.length)=false:=by simpa using hl
   rw[zz,Y3]at z
   ~z
 ~rc X.prog X.w X.xe _ ⟨.bl _,H,I,rfl,q⟩
end
end L2


namespace L2
open PySem PySem.Spec PyProof.Rows
inductive D where
  | non | bl (b:Bool) | int (i:Int) | str (x:Str)
  | lst (ds:List D) | tup (ds:List D)
  | dk (ks:List Key) (ds:List D)
  | dt (ks:List (List Key)) (ds:List D)
  | ins (C:Addr) (nm:List Str) (ds:List D)
abbrev Fp:=Addr→Prop
def Apart(A B:Fp):Prop:=∀x,A x→¬B x
def Is(A B:Fp):Prop:=∀x,A x↔B x
def None(A:Fp):Prop:=∀x,¬A x
abbrev gZ(A B:Fp):Fp:=fun x=>A x∨B x
mutual
def Rv(K:aA)(H:Hp):D→V→Prop
 | .non,v=>v=.non
 | .bl b,v=>v=.bl b
 | .int i,v=>v=.int i
 | .str x,v=>v=.str x
 | .lst ds,v=>∃a xs,v=.ref a∧mC K H a xs∧cC K H ds xs
 | .tup ds,v=>∃a xs,v=.ref a∧pI K H a xs∧cC K H ds xs
 | .dk ks ds,v=>∃a xs,v=.ref a∧Rd H a (.dK (ks.zip xs))∧ks.length=xs.length∧cC K H ds xs
 | .dt ks ds,v=>∃a xs,v=.ref a∧Rd H a (.dT (ks.zip xs))∧ks.length=xs.length∧cC K H ds xs
 | .ins C nm ds,v=>∃a dx xs,v=.ref a∧H a=some (.ins C dx (nm.zip xs))∧nm.length=xs.length∧cC K H ds xs
def cC(K:aA)(H:Hp):List D→List V→Prop
 | [],xs=>xs=[]
 | d::ds,xs=>∃y ys,xs=y::ys∧Rv K H d y∧cC K H ds ys
end
A9 aN.rd{H H':Hp}(e:aN H H'){a:Addr}{u:HO}(h:Rd H a u):Rd H' a u:=by
 rcases h with h | ⟨o,h⟩
 ·~.inl (e _ _ h)
 ·~.inr ⟨o,e _ _ h⟩
mutual
A9 aN.rv{K:aA}{H H':Hp}(e:aN H H'):∀(d:D)(v:V),Rv K H d v→Rv K H' d v
 | .non,v,h=>by A8 Rv at h ⊢;~h
 | .bl _,v,h=>by A8 Rv at h ⊢;~h
 | .int _,v,h=>by A8 Rv at h ⊢;~h
 | .str _,v,h=>by A8 Rv at h ⊢;~h
 | .lst ds,v,h=>by A8 Rv at h ⊢;A7⟨a,xs,r,hq,l⟩:=h;~⟨a,xs,r,e.seq hq,aN.Ou e ds xs l⟩
 | .tup ds,v,h=>by A8 Rv at h ⊢;A7⟨a,xs,r,hq,l⟩:=h;~⟨a,xs,r,e.tup hq,aN.Ou e ds xs l⟩
 | .dk ks ds,v,h=>by A8 Rv at h ⊢;A7⟨a,xs,r,hq,hl,l⟩:=h;~⟨a,xs,r,e.rd hq,hl,aN.Ou e ds xs l⟩
 | .dt ks ds,v,h=>by A8 Rv at h ⊢;A7⟨a,xs,r,hq,hl,l⟩:=h;~⟨a,xs,r,e.rd hq,hl,aN.Ou e ds xs l⟩
 | .ins C nm ds,v,h=>by A8 Rv at h ⊢;A7⟨a,dx,xs,r,hq,hl,l⟩:=h;~⟨a,dx,xs,r,e _ _ hq,hl,aN.Ou e ds xs l⟩
A9 aN.Ou{K:aA}{H H':Hp}(e:aN H H'):∀(ds:List D)(xs:List V),cC K H ds xs→cC K H' ds xs
 | [],xs,h=>by A8 cC at h ⊢;~h
 | d::ds,xs,h=>by A8 cC at h ⊢;A7⟨y,ys,r,h1,h2⟩:=h;~⟨y,ys,r,aN.rv e d y h1,aN.Ou e ds ys h2⟩
end
A9 cC.length{K:aA}{H:Hp}:∀{ds:List D} {xs:List V},cC K H ds xs→xs.length=ds.length
 | [],xs,h=>by A8 cC at h;subst h;rfl
 | d::ds,xs,h=>by A8 cC at h;A7⟨y,ys,rfl,_,h2⟩:=h;rw[G8,G8,cC.length h2]
A9 cC.get{K:aA}{H:Hp}:∀{ds:List D} {xs:List V} {i:Nat} {d:D},cC K H ds xs→ds[i]?=some d→∃x,xs[i]?=some x∧Rv K H d x
 | [],xs,i,d,h,e=>by simp at e
 | d'::ds,xs,0,d,h,e=>by A8 cC at h;A7⟨y,ys,rfl,h1,_⟩:=h;simp at e;subst e;~⟨y,rfl,h1⟩
 | d'::ds,xs,i+1,d,h,e=>by
  A8 cC at h
  A7⟨y,ys,rfl,_,h2⟩:=h
  A7⟨x,e1,e2⟩:=cC.get (i:=i) (d:=d) h2 (by simpa using e)
  ~⟨x,by simpa using e1,e2⟩
A9 cC.of{K:aA}{H:Hp}:∀{ds:List D} {xs:List V},xs.length=ds.length→(∀(i:Nat)(d:D)(x:V),ds[i]?=some d→xs[i]?=some x→Rv K H d x)→cC K H ds xs
 | [],xs,hl,_=>by A8 cC;~List.eq_nil_of_length_eq_zero hl
 | d::ds,[],hl,_=>by simp at hl
 | d::ds,x::xs,hl,h=>by
  A8 cC
  ~⟨x,xs,rfl,h 0 d x rfl rfl,cC.of (by simpa using hl) fun i e y h1 h2=>h (i+1) e y (by simpa using h1) (by simpa using h2)⟩
def gA{α β:Type}(R:α→Fp→β→Prop):List α→Fp→List β→Prop
 | [],A,ys=>None A∧ys=[]
 | d::ds,A,ys=>∃y yt A1 A2,ys=y::yt∧Apart A1 A2∧Is A (gZ A1 A2)∧R d A1 y∧gA R ds A2 yt
section
variable{α β:Type}{R R':α→Fp→β→Prop}
A9 gA.congr:∀{ds:List α} {A A':Fp} {ys:List β},gA R ds A ys→Is A A'→gA R ds A' ys
 | [],A,A',ys,h,e=>⟨fun x q=>h.1 x ((e x).mpr q),h.2⟩
 | d::ds,A,A',ys,⟨y,yt,A1,A2,h1,h2,h3,h4⟩,e=>⟨y,yt,A1,A2,h1,h2,fun x=>((e x).symm).trans (h3 x),h4⟩
A9 gA.mono:∀{ds:List α} {A:Fp} {ys:List β},gA R ds A ys→(∀e B z,(∀x,B x→A x)→R e B z→R' e B z)→gA R' ds A ys
 | [],A,ys,h,_=>h
 | d::ds,A,ys,⟨y,yt,A1,A2,h1,h2,h3,h4,h5⟩,m=>
  ⟨y,yt,A1,A2,h1,h2,h3,m _ _ _ (fun x q=>(h3 x).mpr (.inl q)) h4,h5.mono fun e B z hb=>m e B z fun x q=>(h3 x).mpr (.inr (hb x q))⟩
A9 gA.len:∀{ds:List α} {A:Fp} {ys:List β},gA R ds A ys→ys.length=ds.length
 | [],A,ys,h=>by rw[h.2];rfl
 | d::ds,A,ys,⟨y,yt,A1,A2,h1,h2,h3,h4,h5⟩=>by rw[h1,G8,G8,h5.len]
A9 gA.focus:∀{ds:List α} {A:Fp} {ys:List β} {i:Nat} {d:α},gA R ds A ys→ds[i]?=some d→∃y A1 C,ys[i]?=some y∧Apart A1 C∧Is A (gZ A1 C)∧R d A1 y ∧
    ∀(R':α→Fp→β→Prop),(∀e B z,(∀x,B x→C x)→R e B z→R' e B z)→∀d' y' Zc,Apart Zc C→R' d' Zc y'→gA R' (ds.set i d') (gZ Zc C) (ys.set i y')
  | [],A,ys,i,d,h,e=>by simp at e
  | d0::ds,A,ys,0,d,⟨y,yt,A1,A2,h1,h2,h3,h4,h5⟩,e=>by
    simp at e
    subst e h1
    ~⟨y,A1,A2,rfl,h2,h3,h4,fun R' m d' y' Zc ap r=>⟨y',yt,Zc,A2,rfl,ap,fun x=>Iff.rfl,r,h5.mono m⟩⟩
  | d0::ds,A,ys,i+1,d,⟨y,yt,A1,A2,h1,h2,h3,h4,h5⟩,e=>by
    subst h1
    A7⟨z,B1,C,e1,ap,hA,r,k⟩:=gA.focus (i:=i) (d:=d) h5 (by simpa using e)
    &⟨z,B1,gZ A1 C,by simpa using e1,?_,?_,r,fun R' m d' y' Zc ap' r'=>?_⟩
    · intro x hx hc
      rcases hc with hc | hc
      · ~h2 x hc ((hA x).mpr (.inl hx))
      · ~ap x hx hc
    · intro x
      rw[h3 x]
      constructor
      · rintro(q | q)
        · ~.inr (.inl q)
        · rcases(hA x).mp q with q | q
          · ~.inl q
          · ~.inr (.inr q)
      · rintro(q | q | q)
        · ~.inr ((hA x).mpr (.inl q))
        · ~.inl q
        · ~.inr ((hA x).mpr (.inr q))
    · &⟨y,_,A1,gZ Zc C,rfl,?_,?_,m _ _ _ (fun x q=>.inl q) h4,k R' (fun e B z hb=>m e B z fun x q=>.inr (hb x q)) d' y' Zc (fun x q q'=>ap' x q (.inr q')) r'⟩
      · intro x q q'
        rcases q' with q' | q'
        · ~ap' x q' (.inl q)
        · ~h2 x q ((hA x).mpr (.inr q'))
      · intro x
        show (Zc x∨A1 x∨C x)↔(A1 x∨Zc x∨C x)
        constructor
        · rintro(q | q | q)
          · ~.inr (.inl q)
          · ~.inl q
          · ~.inr (.inr q)
        · rintro(q | q | q)
          · ~.inr (.inl q)
          · ~.inl q
          · ~.inr (.inr q)
A9 gA.snoc:∀{ds:List α} {A A1:Fp} {ys:List β} {d:α} {y:β},gA R ds A ys→R d A1 y→Apart A A1→gA R (ds++[d]) (gZ A A1) (ys++[y])
 | [],A,A1,ys,d,y,h,r,ap=>by
  rw[h.2]
  ~⟨y,[],A1,fun _=>False,rfl,fun _ _ z=>z,fun x=>⟨fun q=>q.elim (fun q=>absurd q (h.1 x)) .inl,fun q=>q.elim .inr False.elim⟩,r,fun _ z=>z,rfl⟩
 | d0::ds,A,A1,ys,d,y,⟨y0,yt,B1,B2,h1,h2,h3,h4,h5⟩,r,ap=>by
  subst h1
  &⟨y0,yt++[y],B1,gZ B2 A1,rfl,?_,?_,h4,gA.snoc h5 r fun x q=>ap x ((h3 x).mpr (.inr q))⟩
  ·intro x q q'
   rcases q' with q' | q'
   ·~h2 x q q'
   ·~ap x ((h3 x).mpr (.inl q)) q'
  ·intro x
   show (A x∨A1 x)↔(B1 x∨B2 x∨A1 x)
   rw[h3 x]
   ~or_assoc
end
mutual
def Ow(K:aA)(H:Hp):D→Fp→V→Prop
 | .non,A,v=>None A∧v=.non
 | .bl b,A,v=>None A∧v=.bl b
 | .int i,A,v=>None A∧v=.int i
 | .str x,A,v=>None A∧v=.str x
 | .lst ds,A,v=>∃a xs B,v=.ref a∧H a=some (.lst xs)∧¬B a∧Is A (gZ (·=a) B)∧gB K H ds B xs
 | .tup ds,A,v=>∃a xs,v=.ref a∧pI K H a xs∧gB K H ds A xs
 | .dk ks ds,A,v=>∃a xs B,v=.ref a∧H a=some (.dK (ks.zip xs))∧ks.length=xs.length∧¬B a∧Is A (gZ (·=a) B)∧gB K H ds B xs
 | .dt ks ds,A,v=>∃a xs B,v=.ref a∧H a=some (.dT (ks.zip xs))∧ks.length=xs.length∧¬B a∧Is A (gZ (·=a) B)∧gB K H ds B xs
 | .ins C nm ds,A,v=>∃a dx xs B,v=.ref a∧H a=some (.ins C dx (nm.zip xs))∧H dx=some (.own a)∧nm.length=xs.length∧¬B a∧¬B dx∧Is A (gZ (fun x=>x=a∨x=dx) B)∧gB K H ds B xs
def gB(K:aA)(H:Hp):List D→Fp→List V→Prop
 | [],A,ys=>None A∧ys=[]
 | d::ds,A,ys=>∃y yt A1 A2,ys=y::yt∧Apart A1 A2∧Is A (gZ A1 A2)∧Ow K H d A1 y∧gB K H ds A2 yt
end
A9 fW{K:aA}{H:Hp}:∀{ds:List D} {A:Fp} {ys:List V},gB K H ds A ys↔gA (Ow K H) ds A ys
 | [],A,ys=>by A8 gB gA;~Iff.rfl
 | d::ds,A,ys=>by
  A8 gB gA
  constructor
  ·rintro⟨y,yt,A1,A2,h1,h2,h3,h4,h5⟩;~⟨y,yt,A1,A2,h1,h2,h3,h4,fW.mp h5⟩
  ·rintro⟨y,yt,A1,A2,h1,h2,h3,h4,h5⟩;~⟨y,yt,A1,A2,h1,h2,h3,h4,fW.mpr h5⟩
def vJ(K:aA)(H H':Hp):Prop:=∀a xs,pI K H a xs→pI K H' a xs
A9 aN.tk{K:aA}{H H':Hp}(e:aN H H'):vJ K H H':=fun _ _ h=>e.tup h
A9 Ow.congr{K:aA}{H:Hp}{d:D}{A A':Fp}{v:V}(h:Ow K H d A v)(e:Is A A'):Ow K H d A' v:=by
 cases d with
 | non=>A8 Ow at h ⊢;~⟨fun x q=>h.1 x ((e x).mpr q),h.2⟩
 | bl b=>A8 Ow at h ⊢;~⟨fun x q=>h.1 x ((e x).mpr q),h.2⟩
 | int b=>A8 Ow at h ⊢;~⟨fun x q=>h.1 x ((e x).mpr q),h.2⟩
 | str b=>A8 Ow at h ⊢;~⟨fun x q=>h.1 x ((e x).mpr q),h.2⟩
 | lst ds=>A8 Ow at h ⊢;A7⟨a,xs,B,h1,h2,h3,h4,h5⟩:=h;~⟨a,xs,B,h1,h2,h3,fun x=>(e x).symm.trans (h4 x),h5⟩
 | tup ds=>A8 Ow at h ⊢;A7⟨a,xs,h1,h2,h3⟩:=h;~⟨a,xs,h1,h2,fW.mpr ((fW.mp h3).congr e)⟩
 | dk ks ds=>A8 Ow at h ⊢;A7⟨a,xs,B,h1,h2,h2',h3,h4,h5⟩:=h;~⟨a,xs,B,h1,h2,h2',h3,fun x=>(e x).symm.trans (h4 x),h5⟩
 | dt ks ds=>A8 Ow at h ⊢;A7⟨a,xs,B,h1,h2,h2',h3,h4,h5⟩:=h;~⟨a,xs,B,h1,h2,h2',h3,fun x=>(e x).symm.trans (h4 x),h5⟩
 | ins C nm ds=>A8 Ow at h ⊢;A7⟨a,dx,xs,B,h1,h2,h2',h3,h3',h3'',h4,h5⟩:=h;~⟨a,dx,xs,B,h1,h2,h2',h3,h3',h3'',fun x=>(e x).symm.trans (h4 x),h5⟩
mutual
A9 Ow.frame{K:aA}{H H':Hp}(t:vJ K H H'):∀(d:D)(A:Fp)(v:V),Ow K H d A v→(∀a,A a→H' a=H a)→Ow K H' d A v
 | .non,A,v,h,f=>by A8 Ow at h ⊢;~h
 | .bl _,A,v,h,f=>by A8 Ow at h ⊢;~h
 | .int _,A,v,h,f=>by A8 Ow at h ⊢;~h
 | .str _,A,v,h,f=>by A8 Ow at h ⊢;~h
 | .lst ds,A,v,h,f=>by
  A8 Ow at h ⊢
  A7⟨a,xs,B,h1,h2,h3,h4,h5⟩:=h
  ~⟨a,xs,B,h1,(f a ((h4 a).mpr (.inl rfl))).trans h2,h3,h4,gB.frame t ds B xs h5 fun b q=>f b ((h4 b).mpr (.inr q))⟩
 | .tup ds,A,v,h,f=>by A8 Ow at h ⊢;A7⟨a,xs,h1,h2,h3⟩:=h;~⟨a,xs,h1,t _ _ h2,gB.frame t ds A xs h3 f⟩
 | .dk ks ds,A,v,h,f=>by
  A8 Ow at h ⊢
  A7⟨a,xs,B,h1,h2,h2',h3,h4,h5⟩:=h
  ~⟨a,xs,B,h1,(f a ((h4 a).mpr (.inl rfl))).trans h2,h2',h3,h4,gB.frame t ds B xs h5 fun b q=>f b ((h4 b).mpr (.inr q))⟩
 | .dt ks ds,A,v,h,f=>by
  A8 Ow at h ⊢
  A7⟨a,xs,B,h1,h2,h2',h3,h4,h5⟩:=h
  ~⟨a,xs,B,h1,(f a ((h4 a).mpr (.inl rfl))).trans h2,h2',h3,h4,gB.frame t ds B xs h5 fun b q=>f b ((h4 b).mpr (.inr q))⟩
 | .ins C nm ds,A,v,h,f=>by
  A8 Ow at h ⊢
  A7⟨a,dx,xs,B,h1,h2,h2',h3,h3',h3'',h4,h5⟩:=h
  ~⟨a,dx,xs,B,h1,(f a ((h4 a).mpr (.inl (.inl rfl)))).trans h2,(f dx ((h4 dx).mpr (.inl (.inr rfl)))).trans h2',h3,h3',h3'',h4,gB.frame t ds B xs h5 fun b q=>f b ((h4 b).mpr (.inr q))⟩
A9 gB.frame{K:aA}{H H':Hp}(t:vJ K H H'):∀(ds:List D)(A:Fp)(ys:List V),gB K H ds A ys→(∀a,A a→H' a=H a)→gB K H' ds A ys
 | [],A,ys,h,f=>by A8 gB at h ⊢;~h
 | d::ds,A,ys,h,f=>by
  A8 gB at h ⊢
  A7⟨y,yt,A1,A2,h1,h2,h3,h4,h5⟩:=h
  ~⟨y,yt,A1,A2,h1,h2,h3,Ow.frame t d A1 y h4 fun b q=>f b ((h3 b).mpr (.inl q)),gB.frame t ds A2 yt h5 fun b q=>f b ((h3 b).mpr (.inr q))⟩
end
mutual
A9 Ow.rv{K:aA}{H:Hp}:∀(d:D)(A:Fp)(v:V),Ow K H d A v→Rv K H d v
 | .non,A,v,h=>by A8 Ow at h;A8 Rv;~h.2
 | .bl _,A,v,h=>by A8 Ow at h;A8 Rv;~h.2
 | .int _,A,v,h=>by A8 Ow at h;A8 Rv;~h.2
 | .str _,A,v,h=>by A8 Ow at h;A8 Rv;~h.2
 | .lst ds,A,v,h=>by A8 Ow at h;A8 Rv;A7⟨a,xs,B,h1,h2,h3,h4,h5⟩:=h;~⟨a,xs,h1,mC.of h2,gB.rv ds B xs h5⟩
 | .tup ds,A,v,h=>by A8 Ow at h;A8 Rv;A7⟨a,xs,h1,h2,h3⟩:=h;~⟨a,xs,h1,h2,gB.rv ds A xs h3⟩
 | .dk ks ds,A,v,h=>by A8 Ow at h;A8 Rv;A7⟨a,xs,B,h1,h2,h2',h3,h4,h5⟩:=h;~⟨a,xs,h1,.inl h2,h2',gB.rv ds B xs h5⟩
 | .dt ks ds,A,v,h=>by A8 Ow at h;A8 Rv;A7⟨a,xs,B,h1,h2,h2',h3,h4,h5⟩:=h;~⟨a,xs,h1,.inl h2,h2',gB.rv ds B xs h5⟩
 | .ins C nm ds,A,v,h=>by A8 Ow at h;A8 Rv;A7⟨a,dx,xs,B,h1,h2,h2',h3,h3',h3'',h4,h5⟩:=h;~⟨a,dx,xs,h1,h2,h3,gB.rv ds B xs h5⟩
A9 gB.rv{K:aA}{H:Hp}:∀(ds:List D)(A:Fp)(ys:List V),gB K H ds A ys→cC K H ds ys
 | [],A,ys,h=>by A8 gB at h;A8 cC;~h.2
 | d::ds,A,ys,h=>by A8 gB at h;A8 cC;A7⟨y,yt,A1,A2,h1,h2,h3,h4,h5⟩:=h;~⟨y,yt,h1,Ow.rv d A1 y h4,gB.rv ds A2 yt h5⟩
end
def pR(H:Hp)(a:Addr):Prop:=(∃o,H a=some o)∧uE H a
mutual
A9 Ow.cells{K:aA}{H:Hp}:∀(d:D)(A:Fp)(v:V),Ow K H d A v→∀a,A a→pR H a
 | .non,A,v,h,a,q=>by A8 Ow at h;~absurd q (h.1 a)
 | .bl _,A,v,h,a,q=>by A8 Ow at h;~absurd q (h.1 a)
 | .int _,A,v,h,a,q=>by A8 Ow at h;~absurd q (h.1 a)
 | .str _,A,v,h,a,q=>by A8 Ow at h;~absurd q (h.1 a)
 | .lst ds,A,v,h,a,q=>by
  A8 Ow at h
  A7⟨p,xs,B,h1,h2,h3,h4,h5⟩:=h
  rcases(h4 a).mp q with z | z
  ·cases z;~⟨⟨_,h2⟩,rC h2⟩
  ·~gB.cells ds B xs h5 a z
 | .tup ds,A,v,h,a,q=>by A8 Ow at h;A7⟨p,xs,h1,h2,h3⟩:=h;~gB.cells ds A xs h3 a q
 | .dk ks ds,A,v,h,a,q=>by
  A8 Ow at h
  A7⟨p,xs,B,h1,h2,h2',h3,h4,h5⟩:=h
  rcases(h4 a).mp q with z | z
  ·cases z;~⟨⟨_,h2⟩,Vi h2⟩
  ·~gB.cells ds B xs h5 a z
 | .dt ks ds,A,v,h,a,q=>by
  A8 Ow at h
  A7⟨p,xs,B,h1,h2,h2',h3,h4,h5⟩:=h
  rcases(h4 a).mp q with z | z
  ·cases z;~⟨⟨_,h2⟩,fun ys e=>(by rw[h2]at e;cases e),fun o ys e=>(by rw[h2]at e;cases e)⟩
  ·~gB.cells ds B xs h5 a z
 | .ins C nm ds,A,v,h,a,q=>by
  A8 Ow at h
  A7⟨p,dx,xs,B,h1,h2,h2',h3,h3',h3'',h4,h5⟩:=h
  rcases(h4 a).mp q with (z | z) | z
  ·cases z;~⟨⟨_,h2⟩,fun ys e=>(by rw[h2]at e;cases e),fun o ys e=>(by rw[h2]at e;cases e)⟩
  ·cases z;~⟨⟨_,h2'⟩,fun ys e=>(by rw[h2']at e;cases e),fun o ys e=>(by rw[h2']at e;cases e)⟩
  ·~gB.cells ds B xs h5 a z
A9 gB.cells{K:aA}{H:Hp}:∀(ds:List D)(A:Fp)(ys:List V),gB K H ds A ys→∀a,A a→pR H a
 | [],A,ys,h,a,q=>by A8 gB at h;~absurd q (h.1 a)
 | d::ds,A,ys,h,a,q=>by
  A8 gB at h
  A7⟨y,yt,A1,A2,h1,h2,h3,h4,h5⟩:=h
  rcases(h3 a).mp q with z | z
  ·~Ow.cells d A1 y h4 a z
  ·~gB.cells ds A2 yt h5 a z
end
mutual
def D.eX:D→Bool
  | .non=>true | .bl _=>true | .int _=>true | .str _=>true
  | .tup ds=>D.cT ds
  | _=>false
def D.cT:List D→Bool
  | []=>true
  | d::ds=>D.eX d&&D.cT ds
end
abbrev nil:Fp:=fun _=>False
mutual
A9 yS{K:aA}{H:Hp}:∀(d:D)(v:V),d.eX=true→Rv K H d v→Ow K H d nil v
 | .non,v,_,h=>by A8 Rv at h;A8 Ow;~⟨fun _ z=>z,h⟩
 | .bl _,v,_,h=>by A8 Rv at h;A8 Ow;~⟨fun _ z=>z,h⟩
 | .int _,v,_,h=>by A8 Rv at h;A8 Ow;~⟨fun _ z=>z,h⟩
 | .str _,v,_,h=>by A8 Rv at h;A8 Ow;~⟨fun _ z=>z,h⟩
 | .tup ds,v,i,h=>by A8 D.eX at i;A8 Rv at h;A8 Ow;A7⟨a,xs,h1,h2,h3⟩:=h;~⟨a,xs,h1,h2,uF ds xs i h3⟩
 | .lst ds,v,i,h=>by A8 D.eX at i;cases i
 | .dk _ ds,v,i,h=>by A8 D.eX at i;cases i
 | .dt _ ds,v,i,h=>by A8 D.eX at i;cases i
 | .ins _ _ ds,v,i,h=>by A8 D.eX at i;cases i
A9 uF{K:aA}{H:Hp}:∀(ds:List D)(ys:List V),D.cT ds=true→cC K H ds ys→gB K H ds nil ys
 | [],ys,_,h=>by A8 cC at h;A8 gB;~⟨fun _ z=>z,h⟩
 | d::ds,ys,i,h=>by
  A8 D.cT at i
  rw[B4]at i
  A8 cC at h
  A8 gB
  A7⟨y,yt,h1,h2,h3⟩:=h
  ~⟨y,yt,nil,nil,h1,fun _ z _=>z,fun x=>⟨False.elim,fun z=>z.elim id id⟩,yS d y i.1 h2,uF ds yt i.2 h3⟩
end
open Classical in
noncomputable def out(H:Hp)(A:Fp):Hp:=fun a=>if A a then none else H a
A9 Fi{H:Hp}{A:Fp}{a:Addr}(h:¬A a):out H A a=H a:=by A8 out;rw[if_neg h]
A9 bC{H:Hp}{A:Fp}{a:Addr}{o:HO}:out H A a=some o↔¬A a∧H a=some o:=by
 A8 out
 split
 ·rename_i h;~⟨fun z=>(by cases z),fun z=>absurd h z.1⟩
 ·rename_i h;~⟨fun z=>⟨h,z⟩,fun z=>z.2⟩
A9 kJ(H:Hp)(A:Fp):aN (out H A) H:=fun b o h=>(bC.mp h).2
A9 Vj{K:aA}{H:Hp}{A:Fp}(h:∀a,A a→uE H a):vJ K H (out H A):=fun a xs q=>by
 rcases q with (q | ⟨o,q⟩) | q
 ·~.inl (.inl (bC.mpr ⟨fun z=>(h a z).1 _ q,q⟩))
 ·~.inl (.inr ⟨o,bC.mpr ⟨fun z=>(h a z).2 _ _ q,q⟩⟩)
 ·~.inr q
A9 Ow.out{K:aA}{H:Hp}{d:D}{A A':Fp}{v:V}(h:Ow K H d A' v)(ap:Apart A' A)(c:∀a,A a→uE H a):Rv K (out H A) d v:=
 Ow.rv d A' v (Ow.frame (Vj c) d A' v h fun a q=>Fi (ap a q))
end L2


namespace L2
open PySem PySem.Spec PyProof.Rows
abbrev DE:=List (Option D)
abbrev FE:=DE→Option D
abbrev FA:=DE→Option (List D)
abbrev FT:=DE→Option Bool
def pD(K:aA)(H:Hp)(e:DE)(σ:St):Prop:=∀(i:Nat)(d:D),e[i]?=some (some d)→∃v,σ[i]?=some (some v)∧Rv K H d v
A9 pD.same{K:aA}{H H':Hp}{e:DE}{σ:St}(h:pD K H e σ)(s:aN H H'):pD K H' e σ:=fun i d q=>let ⟨v,h1,h2⟩:=h i d q;⟨v,h1,s.rv _ _ h2⟩
structure Zn(K:aA)(N:Fp)(Z H:Hp):Prop where
 sm:aN Z H
 tk:vJ K H Z
 no:∀a,N a→Z a=none∧¬H a=none
A9 Zn.self(K:aA)(H:Hp):Zn K nil H H:=⟨aN.refl _,fun _ _ h=>h,fun _ z=>z.elim⟩
A9 vJ.trans{K:aA}{H H1 H2:Hp}(a:vJ K H H1)(b:vJ K H1 H2):vJ K H H2:=fun p xs h=>b p xs (a p xs h)
A9 Ow.same{K:aA}{H H':Hp}{d:D}{A:Fp}{v:V}(h:Ow K H d A v)(s:aN H H'):Ow K H' d A v:=
 Ow.frame s.tk d A v h fun a q=>by
  A7⟨⟨o,e⟩,_⟩:=Ow.cells d A v h a q
  rw[e];~s a o e
A9 gB.same{K:aA}{H H':Hp}{ds:List D}{A:Fp}{vs:List V}(h:gB K H ds A vs)(s:aN H H'):gB K H' ds A vs:=
 gB.frame s.tk ds A vs h fun a q=>by
  A7⟨⟨o,e⟩,_⟩:=gB.cells ds A vs h a q
  rw[e];~s a o e
def Bf(K:aA)(H H':Hp)(d:D)(v:V):Prop:=∃A,Ow K H' d A v∧∀a,A a→H a=none
def Bm(K:aA)(H H':Hp)(ds:List D)(vs:List V):Prop:=∃A,gB K H' ds A vs∧∀a,A a→H a=none
A9 Bf.rv{K:aA}{H H':Hp}{d:D}{v:V}(h:Bf K H H' d v):Rv K H' d v:=let ⟨A,o,_⟩:=h;Ow.rv d A v o
A9 Bm.rv{K:aA}{H H':Hp}{ds:List D}{vs:List V}(h:Bm K H H' ds vs):cC K H' ds vs:=let ⟨A,o,_⟩:=h;gB.rv ds A vs o
A9 Bf.same{K:aA}{H H' H2:Hp}{d:D}{v:V}(h:Bf K H H' d v)(s:aN H' H2):Bf K H H2 d v:=let ⟨A,o,f⟩:=h;⟨A,o.same s,f⟩
A9 Bf.back{K:aA}{H0 H H':Hp}{d:D}{v:V}(h:Bf K H H' d v)(s:aN H0 H):Bf K H0 H' d v:=let ⟨A,o,f⟩:=h;⟨A,o,fun a q=>s.free (f a q)⟩
A9 Bf.eX{K:aA}{H H':Hp}{d:D}{v:V}(i:d.eX=true)(h:Rv K H' d v):Bf K H H' d v:=⟨nil,yS d v i h,fun _ z=>z.elim⟩
A9 Bm.cT{K:aA}{H H':Hp}{ds:List D}{vs:List V}(i:D.cT ds=true)(h:cC K H' ds vs):Bm K H H' ds vs:=⟨nil,uF ds vs i h,fun _ z=>z.elim⟩
open Classical in
noncomputable def Fj(Z H H':Hp):Hp:=fun a=>if H a=none then H' a else Z a
A9 uG{Z H H':Hp}{a:Addr}(h:H a=none):Fj Z H H' a=H' a:=by A8 Fj;rw[if_pos h]
A9 yU{Z H H':Hp}{a:Addr}(h:¬H a=none):Fj Z H H' a=Z a:=by A8 Fj;rw[if_neg h]
A9 vK{K:aA}{N:Fp}{Z H H':Hp}(z:Zn K N Z H):aN Z (Fj Z H H'):=fun b o e=>by
 rw[yU (by rw[z.sm b o e];intro q;cases q)];~e
A9 Fo{K:aA}{N:Fp}{Z H H':Hp}(z:Zn K N Z H)(s:aN H H'):Zn K N (Fj Z H H') H' where
  sm:=fun b o e=>by
    by_cases c:H b=none
    · rw[uG c]at e;~e
    · rw[yU c]at e;~s b o (z.sm b o e)
  tk:=fun a xs h=>by
    by_cases c:H a=none
    · rcases h with (h | ⟨o,h⟩) | h
      · ~.inl (.inl (by rw[uG c];~h))
      · ~.inl (.inr ⟨o,by rw[uG c];~h⟩)
      · ~.inr h
    · have q:pI K H a xs:=by
        rcases h with (h | ⟨o,h⟩) | h
        · cases e:H a with
          | none=>~absurd e c
          | some o=>have:=s a o e;rw[h]at this;cases this;~.inl (.inl e)
        · cases e:H a with
          | none=>~absurd e c
          | some o=>have:=s a o e;rw[h]at this;cases this;~.inl (.inr ⟨_,e⟩)
        · ~.inr h
      ~(vK z).tup (z.tk a xs q)
  no:=fun a q=>⟨by rw[yU (z.no a q).2];~(z.no a q).1,fun h=>(z.no a q).2 (s.free h)⟩
A9 Bf.zone{K:aA}{N:Fp}{Z H H':Hp}{d:D}{v:V}(h:Bf K H H' d v)(z:Zn K N Z H)(s:aN H H'):Rv K (Fj Z H H') d v:=by
 A7⟨A,o,f⟩:=h
 ~Ow.rv d A v (Ow.frame (Fo z s).tk d A v o fun a q=>uG (f a q))
def Dg(K:aA)(t:TE)(f:FE):Prop:=∀{N:Fp}(σ:St)(H Z:Hp)(e:DE)(d:D)(Q:VK),Zn K N Z H→pD K Z e σ→f e=some d →
 (∀v H' Z',aN H H'→aN Z Z'→Zn K N Z' H'→Rv K Z' d v→Q v H')→t σ H Q
def Dh(K:aA)(t:TE)(f:FE):Prop:=∀(σ:St)(H:Hp)(e:DE)(d:D)(Q:VK),pD K H e σ→f e=some d →
 (∀v H',aN H H'→Bf K H H' d v→Q v H')→t σ H Q
def Ls(K:aA)(t:TT)(f:FT):Prop:=∀(σ:St)(H:Hp)(e:DE)(b:Bool)(Q:Bool→Hp→Prop),pD K H e σ→f e=some b→(∀H',aN H H'→Q b H')→t σ H Q
def gf(K:aA)(t:TA)(f:FA):Prop:=∀{N:Fp}(σ:St)(H Z:Hp)(e:DE)(ds:List D)(Q:List V→Hp→Prop),Zn K N Z H→pD K Z e σ→f e=some ds →
 (∀vs H' Z',aN H H'→aN Z Z'→Zn K N Z' H'→cC K Z' ds vs→Q vs H')→t σ H Q
def gj(K:aA)(t:TA)(f:FA):Prop:=∀(σ:St)(H:Hp)(e:DE)(ds:List D)(Q:List V→Hp→Prop),pD K H e σ→f e=some ds →
 (∀vs H',aN H H'→Bm K H H' ds vs→Q vs H')→t σ H Q
A9 Dh.r{K:aA}{t:TE}{f:FE}(h:Dh K t f):Dg K t f:=fun σ H Z e d Q z r q k=>
 h σ H e d Q (r.same z.sm) q fun v H' s n=>k v H' (Fj Z H H') s (vK z) (Fo z s) (n.zone z s)
def Ir(f:FE):FE:=fun e=>(f e).bind fun d=>if d.eX=true then some d else none
A9 Di{f:FE}{e:DE}{d:D}:Ir f e=some d↔f e=some d∧d.eX=true:=by
 A8 Ir
 cases q:f e with
 | none=>simp
 | some a=>
  simp only[C8]
  split
  ·rename_i h;constructor
   ·intro z;cases z;~⟨rfl,h⟩
   ·rintro⟨z,_⟩;~z
  ·rename_i h;constructor
   ·intro z;cases z
   ·rintro⟨z,z2⟩;cases z;~absurd z2 h
A9 Dg.n{K:aA}{t:TE}{f:FE}(h:Dg K t f):Dh K t (Ir f):=fun σ H e d Q r q k=>by
 A7⟨q1,q2⟩:=Di.mp q
 ~h σ H H e d Q (Zn.self K H) r q1 fun v H' Z' s1 s2 z' rv=>k v H' s1 (.eX q2 (z'.sm.rv _ _ rv))
def aF(i:Nat):FE:=fun e=>(e[i]?).getD none
A9 VG{K:aA}(i:Nat):Dg K (jF i) (aF i):=fun σ H Z e d Q z r q k=>by
 have e1:e[i]?=some (some d):=by
  A8 aF at q
  cases h:e[i]? with
  | none=>rw[h]at q;cases q
  | some o=>rw[h]at q;cases q;rfl
 A7⟨v,h1,h2⟩:=r i d e1
 ~⟨v,h1,k v H Z (aN.refl _) (aN.refl _) z h2⟩
def fC(d:D):FE:=fun _=>some d
A9 Vk{K:aA}(i:Int):Dh K (tC (.int i)) (fC (.int i)):=fun σ H e d Q r q k=>by cases q;~k _ H (aN.refl _) (.eX rfl (by A8 Rv;rfl))
A9 jx{K:aA}(i:Bool):Dh K (tC (.bl i)) (fC (.bl i)):=fun σ H e d Q r q k=>by cases q;~k _ H (aN.refl _) (.eX rfl (by A8 Rv;rfl))
A9 VH{K:aA}:Dh K (tC .non) (fC .non):=fun σ H e d Q r q k=>by cases q;~k _ H (aN.refl _) (.eX rfl (by A8 Rv;rfl))
A9 Vl{K:aA}(i:Str):Dh K (tC (.str i)) (fC (.str i)):=fun σ H e d Q r q k=>by cases q;~k _ H (aN.refl _) (.eX rfl (by A8 Rv;rfl))
def f2(φ:D→D→Option D)(f g:FE):FE:=fun e=>(f e).bind fun a=>(g e).bind fun b=>φ a b
A9 mH{φ:D→D→Option D}{f g:FE}{e:DE}{d:D}(h:f2 φ f g e=some d):∃a b,f e=some a∧g e=some b∧φ a b=some d:=by
 A8 f2 at h
 A7⟨a,h1,h2⟩:=aU h
 A7⟨b,h3,h4⟩:=aU h2
 ~⟨a,b,h1,h3,h4⟩
def OpD(K:aA)(r:R2)(φ:D→D→Option D):Prop:=∀{N:Fp}(x y:V)(H Z:Hp)(a b d:D)(Q:VK),Zn K N Z H→Rv K Z a x→Rv K Z b y→φ a b=some d →
 (∀v H' Z',aN H H'→aN Z Z'→Zn K N Z' H'→Rv K Z' d v→Q v H')→r x y H Q
def Dj(K:aA)(r:R2)(φ:D→D→Option D):Prop:=∀(x y:V)(H:Hp)(a b d:D)(Q:VK),Rv K H a x→Rv K H b y→φ a b=some d →
 (∀v H',aN H H'→Bf K H H' d v→Q v H')→r x y H Q
A9 jy{K:aA}{r:R2}{φ:D→D→Option D}{ta tb:TE}{f g:FE}(o:OpD K r φ)(ha:Dg K ta f)(hb:Dg K tb g):Dg K (Ck r ta tb) (f2 φ f g):=fun σ H Z e d Q z re q k=>by
 A7⟨a,b,h1,h2,h3⟩:=mH q
 &ha σ H Z e a _ z re h1 fun x H1 Z1 s1 t1 z1 rx=>hb σ H1 Z1 e b _ z1 (re.same t1) h2 fun y H2 Z2 s2 t2 z2 ry=>?_
 ~o x y H2 Z2 a b d Q z2 (t2.rv _ _ rx) ry h3 fun v H3 Z3 s3 t3 z3 rv=>k v H3 Z3 (s1.trans (s2.trans s3)) (t1.trans (t2.trans t3)) z3 rv
A9 Ov{K:aA}{r:R2}{φ:D→D→Option D}{ta tb:TE}{f g:FE}(o:Dj K r φ)(ha:Dg K ta f)(hb:Dg K tb g):Dh K (Ck r ta tb) (f2 φ f g):=fun σ H e d Q re q k=>by
 A7⟨a,b,h1,h2,h3⟩:=mH q
 &ha σ H H e a _ (Zn.self K H) re h1 fun x H1 Z1 s1 t1 z1 rx=>hb σ H1 Z1 e b _ z1 (re.same t1) h2 fun y H2 Z2 s2 t2 z2 ry=>?_
 ~o x y H2 a b d Q (z2.sm.rv _ _ (t2.rv _ _ rx)) (z2.sm.rv _ _ ry) h3 fun v H3 s3 n=>k v H3 (s1.trans (s2.trans s3)) (n.back (s1.trans s2))
def Bo(C:Int→Int→Prop) [∀i j,Decidable (C i j)] (g:Int→Int→D):D→D→Option D
 | .int i,.int j=>if C i j then some (g i j)else none
 | _,_=>none
A9 yV{C:Int→Int→Prop} [∀i j,Decidable (C i j)] {g:Int→Int→D} {a b d:D} (h:Bo C g a b=some d):∃i j,a=.int i∧b=.int j∧C i j∧d=g i j:=by
 A8 Bo at h
 split at h
 ·split at h
  ·rename_i i j c;cases h;~⟨i,j,rfl,rfl,c,rfl⟩
  ·cases h
 ·cases h
A9 Lw{K:aA}{C:Int→Int→Prop} [∀i j,Decidable (C i j)] {C':Int→Int→Prop} (hC:∀i j,C i j→C' i j) {g:Int→Int→Int}:Dj K (rI C' fun i j=>.int (g i j)) (Bo C fun i j=>.int (g i j)):=fun x y H a b d Q ra rb q k=>by
 A7⟨i,j,rfl,rfl,c,rfl⟩:=yV q
 A8 Rv at ra rb
 ~⟨i,j,ra,rb,hC i j c,k _ H (aN.refl _) (.eX rfl (by A8 Rv;rfl))⟩
A9 CJ{K:aA}{g:Int→Int→Int}:Dj K (Ud fun i j=>.int (g i j)) (Bo (fun _ _=>True) fun i j=>.int (g i j)):=fun x y H a b d Q ra rb q k=>by
 A7⟨i,j,rfl,rfl,c,rfl⟩:=yV q
 A8 Rv at ra rb
 ~⟨i,j,ra,rb,k _ H (aN.refl _) (.eX rfl (by A8 Rv;rfl))⟩
A9 iQ{K:aA}{g:Int→Int→Bool}:Dj K (Ud fun i j=>.bl (g i j)) (Bo (fun _ _=>True) fun i j=>.bl (g i j)):=fun x y H a b d Q ra rb q k=>by
 A7⟨i,j,rfl,rfl,c,rfl⟩:=yV q
 A8 Rv at ra rb
 ~⟨i,j,ra,rb,k _ H (aN.refl _) (.eX rfl (by A8 Rv;rfl))⟩
def aG:FA:=fun _=>some []
def aB(f:FE)(fs:FA):FA:=fun e=>(f e).bind fun a=>(fs e).bind fun r=>some (a::r)
A9 pU{f:FE}{fs:FA}{e:DE}{ds:List D}(h:aB f fs e=some ds):∃a r,f e=some a∧fs e=some r∧ds=a::r:=by
 A8 aB at h
 A7⟨a,h1,h2⟩:=aU h
 A7⟨b,h3,h4⟩:=aU h2
 cases h4
 ~⟨a,b,h1,h3,rfl⟩
A9 VJ{K:aA}:gf K iM aG:=fun σ H Z e ds Q z re q k=>by cases q;~k [] H Z (aN.refl _) (aN.refl _) z (by A8 cC;rfl)
A9 CK{K:aA}{te:TE}{t:TA}{f:FE}{fs:FA}(h:Dg K te f)(hs:gf K t fs):gf K (bV te t) (aB f fs):=fun σ H Z e ds Q z re q k=>by
 A7⟨a,r,h1,h2,rfl⟩:=pU q
 &h σ H Z e a _ z re h1 fun x H1 Z1 s1 t1 z1 rx=>hs σ H1 Z1 e r _ z1 (re.same t1) h2 fun vs H2 Z2 s2 t2 z2 rs=>?_
 ~k _ H2 Z2 (s1.trans s2) (t1.trans t2) z2 (by A8 cC;~⟨x,vs,rfl,t2.rv _ _ rx,rs⟩)
A9 VL{K:aA}:gj K iM aG:=fun σ H e ds Q re q k=>by cases q;~k [] H (aN.refl _) (.cT rfl (by A8 cC;rfl))
A9 CN{K:aA}{te:TE}{t:TA}{f:FE}{fs:FA}(h:Dh K te f)(hs:gj K t fs):gj K (bV te t) (aB f fs):=fun σ H e ds Q re q k=>by
 A7⟨a,r,h1,h2,rfl⟩:=pU q
 &h σ H e a _ re h1 fun x H1 s1 n1=>hs σ H1 e r _ (re.same s1) h2 fun vs H2 s2 n2=>?_
 &k _ H2 (s1.trans s2) ?_
 A7⟨A,oA,fA⟩:=n1
 A7⟨B,oB,fB⟩:=n2
 &⟨gZ A B,?_,fun p q=>q.elim (fA p) fun z=>s1.free (fB p z)⟩
 A8 gB
 &⟨x,vs,A,B,rfl,fun p qa qb=>?_,fun _=>Iff.rfl,oA.same s2,oB⟩
 A7⟨⟨o,e1⟩,_⟩:=Ow.cells _ _ _ oA p qa
 rw[fB p qb]at e1;cases e1
def cap(n:Nat)(d:D):Option D:=if n≤100000 then some d else none
A9 uH{n:Nat}{d d':D}(h:cap n d=some d'):n≤100000∧d'=d:=by
 A8 cap at h
 split at h
 ·rename_i c;cases h;~⟨c,rfl⟩
 ·cases h
A9 jB{n:Nat}(h:n≤100000):n≤sizeLine:=by rw[sizeLine_eq];omega
A9 Iu{n:Nat}(h:n≤100000):n<sizeLine:=by rw[sizeLine_eq];omega
def eG(fs:FA):FE:=fun e=>(fs e).bind fun ds=>cap ds.length (.lst ds)
def Iv(fs:FA):FE:=fun e=>(fs e).bind fun ds=>cap ds.length (.tup ds)
A9 uI{K:aA}{H H1:Hp}{ds:List D}{xs:List V}{p:Addr}(s:aN H H1)(n:Bm K H H1 ds xs)(hp:H1 p=none):Bf K H (upd H1 p (.lst xs)) (.lst ds) (.ref p):=by
 A7⟨A,o,f⟩:=n
 &⟨gZ (·=p) A,?_,fun a q=>q.elim (fun z=>by cases z;~s.free hp) (f a)⟩
 A8 Ow
 &⟨p,xs,A,rfl,bW,fun z=>?_,fun _=>Iff.rfl,o.same (cM hp _)⟩
 A7⟨⟨u,e⟩,_⟩:=gB.cells _ _ _ o p z
 rw[hp]at e;cases e
A9 Ox{K:aA}{H H1:Hp}{ds:List D}{xs:List V}{p:Addr}(n:Bm K H H1 ds xs)(hp:H1 p=none):Bf K H (upd H1 p (.tup xs)) (.tup ds) (.ref p):=by
 A7⟨A,o,f⟩:=n
 &⟨A,?_,f⟩
 A8 Ow
 ~⟨p,xs,rfl,pI.of bW,o.same (cM hp _)⟩
A9 VM{K:aA}{t:TA}{fs:FA}(h:gj K t fs):Dh K (Rn t) (eG fs):=fun σ H e d Q re q k=>by
 A8 eG at q
 A7⟨ds,h1,h2⟩:=aU q
 A7⟨hc,rfl⟩:=uH h2
 &h σ H e ds _ re h1 fun xs H1 s1 n=>⟨jB (by rw[n.rv.length];~hc),fun p hp=>?_⟩
 ~k _ _ (s1.trans (cM hp _)) (uI s1 n hp)
A9 VN{K:aA}{t:TA}{fs:FA}(h:gj K t fs):Dh K (Uw t) (Iv fs):=fun σ H e d Q re q k=>by
 A8 Iv at q
 A7⟨ds,h1,h2⟩:=aU q
 A7⟨hc,rfl⟩:=uH h2
 &h σ H e ds _ re h1 fun xs H1 s1 n=>⟨jB (by rw[n.rv.length];~hc),fun p hp=>?_⟩
 ~k _ _ (s1.trans (cM hp _)) (Ox n hp)
A9 Vm{K:aA}{N:Fp}{Z H:Hp}{p:Addr}{o:HO}(z:Zn K N Z H)(hp:H p=none):aN Z (upd Z p o)∧Zn K N (upd Z p o) (upd H p o):=by
 have hz:Z p=none:=z.sm.free hp
 &⟨cM hz o,⟨fun b u e=>?_,fun a xs h=>?_,fun a q=>?_⟩⟩
 ·by_cases c:b=p
  ·subst c;rw[bW]at e;rw[bW];~e
  ·rw[bH c]at e;rw[bH c];~z.sm b u e
 ·by_cases c:a=p
  ·subst c
   rcases h with (h | ⟨u,h⟩) | h
   ·rw[bW]at h;~.inl (.inl (by rw[bW];~h))
   ·rw[bW]at h;~.inl (.inr ⟨u,by rw[bW];~h⟩)
   ·~.inr h
  ·have q:pI K H a xs:=by
    rcases h with (h | ⟨u,h⟩) | h
    ·rw[bH c]at h;~.inl (.inl h)
    ·rw[bH c]at h;~.inl (.inr ⟨u,h⟩)
    ·~.inr h
   ~(cM hz o).tup (z.tk a xs q)
 ·have c:a≠p:=fun z'=>(z.no a q).2 (by rw[z'];~hp)
  rw[bH c,bH c];~z.no a q
A9 VP{K:aA}{t:TA}{fs:FA}(h:gf K t fs):Dg K (Rn t) (eG fs):=fun σ H Z e d Q z re q k=>by
 A8 eG at q
 A7⟨ds,h1,h2⟩:=aU q
 A7⟨hc,rfl⟩:=uH h2
 &h σ H Z e ds _ z re h1 fun xs H1 Z1 s1 t1 z1 rs=>⟨jB (by rw[rs.length];~hc),fun p hp=>?_⟩
 A7⟨a1,a2⟩:=Vm (o:=.lst xs) z1 hp
 ~k _ _ _ (s1.trans (cM hp _)) (t1.trans a1) a2 (by A8 Rv;~⟨p,xs,rfl,mC.of bW,a1.Ou _ _ rs⟩)
end L2


namespace L2
open PySem PySem.Spec PyProof.Rows
structure XR(K:aA)(X:Cx)(e:Expr)(t:TE)(f:FE):Prop where
 hk:X.K=K
 pe:PE X e t
 ev:Dg K t f
structure XN(K:aA)(X:Cx)(e:Expr)(t:TE)(f:FE):Prop where
 hk:X.K=K
 pe:PE X e t
 ev:Dh K t f
structure XT(K:aA)(X:Cx)(e:Expr)(t:TT)(f:FT):Prop where
 hk:X.K=K
 pt:PT X e t
 ev:Ls K t f
structure XW(K:aA)(X:Cx)(e:Expr)(t:TT)(f:FT):Prop where
 hk:X.K=K
 pw:PW X e t
 ev:Ls K t f
structure XA(K:aA)(X:Cx)(es:List Expr)(t:TA)(f:FA):Prop where
 hk:X.K=K
 pa:PA X es t
 ev:gf K t f
structure XB(K:aA)(X:Cx)(es:List Expr)(t:TA)(f:FA):Prop where
 hk:X.K=K
 pa:PA X es t
 ev:gj K t f
section
variable{K:aA}{X:Cx}{e a b c:Expr}{es:List Expr}{t ta tb:TE}{f g:FE}{tA:TA}{fs:FA}{pos:Pos}
A9 XN.r(h:XN K X e t f):XR K X e t f:=⟨h.hk,h.pe,h.ev.r⟩
A9 XR.n(h:XR K X e t f):XN K X e t (Ir f):=⟨h.hk,h.pe,Dg.n h.ev⟩
A9 aJ{i:Nat}(h:PE X e (jF i))(hk:X.K=K:=by rfl):XR K X e (jF i) (aF i):=⟨hk,h,VG i⟩
A9 aH{i:Int}{j:Nat}(hk:X.K=K:=by rfl):XN K X (.Constant (.int i) j pos) (tC (.int i)) (fC (.int i)):=⟨hk,QK,Vk i⟩
A9 jG{i:Bool}{j:Nat}(hk:X.K=K:=by rfl):XN K X (.Constant (.bool i) j pos) (tC (.bl i)) (fC (.bl i)):=⟨hk,iu,jx i⟩
A9 lR{j:Nat}(hk:X.K=K:=by rfl):XN K X (.Constant .none j pos) (tC .non) (fC .non):=⟨hk,QL,VH⟩
A9 fP{x:Str}{j:Nat}(hk:X.K=K:=by rfl):XN K X (.Constant (.str x) j pos) (tC (.str x)) (fC (.str x)):=⟨hk,QM,Vl x⟩
A9 Dk{op:Operator}{r:R2}{φ:D→D→Option D}(ho:lQ X (binaryOp op) r)(hd:Dj K r φ)(ha:XR K X a ta f)(hb:XR K X b tb g):XN K X (.BinOp a op b pos) (Ck r ta tb) (f2 φ f g):=⟨ha.hk,Ur ho ha.pe hb.pe,Ov hd ha.ev hb.ev⟩
def Bp:D→D→Option D:=Bo (fun _ _=>True) fun i j=>.int (i-j)
instance (i j:Int):Decidable (Bh i j):=by A8 Bh;~inferInstance
instance (i j:Int):Decidable (Rj i j):=by A8 Rj;~inferInstance
instance (i j:Int):Decidable (RN i j):=by A8 RN;~inferInstance
def yW:D→D→Option D:=Bo Bh fun i j=>.int (i*j)
def mD:D→D→Option D:=Bo Rj fun i j=>.int (i/j)
def eH:D→D→Option D:=Bo (fun _ j=>0<j) fun i j=>.int (i%j)
def aAZ:D→D→Option D:=Bo RN fun i j=>.int (i ^ j.toNat)
A9 Lx(ha:XR K X a ta f)(hb:XR K X b tb g):XN K X (.BinOp a .Sub b pos) (Ck (Ud fun i j=>.int (i-j)) ta tb) (f2 Bp f g):=Dk RP CJ ha hb
A9 tD(ha:XR K X a ta f)(hb:XR K X b tb g):XN K X (.BinOp a .Mult b pos) (Ck (rI Bh fun i j=>.int (i*j)) ta tb) (f2 yW f g):=Dk RQ (Lw fun _ _ h=>h) ha hb
A9 jN(ha:XR K X a ta f)(hb:XR K X b tb g):XN K X (.BinOp a .FloorDiv b pos) (Ck (rI Rj fun i j=>.int (i/j)) ta tb) (f2 mD f g):=Dk Zm (Lw fun _ _ h=>h) ha hb
A9 cF(ha:XR K X a ta f)(hb:XR K X b tb g):XN K X (.BinOp a .Mod b pos) (Ck (rI (fun _ j=>0<j) fun i j=>.int (i%j)) ta tb) (f2 eH f g):=Dk RT (Lw fun _ _ h=>h) ha hb
A9 tE{op:CmpOp}{r:R2}{φ:D→D→Option D}(ho:lQ X (compareOp op) r)(hd:Dj K r φ)(ha:XR K X a ta f)(hb:XR K X b tb g)(hm:behindInMarks op b=false):XN K X (.Compare a [op] [b] pos) (Ck r ta tb) (f2 φ f g):=⟨ha.hk,Zo ho ha.pe hb.pe hm,Ov hd ha.ev hb.ev⟩
def fB(f:FE):FT:=fun e=>(f e).bind fun d=>match d with | .bl b=>some b | _=>none
A9 uJ{f:FE}{e:DE}{b:Bool}(h:fB f e=some b):f e=some (.bl b):=by
 A8 fB at h
 A7⟨d,h1,h2⟩:=aU h
 split at h2
 ·cases h2;~h1
 ·cases h2
A9 CP(h:Dg K t f):Ls K (Ie t) (fB f):=fun σ H e b Q re q k=>h σ H H e _ _ (Zn.self K H) re (uJ q) fun v H' Z' s1 s2 z rv=>by
 A8 Rv at rv
 ~⟨b,rv,k H' s1⟩
A9 jz(h:Dg K t f):Ls K (tB t) (fB f):=fun σ H e b Q re q k=>h σ H H e _ _ (Zn.self K H) re (uJ q) fun v H' Z' s1 s2 z rv=>by
 A8 Rv at rv
 ~⟨b,rv,k H' s1⟩
A9 bY{op:CmpOp}{r:R2}{φ:D→D→Option D}(ho:lQ X (compareOp op) r)(hd:Dj K r φ)(ha:XR K X a ta f)(hb:XR K X b tb g)(hm:behindInMarks op b=false):XT K X (.Compare a [op] [b] pos) (Ie (Ck r ta tb)) (fB (f2 φ f g)):=⟨ha.hk,Zq ho ha.pe hb.pe hm,CP (Ov hd ha.ev hb.ev).r⟩
A9 dU(h:XR K X e t f)(he:∀whole,isTrue e X.env whole=(do let v ←whole;standAt e.pos;holding [v] (truthy v)):=by intro _;rfl):XT K X e (tB t) (fB f):=⟨h.hk,QQ h.pe he,jz h.ev⟩
def Zd:D→D→Option D:=Bo (fun _ _=>True) fun i j=>.bl (decide (i<j))
def Oz:D→D→Option D:=Bo (fun _ _=>True) fun i j=>.bl (decide (i≤j))
def gn:D→D→Option D:=Bo (fun _ _=>True) fun i j=>.bl (decide (j<i))
def dGe:D→D→Option D:=Bo (fun _ _=>True) fun i j=>.bl (decide (j≤i))
def toV:D→Option V
  | .non=>some .non | .bl b=>some (.bl b) | .int i=>some (.int i) | .str x=>some (.str x)
  | _=>none
A9 vL{H:Hp}{d:D}{v x:V}(h:toV d=some v)(r:Rv K H d x):x=v:=by
 cases d<;>A8 toV at h<;>first | (cases h;A8 Rv at r;~r) | cases h
mutual
def fD:D→Option DV
 | .int i=>some (.int i)
 | .non=>some .non
 | .lst ds=>(mJ ds).map DV.lst
 | .tup ds=>(mJ ds).map DV.tup
 | _=>none
def mJ:List D→Option (List DV)
 | []=>some []
 | d::ds=>(fD d).bind fun x=>(mJ ds).bind fun xs=>some (x::xs)
end
mutual
A9 oR{H:Hp}:∀(d:D)(x:DV)(v:V),fD d=some x→Rv K H d v→Reads K H x v
 | .int i,x,v,h,r=>by A8 fD at h;cases h;A8 Rv at r;A8 Reads;~r
 | .lst ds,x,v,h,r=>by
  A8 fD at h
  A7⟨xs,h1,rfl⟩:=iZ h
  A8 Rv at r;A8 Reads
  A7⟨a,vs,r1,r2,r3⟩:=r
  ~⟨a,vs,r1,r2,yX ds xs vs h1 r3⟩
 | .tup ds,x,v,h,r=>by
  A8 fD at h
  A7⟨xs,h1,rfl⟩:=iZ h
  A8 Rv at r;A8 Reads
  A7⟨a,vs,r1,r2,r3⟩:=r
  ~⟨a,vs,r1,r2,yX ds xs vs h1 r3⟩
 | .non,x,v,h,r=>by A8 fD at h;cases h;A8 Rv at r;A8 Reads;~r
 | .bl _,x,v,h,r=>by A8 fD at h;cases h
 | .str _,x,v,h,r=>by A8 fD at h;cases h
 | .dk _ _,x,v,h,r=>by A8 fD at h;cases h
 | .dt _ _,x,v,h,r=>by A8 fD at h;cases h
 | .ins _ _ _,x,v,h,r=>by A8 fD at h;cases h
A9 yX{H:Hp}:∀(ds:List D)(xs:List DV)(vs:List V),mJ ds=some xs→cC K H ds vs→bT K H xs vs
 | [],xs,vs,h,r=>by A8 mJ at h;cases h;A8 cC at r;A8 bT;~r
 | d::ds,xs,vs,h,r=>by
  A8 mJ at h
  A7⟨x,h1,h2⟩:=aU h
  A7⟨xt,h3,h4⟩:=aU h2
  cases h4
  A8 cC at r;A8 bT
  A7⟨y,ys,r1,r2,r3⟩:=r
  ~⟨y,ys,r1,oR d x y h1 r2,yX ds xt ys h3 r3⟩
end
mutual
A9 Vn:∀(d e:D)(x:DV),fD d=some x→fD e=some x→d=e
 | .int i,e,x,h,h'=>by
  A8 fD at h;cases h
  cases e<;>A8 fD at h'<;>first | (cases h';rfl) | cases h' | (A7⟨xs,q1,q2⟩:=iZ h';cases q2)
 | .lst ds,e,x,h,h'=>by
  A8 fD at h
  A7⟨xs,h1,rfl⟩:=iZ h
  cases e with
  | lst es=>A8 fD at h';A7⟨ys,q1,q2⟩:=iZ h';cases q2;rw[vM ds es xs h1 q1]
  | tup es=>A8 fD at h';A7⟨ys,q1,q2⟩:=iZ h';cases q2
  | _=>A8 fD at h';cases h'
 | .tup ds,e,x,h,h'=>by
  A8 fD at h
  A7⟨xs,h1,rfl⟩:=iZ h
  cases e with
  | tup es=>A8 fD at h';A7⟨ys,q1,q2⟩:=iZ h';cases q2;rw[vM ds es xs h1 q1]
  | lst es=>A8 fD at h';A7⟨ys,q1,q2⟩:=iZ h';cases q2
  | _=>A8 fD at h';cases h'
 | .non,e,x,h,h'=>by
  A8 fD at h;cases h
  cases e<;>A8 fD at h'<;>first | (cases h';rfl) | cases h' | (A7⟨xs,q1,q2⟩:=iZ h';cases q2)
 | .bl _,e,x,h,h'=>by A8 fD at h;cases h
 | .str _,e,x,h,h'=>by A8 fD at h;cases h
 | .dk _ _,e,x,h,h'=>by A8 fD at h;cases h
 | .dt _ _,e,x,h,h'=>by A8 fD at h;cases h
 | .ins _ _ _,e,x,h,h'=>by A8 fD at h;cases h
A9 vM:∀(ds es:List D)(xs:List DV),mJ ds=some xs→mJ es=some xs→ds=es
 | [],[],xs,h,h'=>rfl
 | [],e::es,xs,h,h'=>by
  A8 mJ at h h'
  cases h
  A7⟨x,h1,h2⟩:=aU h'
  A7⟨xt,h3,h4⟩:=aU h2
  cases h4
 | d::ds,[],xs,h,h'=>by
  A8 mJ at h h'
  cases h'
  A7⟨x,h1,h2⟩:=aU h
  A7⟨xt,h3,h4⟩:=aU h2
  cases h4
 | d::ds,e::es,xs,h,h'=>by
  A8 mJ at h h'
  A7⟨x,h1,h2⟩:=aU h
  A7⟨xt,h3,h4⟩:=aU h2
  cases h4
  A7⟨y,k1,k2⟩:=aU h'
  A7⟨yt,k3,k4⟩:=aU k2
  cases k4
  rw[Vn d e x h1 k1,vM ds es xt h3 k3]
end
noncomputable def vN(a b:D):Option D:=match toV a,toV b with
 | some x,some y=>if Ib x y=true then some (.bl (decide (x=y)))else none
 | _,_=>match fD a,fD b with
  | some x,some y=>if x.depth≤32 then some (.bl (pP x y))else none
  | _,_=>none
A9 pW:Dj K (fun x y H Q=>ym x y H Q∨UL K false x y H Q) vN:=fun x y H a b d Q ra rb q k=>by
 A8 vN at q
 split at q
 ·rename_i u v h1 h2
  split at q
  ·rename_i hs
   cases q
   rw[vL h1 ra,vL h2 rb]
   ~.inl ⟨hs,k _ H (aN.refl _) (.eX rfl (by A8 Rv;rfl))⟩
  ·cases q
 ·split at q
  ·rename_i u v h1 h2
   split at q
   ·rename_i hs
    cases q
    ~.inr ⟨u,v,oR a u x h1 ra,oR b v y h2 rb,hs,k _ H (aN.refl _) (.eX rfl (by A8 Rv;rfl))⟩
   ·cases q
  ·cases q
noncomputable def yZ(a b:D):Option D:=match toV a,toV b with
 | some x,some y=>if Ib x y=true then some (.bl (!decide (x=y)))else none
 | _,_=>match fD a,fD b with
  | some (.lst x),some (.lst y)=>if cY x≤32 then some (.bl (!pP (.lst x) (.lst y)))else none
  | some (.tup x),some (.tup y)=>if cY x≤32 then some (.bl (!pP (.tup x) (.tup y)))else none
  | _,_=>none
def kh(K:aA):R2:=fun x y H Q=>rNe x y H Q∨(∃ds es,Reads K H (.lst ds) x∧Reads K H (.lst es) y∧cY ds≤32∧Q (.bl (!pP (.lst ds) (.lst es))) H)∨(∃ds es,Reads K H (.tup ds) x∧Reads K H (.tup es) y∧cY ds≤32∧Q (.bl (!pP (.tup ds) (.tup es))) H)
A9 uK:Dj K (kh K) yZ:=fun x y H a b d Q ra rb q k=>by
 A8 yZ at q
 split at q
 ·rename_i u v h1 h2
  split at q
  ·rename_i hs
   cases q
   rw[vL h1 ra,vL h2 rb]
   ~.inl ⟨hs,k _ H (aN.refl _) (.eX rfl (by A8 Rv;rfl))⟩
  ·cases q
 ·split at q
  ·rename_i u v h1 h2
   split at q
   ·rename_i hs
    cases q
    ~.inr (.inl ⟨u,v,oR a _ x h1 ra,oR b _ y h2 rb,hs,k _ H (aN.refl _) (.eX rfl (by A8 Rv;rfl))⟩)
   ·cases q
  ·rename_i u v h1 h2
   split at q
   ·rename_i hs
    cases q
    ~.inr (.inr ⟨u,v,oR a _ x h1 ra,oR b _ y h2 rb,hs,k _ H (aN.refl _) (.eX rfl (by A8 Rv;rfl))⟩)
   ·cases q
  ·cases q
A9 or_eq(hu:X.A.units+64<cLine)(hk:X.K=K):lQ X (compareOp .Eq) (fun x y H Q=>ym x y H Q∨UL K false x y H Q):=by subst hk;~jf.or (UT hu)
A9 uL(hu:X.A.units+64<cLine)(hk:X.K=K):lQ X (compareOp .NotEq) (kh K):=by subst hk;~jg.or ((UW hu).or (VF hu))
def Iw:List D→Option (List V)
 | []=>some []
 | d::ds=>(toV d).bind fun x=>(Iw ds).bind fun xs=>some (x::xs)
A9 Pa{H:Hp}:∀{ds:List D} {vs xs:List V},Iw ds=some vs→cC K H ds xs→xs=vs
 | [],vs,xs,h,r=>by A8 Iw at h;cases h;A8 cC at r;~r
 | d::ds,vs,xs,h,r=>by
  A8 Iw at h
  A7⟨x,h1,h2⟩:=aU h
  A7⟨xt,h3,h4⟩:=aU h2
  cases h4
  A8 cC at r
  A7⟨y,ys,rfl,r2,r3⟩:=r
  rw[vL h1 r2,Pa h3 r3]
def pX:D→Option (List D)
 | .lst ds=>some ds
 | .tup ds=>some ds
 | _=>none
A9 Fq{H:Hp}{d:D}{ds:List D}{v:V}(h:pX d=some ds)(r:Rv K H d v):∃p xs,v=.ref p∧(mC K H p xs∨pI K H p xs)∧cC K H ds xs:=by
 cases d with
 | lst es=>A8 pX at h;cases h;A8 Rv at r;A7⟨p,xs,r1,r2,r3⟩:=r;~⟨p,xs,r1,.inl r2,r3⟩
 | tup es=>A8 pX at h;cases h;A8 Rv at r;A7⟨p,xs,r1,r2,r3⟩:=r;~⟨p,xs,r1,.inr r2,r3⟩
 | _=>A8 pX at h;cases h
def kj(neg:Bool)(a b:D):Option D:=(toV a).bind fun x=>(pX b).bind fun ds=>(Iw ds).bind fun xs=>if pN x=true∧xs.all pN=true then some (.bl (if neg then !inV x xs else inV x xs))else none
A9 km(neg:Bool):Dj K (yq K neg) (kj neg):=fun x y H a b d Q ra rb q k=>by
 A8 kj at q
 A7⟨u,h1,q⟩:=aU q
 A7⟨ds,h2,q⟩:=aU q
 A7⟨us,h3,q⟩:=aU q
 split at q
 ·rename_i c
  cases q
  A7⟨p,xs,rfl,r2,r3⟩:=Fq h2 rb
  have:=Pa h3 r3
  subst this
  rw[vL h1 ra]
  ~⟨p,xs,rfl,r2,c.1,c.2,k _ H (aN.refl _) (.eX rfl (by A8 Rv;rfl))⟩
 ·cases q
A9 lg(hk:X.K=K):lQ X (compareOp .In) (yq K false):=by subst hk;~Rr
end
section
variable{κ:Type} [DecidableEq κ] {K:aA} {H:Hp}
def posK:List κ→κ→Option Nat
 | [],_=>none
 | a::ks,k=>if a=k then some 0 else(posK ks k).map (·+1)
A9 Iz:∀{ks:List κ} {xs:List V} {k:κ},ks.length=xs.length→Rw (ks.zip xs) k=(posK ks k).bind fun j=>xs[j]?
 | [],xs,k,h=>by A8 posK;rfl
 | a::ks,[],k,h=>by simp at h
 | a::ks,x::xs,k,h=>by
  have ih:=Iz (ks:=ks) (xs:=xs) (k:=k) (by simpa using h)
  A8 posK
  rw[W0]
  A8 Rw at ih ⊢
  rw[List.find?_cons]
  by_cases c:a=k
  ·rw[if_pos c,decide_eq_true c];rfl
  ·rw[if_neg c,decide_eq_false c]
   show Option.map _ (List.find? _ (ks.zip xs))=_
   rw[ih]
   cases posK ks k<;>rfl
end
section
variable{K:aA}{X:Cx}{e a b c:Expr}{es:List Expr}{t ta tb:TE}{f g:FE}{pos:Pos}
def sH(a i:D):Option D:=match i with
 | .int i=>(pX a).bind fun ds=>Ik ds i
 | _=>none
A9 MT{H:Hp}{ds:List D}{xs:List V}{i:Int}{d:D}(r:cC K H ds xs)(h:Ik ds i=some d):∃v,Ik xs i=some v∧Rv K H d v:=by
 A8 Ik at h ⊢
 A7⟨j,h1,h2⟩:=aU h
 rw[r.length,h1]
 ~r.get h2
A9 NB(hk:X.K=K):Za X (vp K):=by subst hk;~SX
A9 kO(ha:XR K X a ta f)(hb:XR K X b tb g)(hs:xR b):XR K X (.Subscript a b pos) (Ck (vp K) ta tb) (f2 sH f g):=
 ⟨ha.hk,Uy (NB ha.hk) ha.pe hb.pe hs,jy (fun x y H Z da db d Q z ra rb q k=>by
  A8 sH at q
  split at q
  ·rename_i i
   A7⟨ds,h1,h2⟩:=aU q
   A8 Rv at rb
   cases da with
   | lst es=>
    A8 pX at h1;cases h1
    A8 Rv at ra
    A7⟨p,xs,r1,r2,r3⟩:=ra
    A7⟨v,e1,e2⟩:=MT r3 h2
    ~.inl ⟨p,xs,i,v,r1,rb,z.sm.seq r2,e1,k v H Z (aN.refl _) (aN.refl _) z e2⟩
   | tup es=>
    A8 pX at h1;cases h1
    A8 Rv at ra
    A7⟨p,xs,r1,r2,r3⟩:=ra
    A7⟨v,e1,e2⟩:=MT r3 h2
    ~.inr (.inl ⟨p,xs,i,v,r1,rb,z.sm.tup r2,e1,k v H Z (aN.refl _) (aN.refl _) z e2⟩)
   | _=>A8 pX at h1;cases h1
  ·cases q) ha.ev hb.ev⟩
end
end L2


namespace L2
open PySem PySem.Spec PyProof.Rows
section
variable{K:aA}{X:Cx}{e a b c:Expr}{es rest:List Expr}{t ta tb:TE}{f g:FE}{tA:TA}{fs:FA}{pos:Pos}{tc:TT}{fc fd:FT}{td:TT}
A9 aL(hk:X.K=K:=by rfl):XA K X [] iM aG:=⟨hk,bI,VJ⟩
A9 aD(h:XR K X e t f)(hs:XA K X es tA fs)(hst:starEach (e::es) X.env=(false,eval e X.env)::starEach es X.env:=by rfl):XA K X (e::es) (bV t tA) (aB f fs):=⟨h.hk,aV h.pe hs.pa hst,CK h.ev hs.ev⟩
A9 lU(hk:X.K=K:=by rfl):XB K X [] iM aG:=⟨hk,bI,VL⟩
A9 lH(h:XN K X e t f)(hs:XB K X es tA fs)(hst:starEach (e::es) X.env=(false,eval e X.env)::starEach es X.env:=by rfl):XB K X (e::es) (bV t tA) (aB f fs):=⟨h.hk,aV h.pe hs.pa hst,CN h.ev hs.ev⟩
A9 pY(h:XB K X es tA fs):XN K X (.List es pos) (Rn tA) (eG fs):=⟨h.hk,Lg h.pa,VM h.ev⟩
A9 lV(h:XA K X es tA fs):XR K X (.List es pos) (Rn tA) (eG fs):=⟨h.hk,Lg h.pa,VP h.ev⟩
A9 Ly{x1:Nat}(h:XB K X es tA fs):XN K X (.Tuple es x1 pos) (Uw tA) (Iv fs):=⟨h.hk,Et h.pa,VN h.ev⟩
def Lz(f g:FT):FT:=fun e=>(f e).bind fun c=>if c=true then g e else some false
def Dl(f g:FT):FT:=fun e=>(f e).bind fun c=>if c=true then some true else g e
def fQ(f:FT):FT:=fun e=>(f e).map fun c=>!c
A9 VR(h1:Ls K tc fc)(h2:Ls K td fd):Ls K (QR tc td) (Lz fc fd):=fun σ H e b Q re q k=>by
 A8 Lz at q
 A7⟨c,q1,q2⟩:=aU q
 &h1 σ H e c _ re q1 fun H1 s1=>?_
 cases c with
 | true=>rw[if_pos rfl]at q2 ⊢;~h2 σ H1 e b Q (re.same s1) q2 fun H2 s2=>k H2 (s1.trans s2)
 | false=>rw[if_neg A5]at q2 ⊢;cases q2;~k H1 s1
A9 lq(h1:Ls K tc fc)(h2:Ls K td fd):Ls K (yd tc td) (Dl fc fd):=fun σ H e b Q re q k=>by
 A8 Dl at q
 A7⟨c,q1,q2⟩:=aU q
 &h1 σ H e c _ re q1 fun H1 s1=>?_
 cases c with
 | false=>rw[if_neg A5]at q2 ⊢;~h2 σ H1 e b Q (re.same s1) q2 fun H2 s2=>k H2 (s1.trans s2)
 | true=>rw[if_pos rfl]at q2 ⊢;cases q2;~k H1 s1
A9 WD(h1:Ls K tc fc):Ls K (QS tc) (fQ fc):=fun σ H e b Q re q k=>by
 A8 fQ at q
 A7⟨c,q1,rfl⟩:=iZ q
 ~h1 σ H e c _ re q1 k
A9 XW.xt(h:XW K X e tc fc):XT K X e tc fc:=⟨h.hk,h.pw.pt,h.ev⟩
A9 CQ(h:XT K X a tc fc):XW K X (.BoolOp .And [a] pos) tc fc:=⟨h.hk,Zh h.pt,h.ev⟩
A9 pZ(h:XT K X a tc fc):XW K X (.BoolOp .Or [a] pos) tc fc:=⟨h.hk,QT h.pt,h.ev⟩
A9 WK(h:XT K X a tc fc)(h2:XW K X (.BoolOp .And (b::rest) pos) td fd):XW K X (.BoolOp .And (a::b::rest) pos) (QR tc td) (Lz fc fd):=⟨h.hk,QV h.pt h2.pw,VR h.ev h2.ev⟩
A9 uM(h:XT K X a tc fc)(h2:XW K X (.BoolOp .Or (b::rest) pos) td fd):XW K X (.BoolOp .Or (a::b::rest) pos) (yd tc td) (Dl fc fd):=⟨h.hk,iw h.pt h2.pw,lq h.ev h2.ev⟩
A9 dH(h:XT K X a tc fc):XT K X (.UnaryOp .Not a pos) (QS tc) (fQ fc):=⟨h.hk,QW h.pt,WD h.ev⟩
def uN(f g:FE):FE:=fun e=>(fB f e).bind fun c=>if c=true then g e else some (.bl false)
def Sh(f g:FE):FE:=fun e=>(fB f e).bind fun c=>if c=true then some (.bl true)else g e
def Ja(f:FE):FE:=fun e=>(fB f e).map fun c=>.bl (!c)
A9 xU{op:BoolOp}(h:XN K X a t f):XN K X (.BoolOp op [a] pos) t f:=⟨h.hk,QX h.pe,h.ev⟩
A9 Ma(h:XR K X a ta f)(h2:XN K X (.BoolOp .And (b::rest) pos) tb g):XN K X (.BoolOp .And (a::b::rest) pos) (LK ta tb) (uN f g):=⟨h.hk,QZ h.pe h2.pe,fun σ H e d Q re q k=>by
 A8 uN at q
 A7⟨c,q1,q2⟩:=aU q
 &h.ev σ H H e _ _ (Zn.self K H) re (uJ q1) fun v H1 Z1 s1 t1 z1 rv=>?_
 A8 Rv at rv
 &⟨c,rv,?_⟩
 cases c with
 | true=>rw[if_pos rfl]at q2 ⊢;~h2.ev σ H1 e d Q (re.same s1) q2 fun v H2 s2 n=>k v H2 (s1.trans s2) (n.back s1)
 | false=>rw[if_neg A5]at q2 ⊢;cases q2;~k _ H1 s1 (.eX rfl (by A8 Rv;rfl))⟩
A9 lr(h:XR K X a ta f)(h2:XN K X (.BoolOp .Or (b::rest) pos) tb g):XN K X (.BoolOp .Or (a::b::rest) pos) (iy ta tb) (Sh f g):=⟨h.hk,iz h.pe h2.pe,fun σ H e d Q re q k=>by
 A8 Sh at q
 A7⟨c,q1,q2⟩:=aU q
 &h.ev σ H H e _ _ (Zn.self K H) re (uJ q1) fun v H1 Z1 s1 t1 z1 rv=>?_
 A8 Rv at rv
 &⟨c,rv,?_⟩
 cases c with
 | false=>rw[if_neg A5]at q2 ⊢;~h2.ev σ H1 e d Q (re.same s1) q2 fun v H2 s2 n=>k v H2 (s1.trans s2) (n.back s1)
 | true=>rw[if_pos rfl]at q2 ⊢;cases q2;~k _ H1 s1 (.eX rfl (by A8 Rv;rfl))⟩
A9 WL(h:XR K X a ta f):XN K X (.UnaryOp .Not a pos) (LQ ta) (Ja f):=⟨h.hk,RB h.pe,fun σ H e d Q re q k=>by
 A8 Ja at q
 A7⟨c,q1,rfl⟩:=iZ q
 &h.ev σ H H e _ _ (Zn.self K H) re (uJ q1) fun v H1 Z1 s1 t1 z1 rv=>?_
 A8 Rv at rv
 ~⟨c,rv,k _ H1 s1 (.eX rfl (by A8 Rv;rfl))⟩⟩
def WM(c:FT)(f g:FE):FE:=fun e=>(c e).bind fun b=>if b=true then f e else g e
A9 lu(hc:XT K X c tc fc)(ha:XN K X a ta f)(hb:XN K X b tb g):XN K X (.IfExp c a b pos) (tIf tc ta tb) (WM fc f g):=⟨ha.hk,Ul hc.pt ha.pe hb.pe,fun σ H e d Q re q k=>by
 A8 WM at q
 A7⟨c,q1,q2⟩:=aU q
 &hc.ev σ H e c _ re q1 fun H1 s1=>?_
 cases c with
 | true=>rw[if_pos rfl]at q2 ⊢;~ha.ev σ H1 e d Q (re.same s1) q2 fun v H2 s2 n=>k v H2 (s1.trans s2) (n.back s1)
 | false=>rw[if_neg A5]at q2 ⊢;~hb.ev σ H1 e d Q (re.same s1) q2 fun v H2 s2 n=>k v H2 (s1.trans s2) (n.back s1)⟩
A9 WN(ha:XR K X a ta f):XN K X (.UnaryOp .USub a pos) (yj (rU fun i=>.int (-i)) ta) (fun e=>(f e).bind fun d=>match d with | .int i=>some (.int (-i)) | _=>none):=⟨ha.hk,jd RV ha.pe,fun σ H e d Q re q k=>by
 A7⟨c,q1,q2⟩:=aU q
 split at q2
 ·rename_i i
  cases q2
  &ha.ev σ H H e _ _ (Zn.self K H) re q1 fun v H1 Z1 s1 t1 z1 rv=>?_
  A8 Rv at rv
  ~⟨i,rv,k _ H1 s1 (.eX rfl (by A8 Rv;rfl))⟩
 ·cases q2⟩
def fL(φ:List D→Option D)(fs:FA):FE:=fun e=>(fs e).bind φ
def uO(K:aA)(r:List V→Hp→VK→Prop)(φ:List D→Option D):Prop:=∀(vs:List V)(H:Hp)(ds:List D)(d:D)(Q:VK),cC K H ds vs→φ ds=some d →
 (∀v H',aN H H'→Bf K H H' d v→Q v H')→r vs H Q
A9 NK{r:List V→Hp→VK→Prop}{φ:List D→Option D}(o:uO K r φ)(h:gf K tA fs):Dh K (Zv r tA) (fL φ fs):=fun σ H e d Q re q k=>by
 A7⟨ds,q1,q2⟩:=aU q
 ~h σ H H e ds _ (Zn.self K H) re q1 fun vs H1 Z1 s1 t1 z1 rs=>o vs H1 ds d Q (z1.sm.Ou _ _ rs) q2 fun v H2 s2 n=>k v H2 (s1.trans s2) (n.back s1)
A9 cN{r:List V→Hp→VK→Prop}{φ:List D→Option D}{x:Str}{id:String}{p:Pos}(o:uO K r φ)(hc:iV X (.builtin id) r)(hg:Gl X x)(hm:X.mg x=none)(hv:bootBuiltins x=some (.builtin id))(ha:XA K X (e::es) tA fs)(hn:x ≠ "__name__" := by decide) (hdb:(x==("__debug__" : Str))=false:=by decide)
  (he:starEach (e::es) X.env=(false,eval e X.env)::starEach es X.env:=by rfl) (hpl:(backTo pos (starEach es X.env)).any (·.1)=false:=by rfl):XN K X (.Call (.Name x p) (e::es) [] pos) (Zv r tA) (fL φ fs):=⟨ha.hk,pM hc hg hm hv ha.pa hn hdb he hpl,NK o ha.ev⟩
A9 Pb{r:List V→Hp→VK→Prop}{φ:List D→Option D}{x:Str}{id:String}{p:Pos}(o:uO K r φ)(hc:iV X (.type id) r)(hg:Gl X x)(hm:X.mg x=none)(hv:bootBuiltins x=some (.type id))(ha:XA K X (e::es) tA fs)(hn:x ≠ "__name__" := by decide) (hdb:(x==("__debug__" : Str))=false:=by decide)
  (he:starEach (e::es) X.env=(false,eval e X.env)::starEach es X.env:=by rfl) (hpl:(backTo pos (starEach es X.env)).any (·.1)=false:=by rfl):XN K X (.Call (.Name x p) (e::es) [] pos) (Zv r tA) (fL φ fs):=⟨ha.hk,Rq hc hg hm hv ha.pa hn hdb he hpl,NK o ha.ev⟩
A9 qC{H:Hp}{d:D}{vs:List V}(h:cC K H [d] vs):∃v,vs=[v]∧Rv K H d v:=by
 A8 cC at h
 A7⟨y,ys,rfl,h1,h2⟩:=h
 A8 cC at h2
 subst h2
 ~⟨y,rfl,h1⟩
def cO:List D→Option D
 | [d]=>(pX d).map fun ds=>.int ds.length
 | _=>none
def lz(K:aA):List V→Hp→VK→Prop:=fun xs H Q=>∃p ys,xs=[.ref p]∧(mC K H p ys∨pI K H p ys)∧Q (.int ys.length) H
A9 cG:uO K (lz K) cO:=fun vs H ds d Q rs q k=>by
 A8 cO at q
 split at q
 ·rename_i d0
  A7⟨es,q1,rfl⟩:=iZ q
  A7⟨v,rfl,r⟩:=qC rs
  A7⟨p,xs,rfl,r2,r3⟩:=Fq q1 r
  &⟨p,xs,rfl,r2,k _ H (aN.refl _) (.eX rfl ?_)⟩
  rw[r3.length];A8 Rv;rfl
 ·cases q
A9 cH(hk:X.K=K):iV X (.builtin "len") (lz K):=by subst hk;~Ez
def vO:List D→Option D
 | [d]=>(pX d).bind fun ds=>if D.cT ds=true then some (.tup ds)else none
 | _=>none
def Vo(K:aA):List V→Hp→VK→Prop:=fun xs H Q=>∃p ys,xs=[.ref p]∧((mC K H p ys∧∀l,H l=none→Q (.ref l) (upd H l (.tup ys)))∨(pI K H p ys∧Q (.ref p) H))
A9 Jb:uO K (Vo K) vO:=fun vs H ds d Q rs q k=>by
 A8 vO at q
 split at q
 ·rename_i d0
  A7⟨es,q1,q2⟩:=aU q
  split at q2
  ·rename_i hi
   cases q2
   A7⟨v,rfl,r⟩:=qC rs
   A7⟨p,xs,rfl,r2,r3⟩:=Fq q1 r
   &⟨p,xs,rfl,?_⟩
   rcases r2 with r2 | r2
   ·~.inl ⟨r2,fun l hl=>k _ _ (cM hl _) (Ox (.cT hi r3) hl)⟩
   ·~.inr ⟨r2,k _ H (aN.refl _) (.eX (by A8 D.eX;~hi) (by A8 Rv;~⟨p,xs,rfl,r2,r3⟩))⟩
  ·cases q2
 ·cases q
A9 Jc(hk:X.K=K):iV X (.type "tuple") (Vo K):=by subst hk;~Bk
def intsOf:List D→Option (List Int)
 | []=>some []
 | .int i::ds=>(intsOf ds).map (i::·)
 | _=>none
A9 tG:∀ns:List Int,intsOf (ns.map D.int)=some ns
 | []=>rfl
 | n::ns=>by rw[D7];A8 intsOf;rw[tG ns];rfl
A9 qD:∀{ds:List D} {ns:List Int},intsOf ds=some ns→ds=ns.map D.int
 | [],ns,h=>by A8 intsOf at h;cases h;rfl
 | d::ds,ns,h=>by
  cases d with
  | int i=>
   A8 intsOf at h
   A7⟨ms,h1,rfl⟩:=iZ h
   rw[D7,←qD h1]
  | _=>A8 intsOf at h;cases h
A9 kW{H:Hp}:∀{ns:List Int} {xs:List V},cC K H (ns.map D.int) xs↔xs=ns.map V.int
 | [],xs=>by rw[J7,J7];A8 cC;rfl
 | n::ns,xs=>by
  rw[D7,D7]
  A8 cC
  constructor
  ·rintro⟨y,ys,rfl,h1,h2⟩
   A8 Rv at h1
   rw[h1,kW.mp h2]
  ·rintro rfl
   ~⟨_,_,rfl,by A8 Rv;rfl,kW.mpr rfl⟩
A9 gF:∀ns:List Int,D.cT (ns.map D.int)=true
 | []=>by rw[J7];A8 D.cT;rfl
 | n::ns=>by rw[D7];A8 D.cT D.eX;rw[gF ns];rfl
def sI:List D→Option (List Bool)
 | []=>some []
 | .bl i::ds=>(sI ds).map (i::·)
 | _=>none
A9 Jd{H:Hp}:∀{ds:List D} {bs:List Bool} {xs:List V},sI ds=some bs→cC K H ds xs→xs=bs.map V.bl
 | [],bs,xs,h,r=>by A8 sI at h;cases h;A8 cC at r;~r
 | d::ds,bs,xs,h,r=>by
  cases d with
  | bl i=>
   A8 sI at h
   A7⟨cs,h1,rfl⟩:=iZ h
   A8 cC at r
   A7⟨y,ys,rfl,r1,r2⟩:=r
   A8 Rv at r1
   rw[r1,Jd h1 r2]
   rfl
  | _=>A8 sI at h;cases h
A9 Dm{α:Type}(p:α→Bool):∀l:List α,sI (l.map fun x=>D.bl (p x))=some (l.map p)
 | []=>rfl
 | a::l=>by rw[D7];A8 sI;rw[Dm p l];rfl
def Mf:List D→Option D
 | [.lst ds]=>(sI ds).map fun bs=>.bl (bs.all id)
 | _=>none
def mj(K:aA):List V→Hp→VK→Prop:=fun xs H Q=>∃(p:Addr)(bs:List Bool),xs=[.ref p]∧mC K H p (bs.map V.bl)∧Q (.bl (bs.all id)) H
A9 CT{H:Hp}{ds:List D}{bs:List Bool}{v:V}(h:sI ds=some bs)(r:Rv K H (.lst ds) v):∃p,v=.ref p∧mC K H p (bs.map V.bl):=by
 A8 Rv at r
 A7⟨p,xs,r1,r2,r3⟩:=r
 rw[Jd h r3]at r2
 ~⟨p,r1,r2⟩
A9 Mg:uO K (mj K) Mf:=fun vs H ds d Q rs q k=>by
 A8 Mf at q
 split at q
 ·A7⟨bs,q1,rfl⟩:=iZ q
  A7⟨v,rfl,r⟩:=qC rs
  A7⟨p,rfl,r2⟩:=CT q1 r
  ~⟨p,bs,rfl,r2,k _ H (aN.refl _) (.eX rfl (by A8 Rv;rfl))⟩
 ·cases q
A9 Mh(hk:X.K=K)(hc:X.calm=true:=by rfl):iV X (.builtin "all") (mj K):=by subst hk;~Vf hc
end
end L2


namespace L2
open PySem PySem.Spec PyProof.Rows
section
variable{K:aA}{X:Cx}{e a b c:Expr}{es rest:List Expr}{t ta tb:TE}{f g:FE}{tA:TA}{fs:FA}{pos:Pos}{tc:TT}{fc fd:FT}{td:TT}
abbrev FO:=DE→Option (Option Int)
def EvO(K:aA)(t:TO)(f:FO):Prop:=∀(σ:St)(H:Hp)(e:DE)(o:Option Int)(Q:Option Int→Hp→Prop),pD K H e σ→f e=some o→(∀H',aN H H'→Q o H')→t σ H Q
structure XO(K:aA)(X:Cx)(e:Option Expr)(t:TO)(f:FO):Prop where
 po:PO X e t
 ev:EvO K t f
def fU:FO:=fun _=>some none
def dI(f:FE):FO:=fun e=>(f e).bind fun d=>match d with | .int i=>some (some i) | _=>none
A9 iH:XO K X none Oi fU:=⟨Zw,fun σ H e o Q re q k=>by cases q;~k H (aN.refl _)⟩
A9 iI(h:XR K X e t f):XO K X (some e) (MJ t) (dI f):=⟨Zx h.pe,fun σ H e o Q re q k=>by
 A8 dI at q
 A7⟨d,q1,q2⟩:=aU q
 split at q2
 ·rename_i i
  cases q2
  &h.ev σ H H e _ _ (Zn.self K H) re q1 fun v H1 Z1 s1 t1 z1 rv=>?_
  A8 Rv at rv
  ~⟨i,rv,k H1 s1⟩
 ·cases q2⟩
def iY{α:Type}(xs:List α)(lo hi:Option Int):List α:=(xs.drop (HT.pJ xs.length 0 lo)).take (HT.pJ xs.length xs.length hi-HT.pJ xs.length 0 lo)
A9 cC.drop{H:Hp}:∀{ds:List D} {xs:List V} (n:Nat),cC K H ds xs→cC K H (ds.drop n) (xs.drop n)
 | ds,xs,0,h=>h
 | [],xs,n+1,h=>by A8 cC at h;subst h;simp;A8 cC;rfl
 | d::ds,xs,n+1,h=>by A8 cC at h;A7⟨y,ys,rfl,_,h2⟩:=h;simpa using cC.drop n h2
A9 cC.take{H:Hp}:∀{ds:List D} {xs:List V} (n:Nat),cC K H ds xs→cC K H (ds.take n) (xs.take n)
 | ds,xs,0,h=>by simp;A8 cC;rfl
 | [],xs,n+1,h=>by A8 cC at h;subst h;simp;A8 cC;rfl
 | d::ds,xs,n+1,h=>by A8 cC at h;A7⟨y,ys,rfl,h1,h2⟩:=h;rw[V4,V4];A8 cC;~⟨y,_,rfl,h1,cC.take n h2⟩
A9 CV{H:Hp}{ds:List D}{xs:List V}(lo hi:Option Int)(h:cC K H ds xs):cC K H (iY ds lo hi) (Lh xs lo hi):=by
 A8 iY Lh
 rw[h.length]
 ~(h.drop _).take _
def Ug(eX:Bool)(f:FE)(l h:FO):FE:=fun e=>(f e).bind fun d=>(l e).bind fun lo=>(h e).bind fun hi=>match d with
 | .lst ds=>if eX=false∨D.cT (iY ds lo hi)=true then some (.lst (iY ds lo hi))else none
 | _=>none
A9 Vp{eX:Bool}{f:FE}{l h:FO}{e:DE}{d:D}(q:Ug eX f l h e=some d):∃ds lo hi,f e=some (.lst ds)∧l e=some lo∧h e=some hi∧(eX=false∨D.cT (iY ds lo hi)=true)∧d=.lst (iY ds lo hi):=by
 A8 Ug at q
 A7⟨d0,q1,q⟩:=aU q
 A7⟨lo,q2,q⟩:=aU q
 A7⟨hi,q3,q⟩:=aU q
 split at q
 ·split at q
  ·rename_i c;cases q;~⟨_,lo,hi,q1,q2,q3,c,rfl⟩
  ·cases q
 ·cases q
A9 CW(hk:X.K=K):vo X (TJ K):=by subst hk;~BJ
variable{lo hi:Option Expr}{tl th:TO}{fl fh:FO}{p2:Pos}
A9 zA(h:XR K X e t f)(hl:XO K X lo tl fl)(hu:XO K X hi th fh):XR K X (.Subscript e (.Slice lo hi none p2) pos) (yp (TJ K) t tl th) (Ug false f fl fh):=⟨h.hk,Ii (CW h.hk) h.pe hl.po hu.po,fun σ H Z e d Q z re q k=>by
 A7⟨ds,lo,hi,q1,q2,q3,_,rfl⟩:=Vp q
 &h.ev σ H Z e _ _ z re q1 fun v H1 Z1 s1 t1 z1 rv=>hl.ev σ H1 e lo _ (re.same (z.sm.trans s1)) q2 fun H2 s2=>hu.ev σ H2 e hi _ (re.same (z.sm.trans (s1.trans s2))) q3 fun H3 s3=>?_
 have z3:=Fo z1 (s2.trans s3)
 have t3:aN Z1 (Fj Z1 H1 H3):=vK z1
 A8 Rv at rv
 A7⟨p,xs,rfl,r2,r3⟩:=rv
 &⟨p,xs,rfl,z3.sm.seq (t3.seq r2),fun l hl=>?_⟩
 A7⟨a1,a2⟩:=Vm (o:=.lst (Lh xs lo hi)) z3 hl
 ~k _ _ _ (s1.trans (s2.trans (s3.trans (cM hl _)))) (t1.trans (t3.trans a1)) a2 (by A8 Rv;~⟨l,_,rfl,mC.of bW,a1.Ou _ _ (t3.Ou _ _ (CV lo hi r3))⟩)⟩
def Vq(K:aA):R2:=fun x y H Q=>∃l b xs zs,x=.ref l∧y=.ref b∧mC K H l xs∧mC K H b zs∧xs.length+zs.length≤sizeLine∧∀p,H p=none→Q (.ref p) (upd H p (.lst (xs++zs)))
A9 Ft(hk:X.K=K):lQ X (binaryOp .Add) (Vq K):=by
 subst hk
 intro pins s σ H x y v u Q I rx ry h
 A7⟨l,b,xs,zs,rfl,rfl,h1,h2,hz,q⟩:=h
 cases rx
 cases ry
 A7⟨its,r,pl,_⟩:=I.list h1
 A7⟨its2,r2,Df,_⟩:=I.list h2
 A7⟨⟨cl,dd,da,sl⟩,ho,hc,n,hd⟩:=pl.isList
 A7⟨⟨cl2,dd2,da2,sl2⟩,ho2,hc2,n2,hd2⟩:=Df.isList
 dsimp only at hc hd hc2 hd2
 subst hc hd hc2 hd2
 have hlen:its.toArray.size+its2.toArray.size≤sizeLine:=by rw[B7,B7,←r.length,←r2.length];~hz
 have ea:its.toArray++its2.toArray=(its++its2).toArray:=by simp
 &concat_meets ⟨_,ho,rfl⟩ ⟨_,ho2,rfl⟩ noFill_list_add seq_list_add PySem.F.slot_list_add PySem.F.entry_list_add (PySem.F.args_list_add_2 _ _)
  (list_addW l b its.toArray its2.toArray n n2 dd dd2 sl sl2 hlen) ⟨ho,ho2,?_⟩
 rw[ea]
 ~⟨.ref _,_,I.Ru (t':=s.toks) (r.append r2) (by rw[C6];~hz),rfl,q _ I.fresh⟩
def cX(a b:D):Option D:=match a,b with
 | .int i,.int j=>some (.int (i+j))
 | .lst x,.lst y=>if D.cT (x++y)=true∧x.length+y.length≤100000 then some (.lst (x++y))else none
 | _,_=>none
A9 cC.append{H:Hp}:∀{ds es:List D} {xs ys:List V},cC K H ds xs→cC K H es ys→cC K H (ds++es) (xs++ys)
 | [],es,xs,ys,h,h'=>by A8 cC at h;subst h;~h'
 | d::ds,es,xs,ys,h,h'=>by A8 cC at h;A7⟨y,yt,rfl,h1,h2⟩:=h;rw[M5,M5];A8 cC;~⟨y,_,rfl,h1,cC.append h2 h'⟩
A9 Fv:Dj K (fun x y H Q=>Ud (fun i j=>.int (i+j)) x y H Q∨Vq K x y H Q) cX:=fun x y H a b d Q ra rb q k=>by
 A8 cX at q
 split at q
 ·cases q;A8 Rv at ra rb;~.inl ⟨_,_,ra,rb,k _ H (aN.refl _) (.eX rfl (by A8 Rv;rfl))⟩
 ·split at q
  ·rename_i c
   cases q
   A8 Rv at ra rb
   A7⟨p,xs,rfl,r2,r3⟩:=ra
   A7⟨p',xs',rfl,r2',r3'⟩:=rb
   &.inr ⟨p,p',xs,xs',rfl,rfl,r2,r2',jB (by rw[r3.length,r3'.length];~c.2),fun l hl=>?_⟩
   ~k _ _ (cM hl _) (uI (aN.refl _) (.cT c.1 (r3.append r3')) hl)
  ·cases q
 ·cases q
A9 fX(ha:XR K X a ta f)(hb:XR K X b tb g):XN K X (.BinOp a .Add b pos) (Ck (fun x y H Q=>Ud (fun i j=>.int (i+j)) x y H Q∨Vq K x y H Q) ta tb) (f2 cX f g):=Dk (Le.or (Ft ha.hk)) Fv ha hb
def vy(K:aA)(wi:TI)(fi:FA):Prop:=∀{N:Fp}(σ:St)(H Z:Hp)(e:DE)(ds:List D)(R:It→Hp→Prop),Zn K N Z H→pD K Z e σ→fi e=some ds →
 (∀J H' Z' P vs,aN H H'→aN Z Z'→Zn K N Z' H'→UJ J P vs→(∀H2,aN Z' H2→P H2)→cC K Z' ds vs→R J H')→wi σ H R
structure XI(K:aA)(X:Cx)(tg iter:Expr)(wi:TI)(fi:FA):Prop where
 hk:X.K=K
 pi:PI X tg iter wi
 ev:vy K wi fi
def eQ(f:FE):FA:=fun e=>(f e).bind pX
def WQ(K:aA)(t:TE):TI:=fun σ H R=>LR K t σ H R∨jc K t σ H R
A9 eU{tg:Expr}(h:XR K X e t f):XI K X tg e (WQ K t) (eQ f):=⟨h.hk,by
 have hk:=h.hk
 subst hk
 ~fun pins s σ H R I q=>q.elim (Zk h.pe pins s σ H R I) (RK h.pe pins s σ H R I),fun σ H Z e ds R z re q k=>by
 A8 eQ at q
 A7⟨d,q1,q2⟩:=aU q
 cases d with
 | lst es=>
  A8 pX at q2;cases q2
  &.inl (h.ev σ H Z e _ _ z re q1 fun v H1 Z1 s1 t1 z1 rv=>?_)
  A8 Rv at rv
  A7⟨p,xs,rfl,r2,r3⟩:=rv
  ~⟨p,rfl,⟨xs,z1.sm.seq r2⟩,k _ H1 Z1 _ xs s1 t1 z1 Io (fun H2 s=>s.seq r2) r3⟩
 | tup es=>
  A8 pX at q2;cases q2
  &.inr (h.ev σ H Z e _ _ z re q1 fun v H1 Z1 s1 t1 z1 rv=>?_)
  A8 Rv at rv
  A7⟨p,xs,rfl,r2,r3⟩:=rv
  ~⟨p,rfl,⟨xs,z1.sm.tup r2⟩,k _ H1 Z1 _ xs s1 t1 z1 BX (fun H2 s=>s.tup r2) r3⟩
 | _=>A8 pX at q2;cases q2⟩
def iB(lo:Int)(n:Nat):List D:=(K4 n).map fun i:Nat=>D.int (lo+(i:Int))
A9 Dn{H:Hp}(lo:Int)(n:Nat):cC K H (iB lo n) ((K4 n).map fun i:Nat=>V.int (lo+(i:Int))):=by
 A8 iB
 &cC.of (by simp) fun i d x h1 h2=>?_
 rw[D5]at h1 h2
 cases q:(K4 n)[i]? with
 | none=>rw[q]at h1;cases h1
 | some j=>rw[q]at h1 h2;cases h1;cases h2;A8 Rv;rfl
def lim(i:Int):Bool:=decide (-100000≤i∧i≤100000)
def nQ(fs:FA):FA:=fun e=>(fs e).bind fun ds=>match ds with
 | [.int n]=>if lim n=true then some (iB 0 n.toNat)else none
 | _=>none
A9 Vr{i:Int}(h:lim i=true):-100000≤i∧i≤100000:=of_decide_eq_true h
A9 Sq{tg:Expr}{p:Pos}(hg:Gl X "range") (hm:X.mg "range" = none) (ha:XA K X [a] tA fs) (hs:starEach [a] X.env=[(false,eval a X.env)]:=by rfl):XI K X tg (.Call (.Name "range" p) [a] [] pos) (Uq tA) (nQ fs):=⟨ha.hk,Cj hg hm ha.pa hs,fun σ H Z e ds R z re q k=>by
 A8 nQ at q
 A7⟨es,q1,q2⟩:=aU q
 split at q2
 ·rename_i n
  split at q2
  ·rename_i hl
   cases q2
   have hl:=Vr hl
   &ha.ev σ H Z e _ _ z re q1 fun vs H1 Z1 s1 t1 z1 rs=>?_
   A7⟨v,rfl,r⟩:=qC rs
   A8 Rv at r
   subst r
   ~⟨n,rfl,by omega,by omega,k _ H1 Z1 _ _ s1 t1 z1 Dc (fun _ _=>True.intro) (Dn 0 n.toNat)⟩
  ·cases q2
 ·cases q2⟩
def iD(e:DE)(fr:List Nat):DE:=fr.map fun i=>(e[i]?).getD none
A9 Pg{H:Hp}{e:DE}{σ:St}{fr:List Nat}{d:D}{x:V}(re:pD K H e σ)(r:Rv K H d x):pD K H (some d::iD e fr) (some x::Fe σ fr):=fun i d' h=>by
 cases i with
 | zero=>simp at h;subst h;~⟨x,rfl,r⟩
 | succ i=>
  rw[List.getElem?_cons_succ]at h ⊢
  A8 iD at h
  A8 Fe
  rw[D5]at h ⊢
  cases q:fr[i]? with
  | none=>rw[q]at h;cases h
  | some j=>
   rw[q]at h
   have h:(e[j]?).getD none=some d':=G1 h
   have h2:e[j]?=some (some d'):=by
    cases q2:e[j]? with
    | none=>rw[q2]at h;cases h
    | some o=>rw[q2]at h;rw[show o=some d' from h]
   A7⟨v,h3,h4⟩:=re j d' h2
   &⟨v,?_,h4⟩
   show some (σ.getD j none)=_
   rw[F1,h3]
   rfl
def mK(c:D→Option Bool)(el:D→Option D):List D→Option (List D)
 | []=>some []
 | x::xs=>(c x).bind fun b=>if b=true then(el x).bind fun y=>(mK c el xs).map (y::·)else mK c el xs
def cV(fi:FA)(fr:List Nat)(fc:FT)(fe:FE):FE:=fun e=>(fi e).bind fun xs=>if xs.length≤100000 then(mK (fun x=>fc (some x::iD e fr)) (fun x=>fe (some x::iD e fr)) xs).map D.lst else none
A9 Mi{H:Hp}{p:Addr}{o:HO}(n:uE H p):vJ K H (upd H p o):=fun a xs h=>h.upd n
A9 Ph{wi:TI}{fi:FA}{fr:List Nat}{te:TE}{fe:FE}(hi:vy K wi fi)(hc:Ls K tc fc)(he:Dh K te fe):Dh K (Il wi 1 fr (cB 0) tc te) (cV fi fr fc fe):=by
 intro σ H e d Q re q k
 A8 cV at q
 A7⟨xs,q1,q⟩:=aU q
 split at q
 ·rename_i hlen
  A7⟨ds,q2,rfl⟩:=iZ q
  &hi σ H H e xs _ (Zn.self K H) re q1 fun J H1 Z1 P vs s1 t1 z1 hJ hP rvs=>?_
  intro D0 hD
  have hl:=rvs.length
  have hHD:H D0=none:=s1.free hD
  generalize hcc:(fun x=>fc (some x::iD e fr))=cc at q2
  generalize hel:(fun x=>fe (some x::iD e fr))=el at q2
  &⟨fun i m ys H2=>∃gq vz A,m=vs.length-i∧i≤vs.length∧ds=gq++vz∧mK cc el (xs.drop i)=some vz∧aN H1 H2∧H2 D0=some (.lst ys)∧gB K H2 gq A ys∧(∀a,A a→H1 a=none∧a≠D0)∧ys.length≤i,
   ⟨vs.length,[],ds,nil,by simp,O1 _,rfl,by simpa using q2,cM hD _,bW,by A8 gB;~⟨fun _ z=>z,rfl⟩,fun _ z=>z.elim,D2 _⟩,?_⟩
  rintro i m ys H2 ⟨gq,vz,A,rfl,hi',hds,hcl,s2,hD2,ow,fr2,hyl⟩
  A7⟨j1,j2,j3⟩:=hJ i H2 (hP H2 (z1.sm.trans s2))
  &⟨hD2,?_⟩
  by_cases hlt:i<vs.length
  ·&.inr ⟨j1 hlt,fun x H' y=>?_⟩
   A7⟨e1,ex⟩:=j2 x H' y
   subst e1
   have hx:=ex hlt
   have hxi:i<xs.length:=by omega
   have hxs:xs.drop i=xs[i]::xs.drop (i+1):=L7 hxi
   A7⟨x',hx',rx⟩:=rvs.get (B6 hxi)
   rw[hx]at hx'
   cases hx'
   rw[hxs]at hcl
   A8 mK at hcl
   A7⟨bb,c1,c2⟩:=aU hcl
   show Kp 1 σ fr (some x::Fe σ fr)∧_
   &⟨⟨by simp[blk],fun j v hv=>?_⟩,?_⟩
   ·cases j with
    | zero=>simp[blk]at hv
    | succ j=>simpa[blk]using hv
   have mq:pD K H' (some xs[i]::iD e fr) (some x::Fe σ fr):=Pg (re.same (s1.trans s2)) ((z1.sm.trans s2).rv _ _ rx)
   &hc _ H' _ bb _ mq (by rw[←hcc]at c1;~c1) fun H3 s3=>?_
   have zg:=s3 _ _ hD2
   cases bb with
   | false=>
    rw[if_neg A5]at c2 ⊢
    ~⟨vs.length-(i+1),by omega,gq,vz,A,rfl,by omega,hds,c2,s2.trans s3,zg,ow.same s3,fr2,by omega⟩
   | true=>
    rw[if_pos rfl]at c2 ⊢
    A7⟨dy,c3,c4⟩:=aU c2
    A7⟨ds3,c5,rfl⟩:=iZ c4
    &he _ H3 _ dy _ (mq.same s3) (by rw[←hel]at c3;~c3) fun yv H4 s4 n4=>?_
    have wg:=s4 _ _ zg
    &⟨wg,Iu A3,vs.length-(i+1),by omega,gq++[dy],ds3,?_⟩
    A7⟨B,oB,fB⟩:=n4
    have hB:∀a,B a→H1 a=none∧a≠D0:=fun a qa=>⟨(s2.trans s3).free (fB a qa),fun z=>by have q0:=fB a qa;rw[z,zg]at q0;cases q0⟩
    &⟨gZ A B,rfl,by omega,by rw[hds];simp,c5,fun b o eb=>?_,bW,?_,fun a qa=>qa.elim (fr2 a) (hB a),by rw[C6];simp;~hyl⟩
    ·rw[bH (gC eb hD)]
     ~(s2.trans (s3.trans s4)) b o eb
    ·have o4:=(ow.same s3).same s4
     have ap:Apart A B:=fun a qa qb=>by
      A7⟨⟨u,eu⟩,_⟩:=gB.cells _ _ _ (ow.same s3) a qa
      rw[fB a qb]at eu;cases eu
     have all:gB K H4 (gq++[dy]) (gZ A B) (ys++[yv]):=fW.mpr ((fW.mp o4).snoc oB ap)
     ~gB.frame (Mi (rC wg)) _ _ _ all fun a qa=>bH (qa.elim (fun z=>(fr2 a z).2) fun z=>(hB a z).2)
  ·have ei:i=vs.length:=by omega
   subst ei
   have:xs.drop vs.length=[]:=U4 A3
   rw[this]at hcl
   A8 mK at hcl
   cases hcl
   rw[U1]at hds
   subst hds
   &.inl ⟨j3 (D2 _),k _ H2 (s1.trans s2) ⟨gZ (·=D0) A,?_,fun a qa=>qa.elim (fun z=>by cases z;~hHD) fun z=>s1.free (fr2 a z).1⟩⟩
   A8 Ow
   ~⟨D0,ys,A,rfl,hD2,fun z=>(fr2 D0 z).2 rfl,fun _=>Iff.rfl,ow⟩
 ·cases q
def dW:FT:=fun _=>some true
structure zj(K:aA)(X:Cx)(ifs:List Expr)(t:TT)(f:FT):Prop where
 pts:fu X ifs t
 ev:Ls K t f
A9 iJ:zj K X [] ju dW:=⟨BP,fun σ H e b Q re q k=>by cases q;~k H (aN.refl _)⟩
A9 xV{tg elt iter:Expr}{ifs:List Expr}{scope:Scope}{wi:TI}{fi:FA}{te:TE}{fe:FE}(N:List Str)(fr:List Nat)(hcalm:X.calm=true)(B:dC X.env.scope scope X.N N 1 fr)(hi:XI K X tg iter wi fi)
  (hg:∀cl fp s H C,PG (bR X scope N cl fp s H C) tg (cB 0)) (hc:∀cl fp s H C,zj K (bR X scope N cl fp s H C) ifs tc fc) (he:∀cl fp s H C,XN K (bR X scope N cl fp s H C) elt te fe)
  (hs:∀x,foldedSetIterable iter X.env x=pure x:=by intro _;rfl):XN K X (.ListComp elt [⟨tg,iter,ifs,0⟩] scope pos) (Il wi 1 fr (cB 0) tc te) (cV fi fr fc fe):=
 ⟨hi.hk,BV N 1 fr hcalm B hi.pi hg (fun cl fp s H C=>(hc cl fp s H C).pts) (fun cl fp s H C=>(he cl fp s H C).pe) hs,
  Ph hi.ev (hc [] [] X.s₀ X.H₀ 0).ev (he [] [] X.s₀ X.H₀ 0).ev⟩
def nC(K:aA)(n:Nat)(F:List D→Option D):Sp:=fun vs H Q _=>∃ds d,ds.length=n∧cC K H ds vs∧F ds=some d∧∀v H',aN H H'→Bf K H H' d v→Q v H'
def bA(n:Nat)(F:List D→Option D)(fs:FA):FE:=fun e=>(fs e).bind fun ds=>if ds.length=n then F ds else none
A9 bJ{x:Str}{k n:Nat}{F:List D→Option D}{p:Pos}(C:mG X.prog X.w X.K X.mg X.base x k n (nC K n F))(hr:kI k X.A)(hg:Gl X x)(ha:XA K X (e::es) tA fs)(hdb:(x==("__debug__" : Str))=false:=by decide)
  (he:starEach (e::es) X.env=(false,eval e X.env)::starEach es X.env:=by rfl) (hpl:(backTo pos (starEach es X.env)).any (·.1)=false:=by rfl):XN K X (.Call (.Name x p) (e::es) [] pos) (Cq (nC K n F) [] E0 tA) (bA n F fs):=
 ⟨ha.hk,VD C hr hg ha.pa hdb he hpl,fun σ H e d Q re q k=>by
  A8 bA at q
  A7⟨ds,q1,q2⟩:=aU q
  split at q2
  ·rename_i hl
   &call_of (ha.ev σ H H e ds _ (Zn.self K H) re q1 fun vs H1 Z1 s1 t1 z1 rs=>?_)
   ~⟨ds,d,hl,z1.sm.Ou _ _ rs,q2,fun v H2 s2 n=>k v H2 (s1.trans s2) (n.back s1)⟩
  ·cases q2⟩
end
end L2


namespace L2
open PySem PySem.Spec PyProof.Rows
inductive SD where
  | no | fro (d:D) | own (d:D) | inn (v:V) (d:D)
def SD.z:SD→Option D
 | .fro d=>some d
 | .own d=>if d.eX=true then some d else none
 | .inn _ d=>if d.eX=true then some d else none
 | .no=>none
def SD.r:SD→Option D
 | .fro d=>some d
 | .own d=>some d
 | .inn _ d=>some d
 | .no=>none
abbrev EN:=List SD
def zE(env:EN):DE:=env.map SD.z
def rE(env:EN):DE:=env.map SD.r
def jH(K:aA)(H Z:Hp):SD→Fp→Option V→Prop
 | .no,A,_=>None A
 | .fro d,A,y=>None A∧∃v,y=some v∧Rv K Z d v
 | .own d,A,y=>∃v,y=some v∧Ow K H d A v
 | .inn v d,A,y=>y=some v∧Ow K H d A v
def Rel(K:aA)(B:Hp)(env:EN)(σ:St)(H:Hp):Prop:=∃A,gA (jH K H (out H A)) env A σ∧aN B (out H A)
section
variable{K:aA}{B B' H H' Z Z':Hp}{env:EN}{σ:St}{A:Fp}
A9 gA.all{α β:Type}{R:α→Fp→β→Prop}{Pr:Addr→Prop}:∀{ds:List α} {A:Fp} {ys:List β},gA R ds A ys→(∀d B y,R d B y→∀a,B a→Pr a)→∀a,A a→Pr a
 | [],A,ys,h,_,a,q=>absurd q (h.1 a)
 | d::ds,A,ys,⟨y,yt,A1,A2,h1,h2,h3,h4,h5⟩,m,a,q=>((h3 a).mp q).elim (m _ _ _ h4 a) (gA.all h5 m a)
A9 jH.cells{s:SD}{y:Option V}(h:jH K H Z s A y):∀a,A a→pR H a:=by
 cases s with
 | no=>~fun a q=>absurd q (h a)
 | fro d=>~fun a q=>absurd q (h.1 a)
 | own d=>A7⟨v,_,o⟩:=h;~Ow.cells d A v o
 | inn v d=>~Ow.cells d A v h.2
A9 jO(h:gA (jH K H Z) env A σ):∀a,A a→pR H a:=gA.all h fun _ _ _ q=>q.cells
A9 Rel.len(h:Rel K B env σ H):σ.length=env.length:=let ⟨_,s,_⟩:=h;s.len
A9 Rel.mono(h:Rel K B' env σ H)(s:aN B B'):Rel K B env σ H:=let ⟨A,a,b⟩:=h;⟨A,a,s.trans b⟩
A9 kY{A A':Fp}(s:aN H H')(h:∀a,A' a→A a∨H a=none):aN (out H A) (out H' A'):=fun b o e=>by
 A7⟨e1,e2⟩:=bC.mp e
 &bC.mpr ⟨fun q=>?_,s b o e2⟩
 rcases h b q with q | q
 ·~e1 q
 ·rw[q]at e2;cases e2
A9 jH.same{s:SD}{y:Option V}(h:jH K H Z s A y)(e:aN H H')(z:aN Z Z'):jH K H' Z' s A y:=by
 cases s with
 | no=>~h
 | fro d=>A7⟨h1,v,h2,h3⟩:=h;~⟨h1,v,h2,z.rv _ _ h3⟩
 | own d=>A7⟨v,h1,h2⟩:=h;~⟨v,h1,h2.same e⟩
 | inn v d=>~⟨h.1,h.2.same e⟩
A9 Rel.same(h:Rel K B env σ H)(s:aN H H'):Rel K B env σ H':=by
 A7⟨A,a,b⟩:=h
 have g:aN (out H A) (out H' A):=kY s fun a q=>.inl q
 ~⟨A,a.mono fun e C z _ q=>q.same s g,b.trans g⟩
A9 Fw(h:gA (jH K H (out H A)) env A σ):Zn K A (out H A) H:=⟨kJ H A,Vj fun a q=>(jO h a q).2,fun a q=>⟨by
 A8 out;rw[if_pos q],fun z=>by A7⟨⟨o,e⟩,_⟩:=jO h a q;rw[z]at e;cases e⟩⟩
A9 Rel.r(h:Rel K B env σ H):pD K H (rE env) σ:=fun i d q=>by
 A7⟨A,a,b⟩:=h
 A8 rE at q
 rw[D5]at q
 cases e:env[i]? with
 | none=>rw[e]at q;cases q
 | some s=>
  rw[e]at q
  A7⟨y,A1,C,h1,h2,h3,h4,_⟩:=a.focus e
  cases s with
  | no=>cases q
  | fro d0=>cases q;A7⟨_,v,rfl,h5⟩:=h4;~⟨v,h1,(kJ H A).rv _ _ h5⟩
  | own d0=>cases q;A7⟨v,rfl,h5⟩:=h4;~⟨v,h1,Ow.rv _ _ _ h5⟩
  | inn v d0=>cases q;A7⟨rfl,h5⟩:=h4;~⟨v,h1,Ow.rv _ _ _ h5⟩
A9 NP(a:gA (jH K H (out H A)) env A σ):pD K (out H A) (zE env) σ:=fun i d q=>by
 A8 zE at q
 rw[D5]at q
 cases e:env[i]? with
 | none=>rw[e]at q;cases q
 | some s=>
  rw[e]at q
  A7⟨y,A1,C,h1,h2,h3,h4,_⟩:=a.focus e
  cases s with
  | no=>cases q
  | fro d0=>cases q;A7⟨_,v,rfl,h5⟩:=h4;~⟨v,h1,h5⟩
  | own d0=>
   A7⟨v,rfl,h5⟩:=h4
   have q:(if d0.eX=true then some d0 else none)=some d:=G1 q
   split at q
   ·rename_i im
    cases q
    ~⟨v,h1,(yS _ v im (Ow.rv _ _ _ h5)).out (fun _ z=>z.elim) fun x hx=>(jO a x hx).2⟩
   ·cases q
  | inn v d0=>
   A7⟨rfl,h5⟩:=h4
   have q:(if d0.eX=true then some d0 else none)=some d:=G1 q
   split at q
   ·rename_i im
    cases q
    ~⟨v,h1,(yS _ v im (Ow.rv _ _ _ h5)).out (fun _ z=>z.elim) fun x hx=>(jO a x hx).2⟩
   ·cases q
A9 Rel.own{i:Nat}{d:D}{v:V}(h:Rel K B env σ H)(hi:i<env.length)(s:aN H H')(n:Bf K H H' d v):Rel K B (env.set i (.own d)) (σ.set i (some v)) H':=by
 A7⟨A,a,b⟩:=h
 A7⟨N,o,f⟩:=n
 have cl:=jO a
 A7⟨y,A1,C,h1,h2,h3,h4,k⟩:=a.focus (B6 hi)
 have g:aN (out H A) (out H' (gZ N C)):=kY s fun x q=>q.elim (fun q=>.inr (f x q)) fun q=>.inl ((h3 x).mpr (.inr q))
 &⟨gZ N C,k (jH K H' (out H' (gZ N C))) (fun e D z _ q=>q.same s g) (.own d) (some v) N (fun x q c=>?_) ⟨v,rfl,o⟩,b.trans g⟩
 A7⟨⟨u,e⟩,_⟩:=cl x ((h3 x).mpr (.inr c))
 rw[f x q]at e;cases e
A9 Fx{i:Nat}{d:D}{v:V}(a:gA (jH K H (out H A)) env A σ)(b:aN B (out H A))(hi:i<env.length)(s:aN H H')(t:aN (out H A) Z')(z:Zn K A Z' H')(r:Rv K Z' d v):Rel K B (env.set i (.fro d)) (σ.set i (some v)) H':=by
 A7⟨y,A1,C,h1,h2,h3,h4,k⟩:=a.focus (B6 hi)
 have hC:∀x,gZ nil C x→A x:=fun x q=>q.elim False.elim fun q=>(h3 x).mpr (.inr q)
 have g:aN (out H A) (out H' (gZ nil C)):=kY s fun x q=>.inl (hC x q)
 have g2:aN Z' (out H' (gZ nil C)):=fun x o e=>bC.mpr ⟨fun q=>(by rw[(z.no x (hC x q)).1]at e;cases e),z.sm x o e⟩
 ~⟨gZ nil C,k (jH K H' (out H' (gZ nil C))) (fun e D z _ q=>q.same s g) (.fro d) (some v) nil (fun x q c=>q) ⟨fun _ z=>z,v,rfl,g2.rv _ _ r⟩,b.trans g⟩
def Vs(env:EN)(j:Nat):EN:=match env[j]? with
 | some (.own d)=>env.set j (.fro d)
 | _=>env
def tZ(js:List Nat)(env:EN):EN:=js.foldl Vs env
A9 set_same{α:Type}{l:List α}{i:Nat}{x:α}(h:l[i]?=some x):l.set i x=l:=by
 apply List.ext_getElem?
 intro j
 rw[List.getElem?_set]
 by_cases c:i=j
 ·subst c
  rw[if_pos rfl,h]
  split
  ·rfl
  ·rename_i q;rw[List.getElem?_eq_none A3]at h;cases h
 ·rw[if_neg c]
A9 Rel.Vs{j:Nat}(h:Rel K B env σ H):Rel K B (Vs env j) σ H:=by
 A8 L2.Vs
 cases e:env[j]? with
 | none=>~h
 | some s=>
  cases s with
  | no=>~h
  | fro d=>~h
  | inn v d=>~h
  | own d=>
   A7⟨A,a,b⟩:=h
   have cl:=jO a
   A7⟨y,A1,C,h1,h2,h3,h4,k⟩:=a.focus e
   A7⟨v,rfl,o⟩:=h4
   have g:aN (out H A) (out H (gZ nil C)):=kY (aN.refl _) fun x q=>q.elim False.elim fun q=>.inl ((h3 x).mpr (.inr q))
   have:=k (jH K H (out H (gZ nil C))) (fun e D z _ q=>q.same (aN.refl _) g) (.fro d) (some v) nil (fun x q c=>q)
    ⟨fun _ z=>z,v,rfl,o.out (fun x q c=>h2 x q (c.elim False.elim id)) fun x q=>(cl x ((h3 x).mpr (.inr (q.elim False.elim id)))).2⟩
   rw[set_same h1]at this
   ~⟨gZ nil C,this,b.trans g⟩
A9 Rel.tZ{js:List Nat}(h:Rel K B env σ H):Rel K B (tZ js env) σ H:=by
 A8 L2.tZ
 induction js generalizing env with
 | nil=>~h
 | cons j js ih=>~ih h.Vs
end
inductive SR where
  | next (env:EN) | ret (d:D) | brk (env:EN) | cont (env:EN) | bad | rete (d:D) (env:EN)
def Bq(K:aA)(B:Hp)(E:Ends):SR→Prop
 | .next env=>∀σ H,Rel K B env σ H→E.nx σ H
 | .ret d=>∀v H A,aN B (out H A)→Ow K H d A v→E.rt v H
 | .brk env=>∀σ H,Rel K B env σ H→E.bk σ H
 | .cont env=>∀σ H,Rel K B env σ H→E.ct σ H
 | .bad=>False
 | .rete d env=>∀v σ H,Rel K B (env++[.own d]) (σ++[some v]) H→E.rt v H
A9 Bq.mono{K:aA}{B B':Hp}{E:Ends}{r:SR}(h:Bq K B E r)(s:aN B B'):Bq K B' E r:=by
 cases r with
 | next env=>~fun σ H q=>h σ H (q.mono s)
 | ret d=>~fun v H A q=>h v H A (s.trans q)
 | brk env=>~fun σ H q=>h σ H (q.mono s)
 | cont env=>~fun σ H q=>h σ H (q.mono s)
 | bad=>~h
 | rete d env=>~fun v σ H q=>h v σ H (q.mono s)
abbrev GS:=EN→SR
def DS(K:aA)(t:TS)(g:GS):Prop:=∀(B:Hp)(E:Ends)(σ:St)(H:Hp)(env:EN),Rel K B env σ H→Bq K B E (g env)→t E σ H
def my(K:aA)(B:Hp)(E:Ends)(σ:St):SR→Prop
 | .next env=>∀H,Rel K B env σ H→E.nx σ H
 | r=>Bq K B E r
def WR(K:aA)(t:TS)(g:GS):Prop:=∀(B:Hp)(E:Ends)(σ:St)(H:Hp)(env:EN),Rel K B env σ H→my K B E σ (g env)→t E σ H
A9 WR.ds{K:aA}{t:TS}{g:GS}(h:WR K t g):DS K t g:=fun B E σ H env r p=>h B E σ H env r (by
 cases q:g env with
 | next e=>rw[q]at p;~fun H' r'=>p σ H' r'
 | ret d=>rw[q]at p;~p
 | brk e=>rw[q]at p;~p
 | cont e=>rw[q]at p;~p
 | bad=>rw[q]at p;~p
 | rete d e=>rw[q]at p;~p)
structure YS(K:aA)(X:Cx)(st:Stmt)(t:TS)(g:GS):Prop where
 ps:PS X st t
 ev:DS K t g
structure YB(K:aA)(X:Cx)(st:List Stmt)(t:TS)(g:GS):Prop where
 ps:Ce X st t
 ev:DS K t g
section
variable{K:aA}{X:Cx}{st:Stmt}{sts:List Stmt}{t u:TS}{g g1 g2:GS}{e a b c:Expr}{te ta tb:TE}{f fa fb:FE}{tc:TT}{fc:FT}{pos:Pos}
def aQ(g1 g2:GS):GS:=fun env=>match g1 env with
 | .next env'=>g2 env'
 | r=>r
A9 WT(h1:DS K t g1)(h2:DS K u g2):DS K (Rf t u) (aQ g1 g2):=fun B E σ H env r p=>by
 A8 aQ at p
 &h1 B {E with nx:=u E} σ H env r ?_
 cases q:g1 env with
 | next env'=>rw[q]at p;~fun σ' H' r'=>h2 B E σ' H' env' r' p
 | ret d=>rw[q]at p;~p
 | brk d=>rw[q]at p;~p
 | cont d=>rw[q]at p;~p
 | bad=>rw[q]at p;~p
 | rete d e=>rw[q]at p;~p
def bG:GS:=fun env=>.next env
A9 bK:YB K X [] Hz bG:=⟨Od,fun B E σ H env r p=>p σ H r⟩
A9 aR(h:YS K X st t g):YB K X [st] t g:=⟨xP h.ps,h.ev⟩
A9 aK(h:YS K X st t g1)(h2:YB K X sts u g2):YB K X (st::sts) (Rf t u) (aQ g1 g2):=⟨uC h.ps h2.ps,WT h.ev h2.ev⟩
def bD(i:Nat)(f:FE):GS:=fun env=>match f (rE env)with
 | some d=>if i<env.length then .next (env.set i (.own d))else .bad
 | none=>.bad
A9 Vt{i:Nat}(h:Dh K te f):DS K (nO te (cB i)) (bD i f):=fun B E σ H env r p=>by
 A8 bD at p
 split at p
 ·rename_i d q
  split at p
  ·rename_i hi
   ~h σ H (rE env) d _ r.r q fun v H' s n=>p _ _ (r.own hi s n)
  ·~p.elim
 ·~p.elim
def wQ(i:Nat)(f:FE):GS:=fun env=>match f (zE env)with
 | some d=>if i<env.length then .next (env.set i (.fro d))else .bad
 | none=>.bad
A9 CZ{i:Nat}(h:Dg K te f):DS K (nO te (cB i)) (wQ i f):=fun B E σ H env r p=>by
 A8 wQ at p
 split at p
 ·rename_i d q
  split at p
  ·rename_i hi
   A7⟨A,a,b⟩:=r
   ~h σ H (out H A) (zE env) d _ (Fw a) (NP a) q fun v H' Z' s t z rv=>p _ _ (Fx a b hi s t z rv)
  ·~p.elim
 ·~p.elim
A9 bB{i:Nat}{x:Str}{pos':Pos}(h:XN K X e te f)(hp:PE X e te→PS X (.Assign [.Name x pos'] e pos) (nO te (cB i))):YS K X (.Assign [.Name x pos'] e pos) (nO te (cB i)) (bD i f):=⟨hp h.pe,Vt h.ev⟩
A9 DG{i:Nat}{x:Str}{pos':Pos}(h:XR K X e te f)(hp:PE X e te→PS X (.Assign [.Name x pos'] e pos) (nO te (cB i))):YS K X (.Assign [.Name x pos'] e pos) (nO te (cB i)) (wQ i f):=⟨hp h.pe,CZ h.ev⟩
def cU(f:FE):GS:=fun env=>match f (rE env)with
 | some d=>.ret d
 | none=>.bad
A9 bF(h:XN K X e te f):YS K X (.Return (some e) pos) (Kw te) (cU f):=⟨Ky h.pe,fun B E σ H env r p=>by
 A8 cU at p
 split at p
 ·rename_i d q
  &h.ev σ H (rE env) d _ r.r q fun v H' s ⟨N,o,fr⟩=>p v H' N (fun x u ex=>?_) o
  A7⟨A,a,b⟩:=r
  have h1:=(bC.mp (b x u ex)).2
  ~bC.mpr ⟨fun z=>(by rw[fr x z]at h1;cases h1),s x u h1⟩
 ·~p.elim⟩
def mL(i:Nat):GS:=fun env=>match env[i]? with
 | some (.own d)=>.ret d
 | some (.fro d)=>if d.eX=true then .ret d else .bad
 | _=>.bad
A9 uP{i:Nat}(h:PE X e (jF i)):YS K X (.Return (some e) pos) (Kw (jF i)) (mL i):=⟨Ky h,fun B E σ H env r p=>by
 A8 mL at p
 A7⟨A,a,b⟩:=r
 split at p
 ·rename_i d q
  A7⟨y,A1,C,h1,h2,h3,h4,_⟩:=a.focus q
  A7⟨v,rfl,o⟩:=h4
  ~⟨v,h1,p v H A1 (b.trans (kY (aN.refl _) fun x z=>.inl ((h3 x).mpr (.inl z)))) o⟩
 ·rename_i d q
  split at p
  ·rename_i im
   A7⟨y,A1,C,h1,h2,h3,h4,_⟩:=a.focus q
   A7⟨_,v,rfl,rv⟩:=h4
   ~⟨v,h1,p v H nil (b.trans (kY (aN.refl _) fun x z=>z.elim)) (yS d v im ((kJ H A).rv _ _ rv))⟩
  ·~p.elim
 ·~p.elim⟩
def jJ(f:FT)(g1 g2:GS):GS:=fun env=>match f (rE env)with
 | some true=>g1 env
 | some false=>g2 env
 | none=>.bad
A9 cP{s1 s2:List Stmt}(hc:XT K X c tc fc)(h1:YB K X s1 t g1)(h2:YB K X s2 u g2):YS K X (.If c s1 s2 pos) (Rg tc t u) (jJ fc g1 g2):=⟨Um hc.pt h1.ps h2.ps,fun B E σ H env r p=>by
 A8 jJ at p
 split at p
 ·rename_i q
  &hc.ev σ H (rE env) true _ r.r q fun H' s=>?_
  rw[if_pos rfl]
  ~h1.ev B E σ H' env (r.same s) p
 ·rename_i q
  &hc.ev σ H (rE env) false _ r.r q fun H' s=>?_
  rw[if_neg A5]
  ~h2.ev B E σ H' env (r.same s) p
 ·~p.elim⟩
def rW(i:Nat)(g:GS):List D→EN→SR
 | [],env=>.next env
 | x::xs,env=>if i<env.length then match g (env.set i (.fro x))with
   | .next env'=>rW i g xs env'
   | .cont env'=>rW i g xs env'
   | .brk env'=>.next env'
   | r=>r
  else .bad
def uQ(js:List Nat)(i:Nat)(fi:FA)(g:GS):GS:=fun env=>match fi (zE (tZ js env))with
 | some xs=>rW i g xs (tZ js env)
 | none=>.bad
A9 WW{js:List Nat}{i:Nat}{wi:TI}{fi:FA}{tb:TS}(hi:vy K wi fi)(h:DS K tb g):DS K (Lb wi (cB i) tb) (uQ js i fi g):=fun B E σ H env r p=>by
 A8 uQ at p
 have r':Rel K B (tZ js env) σ H:=r.tZ
 generalize tZ js env=pH at r' p
 split at p
 ·rename_i xs q
  A7⟨A,a,b⟩:=r'
  &hi σ H (out H A) (zE pH) xs _ (Fw a) (NP a) q fun J H1 Z1 P vs s t z hJ hP rvs=>?_
  have hl:=rvs.length
  have g0:aN Z1 (out H1 A):=fun x o e=>bC.mpr ⟨fun qa=>(by rw[(z.no x qa).1]at e;cases e),z.sm x o e⟩
  have zm:Rel K Z1 pH σ H1:=⟨A,a.mono fun e D y _ qq=>qq.same s (kY s fun x q=>.inl q),g0⟩
  have bz:aN B Z1:=b.trans t
  have p':=p.mono bz
  &Ff hJ (fun k σ2 H2=>∃rY,Rel K Z1 rY σ2 H2∧Bq K Z1 E (rW i g (xs.drop k) rY)) ⟨pH,zm,by simpa using p'⟩ (fun k σ2 H2 _ ⟨rY,⟨A2,a2,b2⟩,_⟩=>hP H2 (b2.trans (kJ H2 A2))) ?_ ?_
  ·rintro k x σ2 H2 hx ⟨rY,r2,p2⟩
   have hk:k<xs.length:=by
    have:=C4.mp hx
    A7⟨h1,_⟩:=this
    omega
   rw[L7 hk]at p2
   A8 rW at p2
   A7⟨x',hx',rx⟩:=rvs.get (B6 hk)
   rw[hx]at hx'
   cases hx'
   split at p2
   ·rename_i hlen
    A7⟨A2,a2,b2⟩:=r2
    have r3:Rel K Z1 (rY.set i (.fro xs[k])) (σ2.set i (some x)) H2:=Fx a2 b2 hlen (aN.refl _) (aN.refl _) (Fw a2) (b2.rv _ _ rx)
    &h Z1 _ _ H2 _ r3 ?_
    split at p2
    ·rename_i env' q2;rw[q2];~fun σ' H' r'=>⟨env',r',p2⟩
    ·rename_i env' q2;rw[q2];~fun σ' H' r'=>⟨env',r',p2⟩
    ·rename_i env' q2;rw[q2];~p2
    ·rename_i n1 n2 n3
     cases q2:g (rY.set i (.fro xs[k]))with
     | next e=>~absurd q2 (n1 e)
     | cont e=>~absurd q2 (n2 e)
     | brk e=>~absurd q2 (n3 e)
     | ret d=>rw[q2]at p2;~p2
     | bad=>rw[q2]at p2;~p2
     | rete d e=>rw[q2]at p2;~p2
   ·~p2.elim
  ·rintro σ2 H2 ⟨rY,r2,p2⟩
   rw[hl,T3]at p2
   ~p2 σ2 H2 r2
 ·~p.elim
A9 vP{tg iter:Expr}{body:List Stmt}{wi:TI}{fi:FA}{tb:TS}{i:Nat}(js:List Nat)(hp:PassesOwn (model X.prog X.w) X.A X.env X.xe)(Ss:X.calm=true)(hi:XI K X tg iter wi fi)(hg:PG X tg (cB i))(hb:YB K X body tb g)
  (hs:∀x,foldedSetIterable iter X.env x=pure x:=by intro _;rfl):YS K X (.For tg iter body [] pos) (Lb wi (cB i) tb) (uQ js i fi g):=⟨Ld hp Ss hi.pi hg hb.ps hs,WW hi.ev hb.ev⟩
end
end L2


namespace L2
open PySem PySem.Spec PyProof.Rows
inductive Step where
  | ix (k:Nat) | key (k:Key) | fld (C:Addr) (f:Str)
def kids:D→List D
 | .lst ds=>ds
 | .dk _ ds=>ds
 | .ins _ _ ds=>ds
 | _=>[]
def uR:D→List D→D
 | .lst _,ds=>.lst ds
 | .dk ks _,ds=>.dk ks ds
 | .ins C nm _,ds=>.ins C nm ds
 | d,_=>d
def xM:Step→D→Option Nat
 | .ix k,.lst ds=>some k
 | .key k,.dk ks _=>posK ks k
 | .fld C f,.ins C' nm _=>if C'=C then posK nm f else none
 | _,_=>none
def qF:List Step→D→Option D
 | [],d=>some d
 | s::p,d=>(xM s d).bind fun j=>((kids d)[j]?).bind (qF p)
def oU:List Step→D→D→D
 | [],_,d'=>d'
 | s::p,d,d'=>match xM s d with
  | some j=>(match (kids d)[j]? with
   | some c=>uR d ((kids d).set j (oU p c d'))
   | none=>d)
  | none=>d
def stepV(H:Hp)(s:Step)(v:V):Option V:=match v with
 | .ref a=>(match s,H a with
  | .ix k,some (.lst xs)=>xs[k]?
  | .key k,some (.dK kvs)=>Rw kvs k
  | .fld C f,some (.ins C' _ fs)=>if C'=C then fs.lookup f else none
  | _,_=>none)
 | _=>none
def Hw(H:Hp):List Step→V→Option V
 | [],v=>some v
 | s::p,v=>(stepV H s v).bind (Hw H p)
A9 Mj{H H':Hp}(e:aN H H'){s:Step}{v w:V}(h:stepV H s v=some w):stepV H' s v=some w:=by
 cases v with
 | ref a=>
  A8 stepV at h ⊢
  dsimp only at h ⊢
  cases q:H a with
  | none=>rw[q]at h;cases s<;>cases h
  | some o=>rw[e a o q];rw[q]at h;~h
 | _=>A8 stepV at h;cases h
A9 Je{H H':Hp}(e:aN H H'):∀{p:List Step} {v w:V},Hw H p v=some w→Hw H' p v=some w
 | [],v,w,h=>h
 | s::p,v,w,h=>by
  A8 Hw at h ⊢
  A7⟨u,h1,h2⟩:=aU h
  rw[Mj e h1]
  ~Je e h2
A9 Ml{nm:List Str}{xs:List V}{f:Str}(h:nm.length=xs.length):(nm.zip xs).lookup f=(posK nm f).bind fun j=>xs[j]?:=by
 induction nm generalizing xs with
 | nil=>A8 posK;rfl
 | cons a nm ih=>
  cases xs with
  | nil=>simp at h
  | cons x xs=>
   have ih:=ih (xs:=xs) (by simpa using h)
   A8 posK
   rw[W0,Q3]
   by_cases c:a=f
   ·subst c;simp
   ·have c2:(f==a)=false:=by
     rw[beq_eq_false_iff_ne];~fun z=>c z.symm
    rw[c2,if_neg c,ih]
    cases posK nm f<;>rfl
A9 Ow.kids{K:aA}{H:Hp}{d:D}{A:Fp}{v:V}{s:Step}{j:Nat}(h:Ow K H d A v)(q:xM s d=some j):∃xs T Bt,(∀x,xs[j]?=some x→stepV H s v=some x)∧gB K H (kids d) Bt xs∧Is A (gZ T Bt)∧Apart T Bt ∧
  ∀H' ds' B',ds'.length=(kids d).length→gB K H' ds' B' xs→(∀a,T a→H' a=H a)→Apart T B'→Ow K H' (uR d ds') (gZ T B') v:=by
 cases d with
 | lst ds=>
  A8 Ow at h
  A7⟨a,xs,B,rfl,h2,h3,h4,h5⟩:=h
  cases s with
  | ix k=>
   A8 xM at q
   cases q
   &⟨xs,(·=a),B,fun x hx=>?_,h5,h4,fun x qx qb=>h3 (qx▸qb),fun H' ds' B' hl o f ap=>?_⟩
   ·A8 stepV;dsimp only;rw[h2];~hx
   ·show Ow K H' (.lst ds') _ _
    A8 Ow
    ~⟨a,xs,B',rfl,(f a rfl).trans h2,ap a rfl,fun _=>Iff.rfl,o⟩
  | _=>A8 xM at q;cases q
 | dk ks ds=>
  A8 Ow at h
  A7⟨a,xs,B,rfl,h2,h2',h3,h4,h5⟩:=h
  cases s with
  | key k=>
   have q:posK ks k=some j:=q
   &⟨xs,(·=a),B,fun x hx=>?_,h5,h4,fun x qx qb=>h3 (qx▸qb),fun H' ds' B' hl o f ap=>?_⟩
   ·A8 stepV;dsimp only;rw[h2];show Rw (ks.zip xs) k=_;rw[Iz h2',q];~hx
   ·show Ow K H' (.dk ks ds') _ _
    A8 Ow
    ~⟨a,xs,B',rfl,(f a rfl).trans h2,h2',ap a rfl,fun _=>Iff.rfl,o⟩
  | _=>A8 xM at q;cases q
 | ins C nm ds=>
  A8 Ow at h
  A7⟨a,dx,xs,B,rfl,h2,h2',h3,h3',h3'',h4,h5⟩:=h
  cases s with
  | fld C0 k=>
   have q:(if C=C0 then posK nm k else none)=some j:=q
   by_cases hc:C=C0
   rotate_left
   ·rw[if_neg hc]at q;cases q
   rw[if_pos hc]at q
   &⟨xs,(fun x=>x=a∨x=dx),B,fun x hx=>?_,h5,h4,fun x qx qb=>qx.elim (fun z=>h3' (z▸qb)) fun z=>h3'' (z▸qb),fun H' ds' B' hl o f ap=>?_⟩
   ·A8 stepV;dsimp only;rw[h2];show (if C=C0 then(nm.zip xs).lookup k else none)=_;rw[if_pos hc,Ml h3,q];~hx
   ·show Ow K H' (.ins C nm ds') _ _
    A8 Ow
    ~⟨a,dx,xs,B',rfl,(f a (.inl rfl)).trans h2,(f dx (.inr rfl)).trans h2',h3,ap a (.inl rfl),ap dx (.inr rfl),fun _=>Iff.rfl,o⟩
  | _=>A8 xM at q;cases q
 | _=>cases s<;>(A8 xM at q;cases q)
A9 Ow.at{K:aA}{H:Hp}:∀{p:List Step} {d d1:D} {A:Fp} {v:V},Ow K H d A v→qF p d=some d1→∃w A1 C,Hw H p v=some w∧Apart A1 C∧Is A (gZ A1 C)∧Ow K H d1 A1 w ∧
    ∀H' d' A',Apart A' C→(∀a,C a→H' a=H a)→vJ K H H'→Ow K H' d' A' w→Ow K H' (oU p d d') (gZ A' C) v
  | [],d,d1,A,v,h,q=>by
    A8 qF at q
    cases q
    ~⟨v,A,nil,rfl,fun _ _ z=>z,fun x=>⟨.inl,fun z=>z.elim id False.elim⟩,h,fun H' d' A' _ _ _ o=>o.congr fun x=>⟨.inl,fun z=>z.elim id False.elim⟩⟩
  | s::p,d,d1,A,v,h,q=>by
    A8 qF at q
    A7⟨j,q1,q2⟩:=aU q
    A7⟨c,q3,q4⟩:=aU q2
    A7⟨xs,T,Bt,k1,k2,k3,k4,k5⟩:=h.kids q1
    A7⟨y,B1,C1,f1,f2,f3,f4,f5⟩:=(fW.mp k2).focus q3
    A7⟨w,A1,C2,g1,g2,g3,g4,g5⟩:=Ow.at f4 q4
    &⟨w,A1,gZ T (gZ C1 C2),?_,?_,?_,g4,fun H' d' A' ap fr tk o=>?_⟩
    · A8 Hw
      rw[k1 y f1]
      ~g1
    · intro x qx qc
      have b1:B1 x:=(g3 x).mpr (.inl qx)
      rcases qc with qc | qc | qc
      · ~k4 x qc ((f3 x).mpr (.inl b1))
      · ~f2 x b1 qc
      · ~g2 x qx qc
    · intro x
      rw[k3 x]
      constructor
      · rintro(z | z)
        · ~.inr (.inl z)
        · rcases(f3 x).mp z with z | z
          · rcases(g3 x).mp z with z | z
            · ~.inl z
            · ~.inr (.inr (.inr z))
          · ~.inr (.inr (.inl z))
      · rintro(z | z | z | z)
        · ~.inr ((f3 x).mpr (.inl ((g3 x).mpr (.inl z))))
        · ~.inl z
        · ~.inr ((f3 x).mpr (.inr z))
        · ~.inr ((f3 x).mpr (.inl ((g3 x).mpr (.inr z))))
    · have o1:Ow K H' (oU p c d') (gZ A' C2) y:=g5 H' d' A' (fun x a b=>ap x a (.inr (.inr b))) (fun a z=>fr a (.inr (.inr z))) tk o
      have ap1:Apart (gZ A' C2) C1:=fun x a b=>a.elim (fun z=>ap x z (.inr (.inl b))) fun z=>f2 x ((g3 x).mpr (.inr z)) b
      have o2:=f5 (Ow K H') (fun e B z hb qq=>Ow.frame tk e B z qq fun a za=>fr a (.inr (.inl (hb a za)))) (oU p c d') y (gZ A' C2) ap1 o1
      rw[set_same f1]at o2
      have o3:=k5 H' ((L2.kids d).set j (oU p c d')) _ (by rw[O3]) (fW.mpr o2) (fun a z=>fr a (.inl z)) (fun x a b=>by
        rcases b with (b | b) | b
        · ~ap x b (.inl a)
        · ~k4 x a ((f3 x).mpr (.inl ((g3 x).mpr (.inr b))))
        · ~k4 x a ((f3 x).mpr (.inr b)))
      have e:oU (s::p) d d'=uR d ((L2.kids d).set j (oU p c d')):=by
        show (match xM s d with | some j=>_ | none=>_)=_
        rw[q1]
        show (match (L2.kids d)[j]? with | some c=>_ | none=>_)=_
        rw[q3]
      rw[e]
      &o3.congr fun x=>?_
      show (T x∨(A' x∨C2 x)∨C1 x)↔(A' x∨T x∨C1 x∨C2 x)
      constructor
      · rintro(z | (z | z) | z)
        · ~.inr (.inl z)
        · ~.inl z
        · ~.inr (.inr (.inr z))
        · ~.inr (.inr (.inl z))
      · rintro(z | z | z | z)
        · ~.inr (.inl (.inl z))
        · ~.inl z
        · ~.inr (.inr z)
        · ~.inr (.inl (.inr z))
section
variable{K:aA}{B H:Hp}{env:EN}{σ:St}
A9 Rel.at{i:Nat}{p:List Step}{d0 d:D}(h:Rel K B env σ H)(e:env[i]?=some (.own d0))(q:qF p d0=some d):∃v0 w A1 C,σ[i]?=some (some v0)∧Hw H p v0=some w∧Ow K H d A1 w∧Apart A1 C∧(∀a,C a→pR H a) ∧
    ∀H' d' A',Apart A' C→(∀a,C a→H' a=H a)→vJ K H H'→Ow K H' d' A' w→aN (out H (gZ A1 C)) (out H' (gZ A' C))→Rel K B (env.set i (.own (oU p d0 d'))) σ H':=by
  A7⟨A,a,b⟩:=h
  have cl:=jO a
  A7⟨y,A1,C,h1,h2,h3,h4,k⟩:=a.focus e
  A7⟨v0,rfl,o⟩:=h4
  A7⟨w,B1,C1,g1,g2,g3,g4,g5⟩:=o.at q
  &⟨v0,w,B1,gZ C1 C,h1,g1,g4,fun x z1 z2=>?_,fun x z=>?_,fun H' d' A' ap fr tk o' sm=>?_⟩
  · ~z2.elim (g2 x z1) (h2 x ((g3 x).mpr (.inl z1)))
  · ~cl x ((h3 x).mpr (z.elim (fun z=>.inl ((g3 x).mpr (.inr z))) .inr))
  · have o2:=g5 H' d' A' (fun x z1 z2=>ap x z1 (.inl z2)) (fun x z=>fr x (.inl z)) tk o'
    have ap2:Apart (gZ A' C1) C:=fun x z1 z2=>z1.elim (fun z=>ap x z (.inr z2)) fun z=>h2 x ((g3 x).mpr (.inr z)) z2
    have hA:Is A (gZ B1 (gZ C1 C)):=fun x=>by
      rw[h3 x]
      constructor
      · rintro(z | z)
        · ~((g3 x).mp z).elim .inl fun z=>.inr (.inl z)
        · ~.inr (.inr z)
      · rintro(z | z | z)
        · ~.inl ((g3 x).mpr (.inl z))
        · ~.inl ((g3 x).mpr (.inr z))
        · ~.inr z
    have g:aN (out H A) (out H' (gZ (gZ A' C1) C)):=fun x u ex=>by
      A7⟨e1,e2⟩:=bC.mp ex
      have:=sm x u (bC.mpr ⟨fun z=>e1 ((hA x).mpr z),e2⟩)
      A7⟨e3,e4⟩:=bC.mp this
      ~bC.mpr ⟨fun z=>e3 (z.elim (fun z=>z.elim .inl fun z=>.inr (.inl z)) fun z=>.inr (.inr z)),e4⟩
    have s:=k (jH K H' (out H' (gZ (gZ A' C1) C))) (fun s D z hb qq=>by
      cases s with
      | no=>~qq
      | fro d=>A7⟨q1,v,q2,q3⟩:=qq;~⟨q1,v,q2,g.rv _ _ q3⟩
      | inn v d=>~⟨qq.1,Ow.frame tk _ _ _ qq.2 fun x zx=>fr x (.inr (hb x zx))⟩
      | own d=>A7⟨v,q1,q2⟩:=qq;~⟨v,q1,Ow.frame tk _ _ _ q2 fun x zx=>fr x (.inr (hb x zx))⟩) (.own (oU p d0 d')) (some v0) (gZ A' C1) ap2 ⟨v0,rfl,o2⟩
    rw[set_same h1]at s
    ~⟨_,s,b.trans g⟩
A9 Rel.Vu{i:Nat}{p:List Step}{d0:D}{ds:List D}(h:Rel K B env σ H)(e:env[i]?=some (.own d0))(q:qF p d0=some (.lst ds)):∃v0 a xs Bs,σ[i]?=some (some v0)∧Hw H p v0=some (.ref a)∧H a=some (.lst xs)∧¬Bs a∧gB K H ds Bs xs ∧
    ∀H2 ds' xs' Bn,aN H H2→gB K H2 ds' Bn xs'→(∀b,Bn b→Bs b∨H b=none)→Rel K B (env.set i (.own (oU p d0 (.lst ds')))) σ (upd H2 a (.lst xs')):=by
  A7⟨v0,w,A1,C,h1,h2,h3,h4,h5,h6⟩:=h.at e q
  A8 Ow at h3
  A7⟨a,xs,Bs,rfl,o2,o3,o4,o5⟩:=h3
  &⟨v0,a,xs,Bs,h1,h2,o2,o3,o5,fun H2 ds' xs' Bn s o hb=>?_⟩
  have nBa:¬Bn a:=fun z=>(hb a z).elim o3 fun z=>by rw[o2]at z;cases z
  have hC:∀x,C x→¬x=a:=fun x z y=>h4 x ((o4 x).mpr (.inl y)) z
  have mz:H2 a=some (.lst xs):=s a _ o2
  &h6 _ (.lst ds') (gZ (·=a) Bn) (fun x z1 z2=>?_) (fun x z=>?_) (s.tk.trans (Mi (rC mz))) ?_ (fun x u ex=>?_)
  · rcases z1 with z1 | z1
    · ~hC x z2 z1
    · rcases hb x z1 with z | z
      · ~h4 x ((o4 x).mpr (.inr z)) z2
      · A7⟨⟨u,eu⟩,_⟩:=h5 x z2
        rw[z]at eu;cases eu
  · A7⟨⟨u,eu⟩,_⟩:=h5 x z
    rw[bH (hC x z),eu,s x u eu]
  · A8 Ow
    &⟨a,xs',Bn,rfl,bW,nBa,fun _=>Iff.rfl,gB.frame (Mi (rC mz)) _ _ _ o fun x zx=>bH fun y=>nBa (y▸zx)⟩
  · A7⟨e1,e2⟩:=bC.mp ex
    have na:x≠a:=fun y=>e1 (.inl ((o4 x).mpr (.inl y)))
    &bC.mpr ⟨fun z=>?_,by rw[bH na];~s x u e2⟩
    rcases z with (z | z) | z
    · ~na z
    · rcases hb x z with z | z
      · ~e1 (.inl ((o4 x).mpr (.inr z)))
      · rw[z]at e2;cases e2
    · ~e1 (.inr z)
end
end L2


namespace L2
open PySem PySem.Spec PyProof.Rows
abbrev FP:=DE→Option (List Step)
def ni(K:aA)(t:TE)(i:Nat)(π:FP):Prop:=∀(σ:St)(H:Hp)(e:DE)(v0:V)(p:List Step)(v:V)(Q:VK),pD K H e σ→σ[i]?=some (some v0)→π e=some p→Hw H p v0=some v→(∀H',aN H H'→Q v H')→t σ H Q
structure XP(K:aA)(X:Cx)(e:Expr)(t:TE)(i:Nat)(π:FP):Prop where
 hk:X.K=K
 pe:PE X e t
 ev:ni K t i π
A9 Jf{H:Hp}{s:Step}:∀{p:List Step} {v0 v:V},Hw H (p++[s]) v0=some v→∃w,Hw H p v0=some w∧stepV H s w=some v
 | [],v0,v,h=>by
  rw[O4]at h
  A8 Hw at h
  A7⟨w,h1,h2⟩:=aU h
  A8 Hw at h2
  cases h2
  ~⟨v0,rfl,h1⟩
 | s'::p,v0,v,h=>by
  rw[M5]at h
  A8 Hw at h
  A7⟨u,h1,h2⟩:=aU h
  A7⟨w,h3,h4⟩:=Jf h2
  &⟨w,?_,h4⟩
  A8 Hw
  rw[h1]
  ~h3
A9 Vv{H:Hp}{k:Nat}{w v:V}(h:stepV H (.ix k) w=some v):∃a xs,w=.ref a∧H a=some (.lst xs)∧xs[k]?=some v:=by
 cases w with
 | ref a=>
  A8 stepV at h
  dsimp only at h
  cases q:H a with
  | none=>rw[q]at h;cases h
  | some o=>
   rw[q]at h
   cases o with
   | lst xs=>~⟨a,xs,rfl,q,h⟩
   | _=>cases h
 | _=>A8 stepV at h;cases h
def rZ:FP:=fun _=>some []
def Uh(π:FP)(g:FE):FP:=fun e=>(π e).bind fun p=>(g e).bind fun d=>match d with
 | .int k=>if 0≤k then some (p++[.ix k.toNat])else none
 | _=>none
section
variable{K:aA}{X:Cx}{e a b c:Expr}{es:List Expr}{t ta tb te:TE}{f g:FE}{tA:TA}{fs:FA}{pos:Pos}{i j:Nat}{π:FP}{st:Stmt}
A9 Mm(h:PE X e (jF i))(hk:X.K=K:=by rfl):XP K X e (jF i) i rZ:=⟨hk,h,fun σ H e v0 p v Q re h1 h2 h3 k=>by
 cases h2
 A8 Hw at h3
 cases h3
 ~⟨v0,h1,k H (aN.refl _)⟩⟩
A9 Vw(h:XP K X a ta i π)(hb:XR K X b tb g)(hs:xR b):XP K X (.Subscript a b pos) (Ck (vp K) ta tb) i (Uh π g):=⟨h.hk,Uy (NB h.hk) h.pe hb.pe hs,fun σ H e v0 p v Q re h1 h2 h3 k=>by
 A8 Uh at h2
 A7⟨p0,q1,q2⟩:=aU h2
 A7⟨d,q3,q4⟩:=aU q2
 split at q4
 ·rename_i n
  split at q4
  ·rename_i hn
   cases q4
   A7⟨w,w1,w2⟩:=Jf h3
   A7⟨ad,xs,rfl,w3,w4⟩:=Vv w2
   &h.ev σ H e v0 p0 _ _ re h1 q1 w1 fun H1 s1=>hb.ev σ H1 H1 e _ _ (Zn.self K H1) (re.same s1) q3 fun y H2 Z2 s2 t2 z2 ry=>?_
   A8 Rv at ry
   ~.inl ⟨ad,xs,n,v,rfl,ry,mC.of (s2 _ _ (s1 _ _ w3)),zf hn w4,k H2 (s1.trans s2)⟩
  ·cases q4
 ·cases q4⟩
def Br(i:Nat)(π:FP)(f:FE):GS:=fun env=>match env[i]?,π (rE env),f (rE env)with
 | some (.own d0),some p,some d=>(match qF p d0 with
  | some (.lst ds)=>if ds.length<100000 then .next (env.set i (.own (oU p d0 (.lst (ds++[d])))))else .bad
  | _=>.bad)
 | _,_,_=>.bad
A9 Mp{H H1:Hp}{A:Fp}{ds:List D}{xs:List V}{N:Fp}(o:gB K H ds A xs)(fr:∀a,N a→H a=none):Apart A N:=fun x q1 q2=>by
 A7⟨⟨u,eu⟩,_⟩:=gB.cells _ _ _ o x q1
 rw[fr x q2]at eu;cases eu
A9 WX(h:ni K ta i π)(he:Dh K te f):WR K (nM (Bl K "list" oO ta (bV te iM))) (Br i π f):=fun B E σ H env r p=>by
 A8 Br at p
 split at p
 ·rename_i d0 pp d q1 q2 q3
  split at p
  ·rename_i ds q4
   split at p
   ·rename_i hl
    A7⟨v0,a,xs,Bs,k1,k2,k3,k4,k5,k6⟩:=r.Vu q1 q4
    &h σ H (rE env) v0 pp _ _ r.r k1 q2 k2 fun H1 s1=>⟨.inl ⟨rfl,xs,mC.of (s1 _ _ k3)⟩,?_⟩
    &he σ H1 (rE env) d _ (r.r.same s1) q3 fun y H2 s2 n=>?_
    A7⟨N,o,fr⟩:=n.back s1
    have s12:=s1.trans s2
    &⟨a,xs,y,rfl,rfl,s12 _ _ k3,Iu (by rw[(gB.rv _ _ _ k5).length];omega),p _ ?_⟩
    ~k6 H2 (ds++[d]) (xs++[y]) (gZ Bs N) s12 (fW.mpr ((fW.mp (k5.same s12)).snoc o (Mp (H1:=H) k5 fr))) fun b z=>z.imp id (fr b)
   ·~p.elim
  ·~p.elim
 ·~p.elim
A9 Fy{m:Str}{apos cpos:Pos}(h:XP K X a ta i π)(he:XN K X e te f)(hp:PE X a ta→PE X e te→PS X (.Expr (.Call (.Attribute a m apos) [e] [] cpos) pos) (nM (Bl K "list" oO ta (bV te iM)))):YS K X (.Expr (.Call (.Attribute a m apos) [e] [] cpos) pos) (nM (Bl K "list" oO ta (bV te iM))) (Br i π f):=⟨hp h.pe he.pe,(WX h.ev he.ev).ds⟩
def wR(i:Nat)(π:FP)(g f:FE):GS:=fun env=>match env[i]?,π (rE env),g (rE env),f (rE env)with
 | some (.own d0),some p,some (.int k),some d=>(match qF p d0 with
  | some (.lst ds)=>(match Oj ds.length k with
   | some j=>.next (env.set i (.own (oU p d0 (.lst (ds.set j d)))))
   | none=>.bad)
  | _=>.bad)
 | _,_,_,_=>.bad
A9 WY{n:Nat}{k:Int}{j:Nat}(h:Oj n k=some j):j<n:=by
 A8 Oj at h
 split at h
 ·split at h
  ·cases h;omega
  ·cases h
 ·split at h
  ·cases h;omega
  ·cases h
A9 DK(h:ni K ta i π)(hx:Dg K tb g)(he:Dh K te f):WR K (nO te (Zi ta tb Om)) (wR i π g f):=fun B E σ H env r p=>by
 A8 wR at p
 split at p
 ·rename_i d0 pp k d q1 q2 q3 zp
  split at p
  ·rename_i ds q4
   split at p
   ·rename_i j q5
    A7⟨v0,a,xs,Bs,k1,k2,k3,k4,k5,k6⟩:=r.Vu q1 q4
    &he σ H (rE env) d _ r.r zp fun y H1 s1 n=>?_
    &h σ H1 (rE env) v0 pp _ _ (r.r.same s1) k1 q2 (Je s1 k2) fun H2 s2=>hx σ H2 H2 (rE env) _ _ (Zn.self K H2) (r.r.same (s1.trans s2)) q3 fun y' H3 Z3 s3 t3 z3 ry=>?_
    A8 Rv at ry
    have gr:=s1.trans (s2.trans s3)
    A7⟨N,o,fr⟩:=n.same (s2.trans s3)
    have hlen:=(gB.rv _ _ _ k5).length
    &⟨a,xs,k,j,rfl,ry,gr _ _ k3,by rw[hlen];~q5,p _ ?_⟩
    A7⟨y0,A1,C,f1,f2,f3,f4,f5⟩:=(fW.mp (k5.same gr)).focus (B6 (WY q5))
    have ap:Apart N C:=fun x q1 q2=>Mp (H1:=H) k5 fr x ((f3 x).mpr (.inr q2)) q1
    ~k6 H3 (ds.set j d) (xs.set j y) (gZ N C) gr (fW.mpr (f5 (Ow K H3) (fun _ _ _ _ qq=>qq) d y N ap o)) fun b z=>z.elim (fun z=>.inr (fr b z)) fun z=>.inl ((f3 b).mpr (.inr z))
   ·~p.elim
  ·~p.elim
 ·~p.elim
A9 DN{pos':Pos}(h:XP K X a ta i π)(hx:XR K X b tb g)(he:XN K X e te f)(hp:PE X a ta→PE X b tb→PE X e te→PS X (.Assign [.Subscript a b pos'] e pos) (nO te (Zi ta tb Om))):YS K X (.Assign [.Subscript a b pos'] e pos) (nO te (Zi ta tb Om)) (wR i π g f):=⟨hp h.pe hx.pe he.pe,(DK h.ev hx.ev he.ev).ds⟩
end
end L2


namespace L2
open PySem PySem.Spec PyProof.Rows
def aA5(K:aA)(B:Hp)(R:Fp)(env:EN)(σ:St)(H:Hp):Prop:=∃A,gA (jH K H (out H (gZ A R))) env A σ∧Apart A R∧aN B (out H (gZ A R))
section
variable{K:aA}{B H H':Hp}{env:EN}{σ:St}{R R' A1:Fp}
end
section
variable{K:aA}{X:Cx}{e a b c:Expr}{es:List Expr}{t ta tb te:TE}{f g:FE}{tA:TA}{fs:FA}{pos:Pos}{i j:Nat}{π:FP}{st:Stmt}
inductive wj(K:aA)(H:Hp):V→Value→Prop where
 | bl (x:Bool):wj K H (.bl x) (.type "bool")
 | int (i:Int):wj K H (.int i) (.type "int")
 | lst {a:Addr} {xs:List V} (e:mC K H a xs):wj K H (.ref a) (.type "list")
 | tup {a:Addr} {xs:List V} (e:pI K H a xs):wj K H (.ref a) (.type "tuple")
structure Pj(mg:Str→Option Value)(x:Str)(i:Int):Prop where
 ex:∃t,mg x=some (.int i t)
structure wU(K:aA)(mg:Str→Option Value)(x:Str)(ns:List Int):Prop where
 ex:∃a,mg x=some (.ref a)∧∀H:Hp,pI K H a (ns.map V.int)
A9 nq{x:Str}{i:Int}(G:Pj X.mg x i)(hg:Gl X x)(hd:(x==("__debug__" : Str))=false:=by decide) (hk:X.K=K:=by rfl):XN K X (.Name x pos) (tC (.int i)) (fC (.int i)):=by
 A7⟨t,h⟩:=G.ex
 ~⟨hk,gP hg h ⟨t,rfl⟩ hd,Vk i⟩
def tGT(K:aA)(ns:List Int):TE:=fun _ H Q=>∀a,pI K H a (ns.map V.int)→Q (.ref a) H
def dTup(ns:List Int):D:=.tup (ns.map D.int)
A9 Dp{x:Str}{ns:List Int}(G:wU K X.mg x ns)(hg:Gl X x)(hd:(x==("__debug__" : Str))=false:=by decide) (hk:X.K=K:=by rfl):XN K X (.Name x pos) (tGT K ns) (fC (dTup ns)):=by
 A7⟨a,h,hq⟩:=G.ex
 &⟨hk,fun pins s σ H Q I w=>?_,fun σ H e d Q re q k=>?_⟩
 ·~gP (v:=.ref a) hg h rfl hd pins s σ H Q I (w a (hq H))
 ·cases q
  intro a' ha
  &k _ H (aN.refl _) (.eX ?_ ?_)
  ·A8 dTup D.eX;~gF ns
  ·A8 dTup Rv;~⟨a',_,rfl,ha,kW.mpr rfl⟩
end
def lJ(n m:Nat)(g:GS):List D→Option D:=fun ds=>if ds.length=m then(match g (ds.map SD.fro++B9 (n-m) SD.no)with
  | .ret d=>some d
  | .next _=>some .non
  | _=>none)else none
A9 Jg{K:aA}{H Z:Hp}{k:Nat}:∀{ds:List D} {vs:List V},cC K Z ds vs→gA (jH K H Z) (ds.map SD.fro++B9 k SD.no) nil (vs.map some++B9 k none)
 | [],vs,h=>by
  A8 cC at h
  subst h
  simp only[J7,O4]
  induction k with
  | zero=>~⟨fun _ z=>z,rfl⟩
  | succ k ih=>
   rw[G9,G9]
   ~⟨none,_,nil,nil,rfl,fun _ z=>z.elim,fun x=>⟨.inl,fun z=>z.elim id id⟩,fun _ z=>z,ih⟩
 | d::ds,vs,h=>by
  A8 cC at h
  A7⟨y,ys,rfl,h1,h2⟩:=h
  rw[D7,D7,M5,M5]
  ~⟨some y,_,nil,nil,rfl,fun _ z=>z.elim,fun x=>⟨.inl,fun z=>z.elim id id⟩,⟨fun _ z=>z,y,rfl,h1⟩,Jg h2⟩
A9 vQ{K:aA}{H:Hp}{k:Nat}{ds:List D}{vs:List V}(h:cC K H ds vs):Rel K H (ds.map SD.fro++B9 k SD.no) (vs.map some++B9 k none) H:=by
 have g:aN H (out H nil):=fun x u e=>bC.mpr ⟨fun z=>z,e⟩
 ~⟨nil,Jg (g.Ou _ _ h),g⟩
A9 Raw.sE{P:Program}{w:World}{K:aA}{mg:Str→Option Value}{base:Heap}{x:Str}{st:Stmt}{N ps:List Str}{k:Nat}{g:GS}(R:Raw K mg x st)(S:bO N ps (aM st))
  (hb:∀(kV doc pm:Value)(an:Option Addr)(cdv ct:Value)(us:List Value),us.length=ps.length→bindArgs (G6 x x (fV st) (cQ st) (aM st) .none kV doc pm an cdv ct) ⟨us,[]⟩=pure (ps.zip us))
  (hbody:∀(f:Addr)(cdv:Value)(A:Around)(outer:List Env)(s:Shared)(H:Hp)(E:XK),kI k (A.deeper (envOfC x (aM st) s.heap.objs.size f cdv)) →
   ∃t,YB K (jL Ue P w K mg base N x (aM st) f cdv A outer s H E).RC (cQ st) t g):mG P w K mg base x (k+1) ps.length (nC K ps.length (lJ N.length ps.length g)):=by
 &R.cal S (fun vs H Q E h=>?_) hb (fun f cdv A outer s H vs Q E hr h=>?_)
 ·A7⟨ds,d,h1,h2,_⟩:=h
  rw[h2.length];~h1
 A7⟨ds,d,h1,h2,h3,kk⟩:=h
 A7⟨t,yb⟩:=hbody f cdv A outer s H E hr
 &⟨t,yb.ps,yb.ev H _ _ H (ds.map SD.fro++B9 (N.length-ps.length) SD.no) ?_ ?_⟩
 ·have hl:vs.length=ps.length:=by rw[h2.length];~h1
  have:=vQ (k:=N.length-ps.length) h2
  A8 start
  rw[hl]
  ~this
 ·A8 lJ at h3
  rw[if_pos h1]at h3
  cases q:g (ds.map SD.fro++B9 (N.length-ps.length) SD.no)with
  | ret d'=>
   rw[q]at h3
   cases h3
   &fun v H' A' s' o=>kk v H' (s'.trans (kJ _ _)) ⟨A',o,fun a qa=>?_⟩
   cases e:H a with
   | none=>rfl
   | some u=>~absurd qa (bC.mp (s' a u e)).1
  | next env'=>
   rw[q]at h3
   cases h3
   &fun σ' H' ⟨A',_,s'⟩=>kk .non H' (s'.trans (kJ _ _)) (.eX rfl (by A8 Rv;rfl))
  | brk env'=>rw[q]at h3;cases h3
  | cont env'=>rw[q]at h3;cases h3
  | bad=>rw[q]at h3;cases h3
  | rete d e=>rw[q]at h3;cases h3
end L2


namespace L2
open PySem PySem.Spec PyProof.Rows
section
variable{K:aA}{X:Cx}{e a b c:Expr}{es:List Expr}{t ta tb te:TE}{f g:FE}{tA:TA}{fs:FA}{pos:Pos}{i j:Nat}{π:FP}{st:Stmt}{gb:GS}{tc:TT}{fc:FT}
def nR(f:FE):FE:=fun e=>(f e).bind fun d=>match d with | .int i=>some (.int (-i)) | _=>none
A9 lK(ha:XR K X a ta f):XN K X (.UnaryOp .USub a pos) (yj (rU fun i=>.int (-i)) ta) (nR f):=WN ha
A9 mO{tg elt iter:Expr}{ifs:List Expr}{scope:Scope}{spos py:Pos}{y:Str}{wi:TI}{fi:FA}{fe:FE}(N:List Str)(fr:List Nat)(hcalm:X.calm=true)(B:dC X.env.scope scope X.N N 1 fr)(hN:X.N.Nodup)(hy:X.N[i]?=some y)(hx:Loc X.env.scope y)(hi:XI K X tg iter wi fi)
  (hg:∀cl fp s H C,PG (bR X scope N cl fp s H C) tg (cB 0)) (hc:∀cl fp s H C,zj K (bR X scope N cl fp s H C) ifs tc fc) (he:∀cl fp s H C,XN K (bR X scope N cl fp s H C) elt te fe)
  (hsw:swapsWith (.ListComp elt [⟨tg,iter,ifs,0⟩] scope pos) (some (.Name y py)) spos.line X.env=pure true:=by rfl)
  (hs:∀x,foldedSetIterable iter X.env x=pure x:=by intro _;rfl) (hf:X.fn y=true∨X.env.scope.names.lookup y=some .local:=by first | ~.inl rfl | ~.inr rfl | assumption) :
  YS K X (.Assign [.Name y py] (.ListComp elt [⟨tg,iter,ifs,0⟩] scope pos) spos) (nO (Il wi 1 fr (cB 0) tc te) (cB i)) (bD i (cV fi fr fc fe)):=
 ⟨BW N 1 fr hcalm B hN hy hx hi.pi hg (fun cl fp s H C=>(hc cl fp s H C).pts) (fun cl fp s H C=>(he cl fp s H C).pe) hsw hs hf,Vt (Ph hi.ev (hc [] [] X.s₀ X.H₀ 0).ev (he [] [] X.s₀ X.H₀ 0).ev)⟩
def EvJ(K:aA)(wi:TI)(fi:FA):Prop:=∀(σ:St)(H:Hp)(e:DE)(ds:List D)(R:It→Hp→Prop),pD K H e σ→fi e=some ds →
 (∀J H' P vs,aN H H'→UJ J P vs→(∀H2,P H2)→(∀Z,cC K Z ds vs)→R J H')→wi σ H R
structure XJ(K:aA)(X:Cx)(tg iter:Expr)(wi:TI)(fi:FA):Prop where
 pi:PI X tg iter wi
 ev:EvJ K wi fi
A9 vR{tg:Expr}{p:Pos}(hg:Gl X "range") (hm:X.mg "range" = none) (ha:XA K X [a] tA fs) (hs:starEach [a] X.env=[(false,eval a X.env)]:=by rfl):XJ K X tg (.Call (.Name "range" p) [a] [] pos) (Uq tA) (nQ fs):=⟨Cj hg hm ha.pa hs,fun σ H e ds R re q k=>by
 A8 nQ at q
 A7⟨es,q1,q2⟩:=aU q
 split at q2
 ·rename_i n
  split at q2
  ·rename_i hl
   cases q2
   have hl:=Vr hl
   &ha.ev σ H H e _ _ (Zn.self K H) re q1 fun vs H1 Z1 s1 t1 z1 rs=>?_
   A7⟨v,rfl,r⟩:=qC rs
   A8 Rv at r
   subst r
   ~⟨n,rfl,by omega,by omega,k _ H1 _ _ s1 Dc (fun _=>True.intro) fun Z=>Dn 0 n.toNat⟩
  ·cases q2
 ·cases q2⟩
def qG(i:Nat)(fi:FA)(g:GS):GS:=fun env=>match fi (rE env)with
 | some xs=>rW i g xs env
 | none=>.bad
A9 DP{wi:TI}{fi:FA}{tb:TS}(hi:EvJ K wi fi)(h:DS K tb gb):DS K (Lb wi (cB i) tb) (qG i fi gb):=fun B E σ H env r p=>by
 A8 qG at p
 split at p
 ·rename_i xs q
  &hi σ H (rE env) xs _ r.r q fun J H1 P vs s hJ hP rvs=>?_
  have hl:=(rvs H).length
  &Ff hJ (fun k σ2 H2=>∃rY,Rel K B rY σ2 H2∧Bq K B E (rW i gb (xs.drop k) rY)) ⟨env,r.same s,by simpa using p⟩ (fun k σ2 H2 _ _=>hP H2) ?_ ?_
  ·rintro k x σ2 H2 hx ⟨rY,r2,p2⟩
   have hk:k<xs.length:=by
    A7⟨h1,_⟩:=C4.mp hx
    omega
   rw[L7 hk]at p2
   A8 rW at p2
   split at p2
   ·rename_i hlen
    A7⟨A2,a2,b2⟩:=r2
    A7⟨x',hx',rx⟩:=(rvs (out H2 A2)).get (B6 hk)
    rw[hx]at hx'
    cases hx'
    have r3:Rel K B (rY.set i (.fro xs[k])) (σ2.set i (some x)) H2:=Fx a2 b2 hlen (aN.refl _) (aN.refl _) (Fw a2) rx
    &h B _ _ H2 _ r3 ?_
    split at p2
    ·rename_i env' q2;rw[q2];~fun σ' H' r'=>⟨env',r',p2⟩
    ·rename_i env' q2;rw[q2];~fun σ' H' r'=>⟨env',r',p2⟩
    ·rename_i env' q2;rw[q2];~p2
    ·rename_i n1 n2 n3
     cases q2:gb (rY.set i (.fro xs[k]))with
     | next e=>~absurd q2 (n1 e)
     | cont e=>~absurd q2 (n2 e)
     | brk e=>~absurd q2 (n3 e)
     | ret d=>rw[q2]at p2;~p2
     | bad=>rw[q2]at p2;~p2
     | rete d e=>rw[q2]at p2;~p2
   ·~p2.elim
  ·rintro σ2 H2 ⟨rY,r2,p2⟩
   rw[hl,T3]at p2
   ~p2 σ2 H2 r2
 ·~p.elim
A9 Fz{tg iter:Expr}{body:List Stmt}{wi:TI}{fi:FA}{tb:TS}(hp:PassesOwn (model X.prog X.w) X.A X.env X.xe)(Ss:X.calm=true)(hi:XJ K X tg iter wi fi)(hg:PG X tg (cB i))(hb:YB K X body tb gb)
  (hs:∀x,foldedSetIterable iter X.env x=pure x:=by intro _;rfl):YS K X (.For tg iter body [] pos) (Lb wi (cB i) tb) (qG i fi gb):=⟨Ld hp Ss hi.pi hg hb.ps hs,DP hi.ev hb.ev⟩
end
A9 Mq{K:aA}{st:Stmt}{f:Addr}{fd:FuncData}(F:Zb K "law" "law" st f fd) (hb:∀(kV doc pm:Value)(an:Option Addr)(cdv ct:Value)(u:Value),bindArgs (G6 "law" "law" (fV st) (cQ st) (aM st) .none kV doc pm an cdv ct) ⟨[u],[]⟩=pure [(("script" : Str),u)]):∀(s:Shared)(u:Value),BindsTo s fd ⟨[u],[]⟩ [("script", u)]:=by
 A7⟨oc,od,kV,doc,pm,an,cdv,ct,osl,rfl,lk,hcd⟩:=F.ex
 ~fun s u=>.of_eq (hb kV doc pm an cdv ct u)
A9 Vx{K:aA}{h:Heap}{mg:Str→Option Value}{x:Str}{i:Int}{t:Tok}(X:K.In h)(G:h.Ns mainGlobals mg)(a:G7 K mainGlobals x=some (some (.int i t))):Pj mg x i:=⟨t,G4 X G a⟩
A9 Jh{K:aA}{h:Heap}{mg:Str→Option Value}{x:Str}{ns:List Int}{p:Addr}{od:Option Addr}{its:Array Value}{n:Nat}{osl:Array (Option Value)}(X:K.In h)(G:h.Ns mainGlobals mg)(a:G7 K mainGlobals x=some (some (.ref p)))
  (l:K.lookup p=some ⟨.type "tuple", od,.seq its n,osl⟩) (v:Vals (ns.map V.int) its.toList) (hs:ns.length≤100):wU K mg x ns:=
 ⟨p,G4 X G a,fun H=>.inr ⟨_,its,n,l,rfl,rfl,by
  have h1:(ns.map V.int).length=its.toList.length:=v.length
  have h2:its.toList.length=its.size:=K8
  rw[B3]at h1
  ~jB A3,v⟩⟩
end L2


namespace L2
open PySem PySem.Spec PyProof.Rows
section
variable{K:aA}{X:Cx}{e a b c:Expr}{es:List Expr}{t ta tb te:TE}{f g:FE}{tA:TA}{fs:FA}{pos:Pos}{i j:Nat}{π:FP}{st:Stmt}
variable{lo hi:Option Expr}{tl th:TO}{fl fh:FO}{p2:Pos}
end
end L2


namespace L2
open PySem PySem.Spec PyProof.Rows
def Led(b:Bool)(t:SetTable):Prop:=t.led=b∧(t.plain=true→t.place.toList.Pairwise (·<·)∧t.dummies=#[])
end L2


namespace L2
open PySem PySem.Spec PyProof.Rows
section
variable{prog:Program}{w:World}{A:Around}{E:Value→Shared→Prop}{s:Shared}{b:Bool}
def aA7(prog:Program)(w:World)(b:Bool)(h:Heap)(a:Addr)(S:Int→Bool)(n:Nat):Prop:=
 ∃o es ep t,h.get? a=some o∧o.ExactSet∧o.data=.set es ep t∧ElemsOf (intKind prog w) es.toList∧(∀k,S k=true↔∃e∈es.toList,(intKind prog w).is k e.2=true)∧es.size<scanBound∧t.fits es.size=true∧es.size=n∧Led b t
end
section
variable{prog:Program}{w:World}{A:Around}{R:Result→Shared→Prop}{I:Addr}{fp wr:List Addr}{G:Array GenState→Array GenState→Prop}{n:Nat}{P:Nat→Value→Prop}{St:Nat→Shared→Prop}{b:Bool}
end
end L2


namespace L2
open PySem PySem.Spec PyProof.Rows
section
variable{prog:Program}{w:World}{A:Around}{E:Value→Shared→Prop}{s:Shared}
end
end L2


namespace L2
open PySem PySem.Spec PyProof.Rows
def SIt(h:Heap)(I:Addr)(f:Value)(i:Nat)(a:Addr)(n ep:Nat):Prop:=∃o,h.get? I=some o∧o.cls=.type "set_iterator" ∧ o.data=.fields #[f,.int (i:Int) 0,.ref a,.int (n:Int) 0,.int (ep:Int) 0]
def SAt(h:Heap)(a:Addr)(es:Array (Int×Value))(ep:Nat)(t:SetTable):Prop:=∃o,h.get? a=some o∧o.cls=.type "set" ∧ o.data=.set es ep t∧t.fits es.size=true
section
variable{prog:Program}{w:World}{A:Around}{E:Value→Shared→Prop}{s:Shared}{I a T:Addr}{f:Value}{i n ep:Nat}{es:Array (Int×Value)}{t:SetTable}
end
end L2


namespace L2
open PySem PySem.Spec PyProof.Rows
section
variable{prog:Program}{w:World}{A:Around}{E:Value→Shared→Prop}{s:Shared}{I a T:Addr}{f:Value}{i n ep:Nat}{es:Array (Int×Value)}{t:SetTable}
end
end L2


namespace L2
open PySem PySem.Spec PySem.Calls PyProof.Rows PyProof.V
section
variable{prog:Program}{w:World}{A:Around}{E:Value→Shared→Prop}{s:Shared}{I a T:Addr}{n:Nat}{S:Int→Bool}
end
end L2


namespace L2
open PySem PySem.Spec PySem.Calls PyProof.Rows PyProof.V
section
variable{X:Cx}{e:Expr}{t:TE}{x y:Str}{p p2 pos pos2:Pos}
end
end L2


namespace L2
open PySem PySem.Spec PySem.Calls PyProof.Rows PyProof.V
section
variable{prog:Program}{w:World}{A:Around}{E:Value→Shared→Prop}{s:Shared}{I l:Addr}
A9 NQ:∀{u v:List D},D.cT u=true→D.cT v=true→D.cT (u++v)=true
 | [],v,_,h=>h
 | x::u,v,h1,h2=>by
  A8 D.cT at h1
  rw[B4]at h1
  rw[M5]
  A8 D.cT
  rw[B4]
  ~⟨h1.1,NQ h1.2 h2⟩
end
section
variable{K:aA}{X:Cx}{e:Expr}{t:TE}{f:FE}{x y:Str}{p p2 pos pos2:Pos}
end
end L2


namespace L2
open PySem PySem.Spec PySem.Calls PyProof.Rows PyProof.V PySem.W Att
abbrev Small(k:Int):Prop:=Builtin.Int.intBits k≤1048576
A9 Vy{ns:List Int}(h:WData.layableAll [WData.list (ns.map WData.int)]=true):∀k∈ns,Small k:=fun k hk=>by
 have h1:(WData.list (ns.map WData.int)).layable=true:=by simpa[WData.layableAll]using h
 A7⟨c,_,w⟩:=layableW_iff.mp h1
 have c':WData.canLayAll (ns.map WData.int)=true:=by simpa[WData.canLay]using c
 have w':WData.weightAll (ns.map WData.int)≤2 ^ 20:=by simpa[WData.weight]using w
 have:=(items_part (M7.mpr ⟨k,hk,rfl⟩) c').2.2
 have e:(WData.int k).weight=Builtin.Int.intBits k:=by simp only[WData.weight,Builtin.Int.intBits]
 rw[e]at this
 ~F0 this w'
A9 Ji{l:OpenLaw}{n:Nat}{q:Program}{loose:List Str}{XP:(Str→Option Value)→Heap→Prop}{YP:World→Heap→Prop}{d:DefRec}(hn:l.most=some n)(hdf:d.params.defaults=[])
  (call:∀(w:World)(s₀ s₁:Shared)(mg mb:Str→Option Value)(fa:Addr)(o:Obj)(pm cd doc:Value)(a:Addr)(vs:List Value)(ns:List Int),Ground q loose [] XP w s₀ mg mb s₁.heap→YP w s₁.heap →
   s₁.heap.get? fa=some o→o.data=.func (docDef d.name d.params d.body d.scope pm cd doc)→s₁.heap.CodeRec cd d.name→mg d.name=some (.ref fa) →
   s₁.heap.get? a=some {cls:=.type "list", data:=.seq vs.toArray}→IntsAre vs ns→ns.length≤n→(∀k∈ns,Small k)→s₁.gens=#[] →
   codeAny (model l.prog w) callerA (.call (.ref fa) ⟨[.ref a],[]⟩) (fun r s'=>r=.ok (.ret (.bool true))∧OldK s₁.heap s'.heap∧s'.os=s₁.os∧AllBare s'.gens) s₁) :
  WalkO q loose XP YP l.row.toRowW d [] (fun f vs=>Y1 f vs):=by
 intro w s₀ s₁ mg mb G Y fa o pm cd doc dV kV ho hd hcd hD hmg hg args vals as hpre hlay hrd hwl hlo
 A7 rfl:dV=.none:=Dflts.none hD hdf
 A7 rfl:kV=.none:=Dflts.noKw hD
 A7⟨a,vs,ns,rfl,rfl,hobj,hints,hlen⟩:=Rx hn hpre hwl
 &enter_call (codeAny_mono (call w s₀ s₁ mg mb fa o pm cd doc a vs ns G Y ho (fd_plain hd) hcd hmg hobj hints hlen (Vy hlay) hg) fun r s' hq=>?_)
 A7⟨rfl,h2,h3,h4⟩:=hq
 ~⟨.inl ⟨.bool true,.bool true,[],rfl,fun _=>rfl,.bool true,Ry l _,fun _=>⟨List.Pairwise.nil,fun _ hm=>(nomatch hm)⟩⟩,h2,h3,h4⟩
A9 Su{l:Y2}{n k:Nat}{q:Program}{loose:List Str}{XP:(Str→Option Value)→Heap→Prop}{YP:World→Heap→Prop}{d:DefRec}{K:Params→aA}{CX:World→Ku}{sp:World→Sp}{x:Str}(hn:l.most=some n)(hn2:n≤sizeLine)(hdf:d.params.defaults=[])(hr:kI k callerA)
  (hY:∀(w:World)(h:Heap),YP w h→(K w.params).In h)
  (F:∀(w:World)(mg:Str→Option Value)(fa:Addr)(h:Heap),(K w.params).In h→h.Ns mainGlobals mg→mg d.name=some (.ref fa)→∃fd:FuncData,(∀(s:Shared)(u:Value),BindsTo s fd ⟨[u],[]⟩ [(x,u)])∧∀base:Heap,(K w.params).In base→base.Ns mainGlobals mg→uD l.prog w (K w.params) mg base (CX w) k fa fd [x] (sp w))
  (hsp:∀(w:World)(H:Hp)(a:Addr)(ns:List Int),ns.length≤n→(∀k∈ns,Small k)→Only H→mC (K w.params) H a (ns.map V.int)→sp w [.ref a] H (fun v _=>v=.bl true) fun _ _ _=>False)
  (yw:∀(w:World)(H:Hp)(s:Shared)(e:Value)(s':Shared),CX w [] H s (fun _ _ _=>False) e s'→False) :
  Y7 q loose XP YP l.row.toRowW d [] (fun f vs=>Y1 f vs):=by
 &Ji hn hdf fun w s₀ s₁ mg mb fa o pm cd doc a vs ns G Y ho hd hcd hmg hobj hints hlen hsm hg=>?_
 have KX:=hY w _ Y
 A7⟨fd,hb,hF⟩:=F w mg fa _ KX G.T.g hmg
 ~Vd KX G.T.g G.T.b G.T.builtins G.T.nolimit hg hobj hints (F0 hlen hn2) hr hF hb (fun H hO hS=>hsp w H a ns hlen hsm hO hS) fun H e s'=>yw w H s₁ e s'
def zq(K:aA):Sp:=fun vs H Q _=>∃(a:Addr)(ns:List Int),vs=[.ref a]∧mC K H a (ns.map V.int)∧ns.length≤63∧(∀k∈ns,Small k)∧∀H',Q (.bl true) H'
A9 Zb.okB{P:Program}{w:World}{K:aA}{mg:Str→Option Value}{base:Heap}{x:Str}{st:Stmt}{N:List Str}{k:Nat}{g:GS}{f:Addr}{fd:FuncData}(F:Zb K x x st f fd)(S:bO N ["script"] (aM st))
  (hbody:∀(cdv:Value)(A:Around)(outer:List Env)(s:Shared)(H:Hp)(E:XK),kI k (A.deeper (envOfC x (aM st) s.heap.objs.size f cdv))→∃t,YB K (jL Ue P w K mg base N x (aM st) f cdv A outer s H E).RC (cQ st) t g)
  (XD:∀ns:List Int,ns.length≤63→(∀k∈ns,Small k)→lJ N.length 1 g [.lst (ns.map D.int)]=some (.bl true)):uD P w K mg base Ue (k+1) f fd ["script"] (zq K):=by
 &F.ok S (fun vs H Q E h=>?_) (fun cdv A outer s H vs Q E hr h=>?_)
 ·A7⟨a,ns,rfl,_⟩:=h
  rfl
 A7⟨a,ns,rfl,hS,hl,hb,q⟩:=h
 A7⟨t,yb⟩:=hbody cdv A outer s H E hr
 have h3:=XD ns hl hb
 have rv:cC K H [.lst (ns.map D.int)] [.ref a]:=by
  A8 cC
  ~⟨_,_,rfl,by A8 Rv;~⟨a,_,rfl,hS,kW.mpr rfl⟩,by A8 cC;rfl⟩
 &⟨t,yb.ps,yb.ev H _ _ H ([D.lst (ns.map D.int)].map SD.fro++B9 (N.length-1) SD.no) (vQ rv) ?_⟩
 A8 lJ at h3
 rw[if_pos (show [D.lst (ns.map D.int)].length=1 from rfl)]at h3
 cases qq:g ([D.lst (ns.map D.int)].map SD.fro++B9 (N.length-1) SD.no)with
 | ret d'=>
  rw[qq]at h3
  cases h3
  &fun v H' A' s' o=>?_
  have:=Ow.rv _ _ _ o
  A8 Rv at this
  subst this
  ~q _
 | _=>
  rw[qq]at h3
  cases h3
section
variable{K:aA}{X:Cx}{e a b c:Expr}{es:List Expr}{t ta tb te:TE}{f g:FE}{pos:Pos}
def NT(i j:Int):Prop:=Builtin.Int.intBits i≤4000000∧Builtin.Int.intBits j≤4000000
instance (i j:Int):Decidable (NT i j):=by A8 NT;~inferInstance
variable{lo hi:Option Expr}{tl th:TO}{fl fh:FO}{p2:Pos}
end
end L2


namespace L2
open PySem PySem.Spec PySem.Calls PyProof.Rows PyProof.V
section
variable{K:aA}{X:Cx}
end
end L2


namespace L2
open PySem PySem.Spec PySem.Calls PyProof.Rows PyProof.V
section
variable{X:Cx}{pins:List (Addr×Obj)}{σ:St}{H:Hp}{s:Shared}{h':Heap}
end
section
variable{K:aA}{X:Cx}{e a b c:Expr}{es:List Expr}{t ta tb te:TE}{f g fe:FE}{tc:TT}{fc:FT}{pos p p2:Pos}{x:Str}
end
end L2


namespace L2
open PySem PySem.Spec PySem.Calls PyProof.Rows PyProof.V
section
variable{K:aA}{B H:Hp}{env:EN}{σ:St}{i:Nat}{v:V}{d:D}
end
section
variable{K:aA}{X:Cx}{st:Stmt}{sts:List Stmt}{t u tb:TS}{g g1 g2:GS}{e a b c:Expr}{es:List Expr}{te ta t0:TE}{f f0 fa fb:FE}{gk:FE}{tA:TA}{fs:FA}{tc:TT}{fc:FT}{pos:Pos}{i:Nat}{π:FP}
end
end L2


namespace L2
open PySem PySem.Spec PySem.Calls PyProof.Rows PyProof.V
section
variable{α β:Type}{R:α→Fp→β→Prop}
A9 gA.Vz:∀{ds:List α} {A:Fp} {ys:List β} {d:α} {y:β},gA R (ds++[d]) A (ys++[y])→∃A0 A1,gA R ds A0 ys∧R d A1 y∧Apart A0 A1∧Is A (gZ A0 A1)
  | [],A,ys,d,y,h=>by
    A7⟨y0,yt,A1,A2,h1,h2,h3,h4,h5,h6⟩:=h
    subst h6
    cases ys with
    | nil=>
      cases h1
      ~⟨nil,A1,⟨fun _ z=>z,rfl⟩,h4,fun _ z=>z.elim,fun x=>⟨fun q=>((h3 x).mp q).elim .inr fun z=>absurd z (h5 x),fun q=>q.elim False.elim fun z=>(h3 x).mpr (.inl z)⟩⟩
    | cons z zs=>
      injection h1 with _ h1
      cases zs<;>cases h1
  | d0::ds,A,ys,d,y,h=>by
    A7⟨y0,yt,A1,A2,h1,h2,h3,h4,h5⟩:=h
    have hl:=h5.len
    cases ys with
    | nil=>
      injection h1 with _ h1
      subst h1
      have hl:0=(ds++[d]).length:=hl
      rw[C6]at hl
      simp at hl
    | cons z zs=>
      injection h1 with e1 e2
      subst e1 e2
      A7⟨B0,B1,k1,k2,k3,k4⟩:=gA.Vz h5
      &⟨gZ A1 B0,B1,⟨z,zs,A1,B0,rfl,fun x q q'=>h2 x q ((k4 x).mpr (.inl q')),fun x=>Iff.rfl,h4,k1⟩,k2,fun x q q'=>?_,fun x=>?_⟩
      · rcases q with q | q
        · ~h2 x q ((k4 x).mpr (.inr q'))
        · ~k3 x q q'
      · rw[h3 x]
        constructor
        · rintro(q | q)
          · ~.inl (.inl q)
          · ~((k4 x).mp q).elim (fun z=>.inl (.inr z)) .inr
        · rintro((q | q) | q)
          · ~.inl q
          · ~.inr ((k4 x).mpr (.inl q))
          · ~.inr ((k4 x).mpr (.inr q))
end
section
variable{K:aA}{B H H':Hp}{env:EN}{σ:St}{i:Nat}{v:V}{d:D}
A9 Rel.give(h:Rel K B env σ H)(e:env[i]?=some (.own d)):∃v,σ[i]?=some (some v)∧Rel K B (env.set i .no++[.own d]) (σ++[some v]) H:=by
 A7⟨A,a,b⟩:=h
 A7⟨y,A1,C,h1,h2,h3,h4,k⟩:=a.focus e
 A7⟨v,rfl,o⟩:=h4
 have eA:A=gZ A1 C:=funext fun x=>propext (h3 x)
 subst eA
 have s:=k _ (fun _ _ _ _ q=>q) .no (some v) nil (fun _ z=>z.elim) (fun _ z=>z)
 rw[set_same h1]at s
 have s2:=gA.snoc (d:=SD.own d) (y:=some v) (A1:=A1) s ⟨v,rfl,o⟩ (fun x q q'=>q.elim False.elim (h2 x q'))
 have eA2:(gZ (gZ nil C) A1)=gZ A1 C:=funext fun x=>propext ⟨fun q=>q.elim (fun q=>q.elim False.elim .inr) .inl,fun q=>q.elim .inr fun q=>.inl (.inr q)⟩
 rw[eA2]at s2
 ~⟨v,h1,_,s2,b⟩
end
def Sv:GS:=fun _=>.bad
A9 zB{K:aA}{X:Cx}{st:Stmt}:YS K X st yM Sv:=⟨Uo,fun _ _ _ _ _ _ p=>p.elim⟩
section
variable{K:aA}{X:Cx}{st:Stmt}{sts:List Stmt}{t u tb:TS}{g g1 g2:GS}{e a b c o:Expr}{es:List Expr}{te ta t0 tv:TE}{f f0 fa fb:FE}{gk:FE}{tA:TA}{fs:FA}{tc:TT}{fc:FT}{pos apos:Pos}{i:Nat}{π:FP}
structure aBa(K:aA)(C:Addr)(nm:List Str):Prop where
 cl:vm K C
 no:∀f∈nm,RZ K C f
end
section
variable{K:aA}{B H:Hp}{env:EN}{σ:St}
end
section
variable{K:aA}{X:Cx}{st:Stmt}{sts:List Stmt}{t u tb:TS}{g g1 g2:GS}{e a b c o:Expr}{es:List Expr}{te ta t0 tv:TE}{f f0 fa fb:FE}{gk:FE}{tA:TA}{fs:FA}{tc:TT}{fc:FT}{pos apos:Pos}{i:Nat}{π:FP}
end
end L2


namespace L2
open PySem PySem.Spec PySem.Calls PyProof.Rows PyProof.V
section
variable{K:aA}{B H H':Hp}{env:EN}{σ:St}{i:Nat}{p:List Step}{d0 d:D}
end
abbrev GM:=EN→Option (D×EN)
def EvM(K:aA)(t:TE)(g:GM):Prop:=∀(B:Hp)(σ:St)(H:Hp)(env:EN)(d:D)(env':EN)(Q:VK),Rel K B env σ H→g env=some (d,env')→(∀v H',Rel K B (env'++[.own d]) (σ++[some v]) H'→Q v H')→t σ H Q
structure XM(K:aA)(X:Cx)(e:Expr)(t:TE)(g:GM):Prop where
 hk:X.K=K
 pe:PE X e t
 ev:EvM K t g
abbrev GB:=EN→Option (Bool×EN)
def nu(K:aA)(t:TT)(g:GB):Prop:=∀(B:Hp)(σ:St)(H:Hp)(env:EN)(b:Bool)(env':EN)(Q:Bool→Hp→Prop),Rel K B env σ H→g env=some (b,env')→(∀H',Rel K B env' σ H'→Q b H')→t σ H Q
structure XTM(K:aA)(X:Cx)(e:Expr)(t:TT)(g:GB):Prop where
 hk:X.K=K
 pt:PT X e t
 ev:nu K t g
structure XWM(K:aA)(X:Cx)(e:Expr)(t:TT)(g:GB):Prop where
 hk:X.K=K
 pw:PW X e t
 ev:nu K t g
abbrev FA2:=DE→DE→Option (List D)
def zr(K:aA)(t:TA)(fs:FA2):Prop:=∀(A1:Fp)(σ:St)(H:Hp)(eF eZ:DE)(ds:List D)(Q:List V→Hp→Prop),(∀x,A1 x→pR H x)→pD K H eF σ→pD K (out H A1) eZ σ→fs eF eZ=some ds →
 (∀vs H',aN H H'→cC K (out H' A1) ds vs→Q vs H')→t σ H Q
structure XAB(K:aA)(X:Cx)(es:List Expr)(t:TA)(fs:FA2):Prop where
 hk:X.K=K
 pa:PA X es t
 ev:zr K t fs
section
variable{K:aA}{X:Cx}{st:Stmt}{sts:List Stmt}{t u tb:TS}{g:GM}{g1 g2:GS}{e a b c o:Expr}{es rest:List Expr}{te ta t0 tv:TE}{f f0 fa fb:FE}{tA:TA}{fs:FA2}{tc td:TT}{fc:FT}{gb gc:GB}{pos apos:Pos}{i:Nat}{π:FP}
structure aBc(P:Program)(w:World)(K:aA)(mg:Str→Option Value)(base:Heap)(C:Addr)(m:Str)(k n:Nat)(df:Bool)(sp:Sp):Prop where
 ex:∃f fd ps,ps.length=n∧uD P w K mg base Ue k f fd ps sp∧Binds K fd ps []∧(df=true→Binds K fd ps [Value.none])∧Meth K C m f
structure aBd(P:Program)(w:World)(K:aA)(mg:Str→Option Value)(base:Heap)(x:Str)(C:Addr)(k n:Nat)(sp:Sp):Prop where
 ex:∃f fd ps,ps.length=n∧uD P w K mg base Ue k f fd ps sp∧Binds K fd ps []∧Mk K C f∧mg x=some (.ref C)
end
end L2


namespace L2
open PySem PySem.Spec PySem.Calls PyProof.Rows PyProof.V
def zu(K:aA)(dN:Bool)(dV:Value):Prop:=match dN with
 | false=>dV=.none
 | true=>∃T o n,dV=.ref T∧K.lookup T=some o∧o.data=.seq #[.none] n
structure oh(K:aA)(f:Addr)(m q:Str)(st:Stmt)(dN:Bool):Prop where
 ex:∃(oc:Value)(od:Option Addr)(dV kV doc pm:Value)(an:Option Addr)(cdv ct:Value)(osl:Array (Option Value)),
  K.lookup f=some ⟨oc,od,.func (G6 m q (fV st) (cQ st) (aM st) dV kV doc pm an cdv ct),osl⟩∧N7 K cdv q=true∧zu K dN dV
structure aBe(K:aA)(C:Addr)(m q:Str)(st:Stmt)(dN:Bool):Prop where
 ex:∃f,oh K f m q st dN∧Meth K C m f
structure aBf(K:aA)(mg:Str→Option Value)(x:Str)(C:Addr)(q:Str)(st:Stmt):Prop where
 ex:∃f,oh K f "__init__" q st false∧Mk K C f∧mg x=some (.ref C)
def HB(x q:Str)(st:Stmt)(ps:List Str):Prop:=∀(kV doc pm:Value)(an:Option Addr)(cdv ct:Value)(us:List Value),us.length=ps.length→bindArgs (G6 x q (fV st) (cQ st) (aM st) .none kV doc pm an cdv ct) ⟨us,[]⟩=pure (ps.zip us)
def HBD(x q:Str)(st:Stmt)(ps:List Str):Prop:=∀(T:Addr)(kV doc pm:Value)(an:Option Addr)(cdv ct:Value)(us:List Value),(us.length=ps.length→∃k,bindArgs (G6 x q (fV st) (cQ st) (aM st) (.ref T) kV doc pm an cdv ct) ⟨us,[]⟩=seqItems? (Value.ref T) >>= k∧k (some #[Value.none])=pure (ps.zip us)) ∧
 (us.length+1=ps.length→∃k,bindArgs (G6 x q (fV st) (cQ st) (aM st) (.ref T) kV doc pm an cdv ct) ⟨us,[]⟩=seqItems? (Value.ref T) >>= k∧k (some #[Value.none])=pure (ps.zip (us++[Value.none])))
def HBs(dN:Bool)(x q:Str)(st:Stmt)(ps:List Str):Prop:=match dN with
 | false=>HB x q st ps
 | true=>HBD x q st ps
section
variable{P:Program}{w:World}{K:aA}{mg:Str→Option Value}{base:Heap}
end
section
variable{K:aA}{X:Cx}{st:Stmt}{g g1 g2 gb:GS}{e a b c o:Expr}{es rest:List Expr}{te ta tb tc t0 tv:TE}{f f0 fa fb fc:FE}{tA:TA}{fs:FA}{pos apos:Pos}{i j:Nat}{π:FP}{tbs:TS}
def Mr(φ φ':D→D→Option D)(f g h:FE):FT:=fun e=>(f e).bind fun a=>(g e).bind fun b=>(φ a b).bind fun r=>match r with
  | .bl true=>(h e).bind fun c=>(φ' b c).bind fun r2=>match r2 with | .bl k=>some k | _=>none
  | .bl false=>some false
  | _=>none
A9 Jj{op op':CmpOp}{r r':R2}{φ φ':D→D→Option D}(ho:lQ X (compareOp op) r)(ho':lQ X (compareOp op') r')(hd:Dj K r φ)(hd':Dj K r' φ')(ha:XR K X a ta fa)(hb:XR K X b tb fb)(hc:XR K X c tc fc)(hm:lastMarks [op,op'] [b,c]=false:=by with_unfolding_all rfl):XT K X (.Compare a [op,op'] [b,c] pos) (Ie (Er r r' ta tb tc)) (Mr φ φ' fa fb fc):=⟨ha.hk,Uv ho ho' ha.pe hb.pe hc.pe hm,fun σ H e k Q re q kk=>by
 A7⟨d1,q1,q⟩:=aU q
 A7⟨d2,q2,q⟩:=aU q
 A7⟨d3,q3,q⟩:=aU q
 &ha.ev σ H H e d1 _ (Zn.self K H) re q1 fun x H1 Z1 s1 t1 z1 rx=>hb.ev σ H1 H1 e d2 _ (Zn.self K H1) (re.same s1) q2 fun y H2 Z2 s2 t2 z2 ry=>?_
 &hd x y H2 d1 d2 d3 _ (s2.rv _ _ (z1.sm.rv _ _ rx)) (z2.sm.rv _ _ ry) q3 fun z H3 s3 n=>?_
 have rz:=n.rv
 split at q
 ·A7⟨d4,q4,q⟩:=aU q
  A7⟨d5,q5,q⟩:=aU q
  A8 Rv at rz
  &⟨true,rz,?_⟩
  rw[if_pos rfl]
  &hc.ev σ H3 H3 e d4 _ (Zn.self K H3) (re.same (s1.trans (s2.trans s3))) q4 fun w H4 Z4 s4 t4 z4 Li=>?_
  &hd' y w H4 d2 d4 d5 _ ((s3.trans s4).rv _ _ (z2.sm.rv _ _ ry)) (z4.sm.rv _ _ Li) q5 fun v H5 s5 n5=>?_
  have r5:=n5.rv
  split at q
  ·cases q
   A8 Rv at r5
   ~⟨_,r5,kk H5 (s1.trans (s2.trans (s3.trans (s4.trans s5))))⟩
  ·cases q
 ·cases q
  A8 Rv at rz
  &⟨false,rz,?_⟩
  rw[if_neg A5]
  ~⟨_,rfl,kk H3 (s1.trans (s2.trans s3))⟩
 ·cases q⟩
end
end L2


namespace L2
open PySem PySem.Spec PySem.Calls PyProof.Rows PyProof.V
section
variable{K:aA}{B H:Hp}{env:EN}{σ:St}
end
abbrev FK:=DE→Option (List Key)
def EvK(K:aA)(t:TE)(fk:FK):Prop:=∀(σ:St)(H:Hp)(e:DE)(k:List Key)(Q:VK),pD K H e σ→fk e=some k→(∀b H',aN H H'→H' b=some (.tup (k.map kV))→Q (.ref b) H')→t σ H Q
structure XKt(K:aA)(X:Cx)(e:Expr)(t:TE)(fk:FK):Prop where
 hk:X.K=K
 pe:PE X e t
 ev:EvK K t fk
section
variable{K:aA}{X:Cx}{st:Stmt}{e a b c o:Expr}{es rest:List Expr}{te ta tb tc t0 tv:TE}{f fa fb:FE}{g:FK}{gd:FE}{tA:TA}{fs:FA}{pos apos:Pos}{i j:Nat}{π:FP}{tbs:TS}
def zy(K:aA)(t:TA)(fs:FA)(i:Nat):Prop:=∀(σ:St)(H:Hp)(e:DE)(ds:List D)(v:V)(Q:List V→Hp→Prop),pD K H e σ→fs e=some ds→σ[i]?=some (some v)→(∀vs H',aN H H'→Bm K H H' ds vs→Q (vs++[v]) H')→t σ H Q
structure XBm(K:aA)(X:Cx)(es:List Expr)(t:TA)(fs:FA)(i:Nat):Prop where
 hk:X.K=K
 pa:PA X es t
 ev:zy K t fs i
end
end L2


namespace L2
open PySem PySem.Spec PySem.Calls PyProof.Rows PyProof.V
section
variable{K:aA}{X:Cx}{st:Stmt}{e a b c o:Expr}{es rest:List Expr}{te ta tb tc t0 tv:TE}{f fa fb g:FE}{gk:FK}{gd:FE}{tA:TA}{fs:FA}{pos apos:Pos}{i j:Nat}{π:FP}{tbs:TS}{gm:GM}
end
end L2
namespace L2
open PySem PySem.Spec PySem.Calls PyProof.Rows PyProof.V
def D.Wa:D→Bool
 | .non=>true
 | _=>false
A9 Wb{K:aA}{H:Hp}{d:D}{v:V}(r:Rv K H d v):decide (v=.non)=d.Wa:=by
 cases d with
 | non=>A8 Rv at r;subst r;rfl
 | bl b=>A8 Rv at r;subst r;rfl
 | int b=>A8 Rv at r;subst r;rfl
 | str b=>A8 Rv at r;subst r;rfl
 | lst ds=>A8 Rv at r;A7⟨a,xs,rfl,_⟩:=r;rfl
 | tup ds=>A8 Rv at r;A7⟨a,xs,rfl,_⟩:=r;rfl
 | dk ks ds=>A8 Rv at r;A7⟨a,xs,rfl,_⟩:=r;rfl
 | dt ks ds=>A8 Rv at r;A7⟨a,xs,rfl,_⟩:=r;rfl
 | ins C nm ds=>A8 Rv at r;A7⟨a,dx,xs,rfl,_⟩:=r;rfl
def XF(neg:Bool)(a b:D):Option D:=match b with
 | .non=>some (.bl (if neg then !a.Wa else a.Wa))
 | _=>none
A9 XH{K:aA}:Dj K (fun x y H Q=>y=.non∧Q (.bl (decide (x=.non))) H) (XF false):=fun x y H a b d Q ra rb q k=>by
 A8 XF at q
 split at q
 ·cases q
  A8 Rv at rb
  &⟨rb,?_⟩
  rw[Wb ra]
  ~k _ H (aN.refl _) (.eX rfl (by A8 Rv;rfl))
 ·cases q
end L2


namespace L2
open PySem PySem.Spec PySem.Calls PyProof.Rows PyProof.V
section
variable{K:aA}{X:Cx}{e stx:Expr}{te ts:TE}{f g:FE}{pos p2:Pos}
end
end L2


namespace L2
open PySem PySem.Spec PySem.Calls PyProof.Rows PyProof.V
abbrev FE2:=DE→DE→Option D
def EvZ(K:aA)(t:TE)(f:FE2):Prop:=∀{N:Fp}(σ:St)(H Z:Hp)(eF eZ:DE)(d:D)(Q:VK),Zn K N Z H→pD K H eF σ→pD K Z eZ σ→f eF eZ=some d →
 (∀v H' Z',aN H H'→aN Z Z'→Zn K N Z' H'→Rv K Z' d v→Q v H')→t σ H Q
def aAa(K:aA)(t:TA)(f:FA2):Prop:=∀{N:Fp}(σ:St)(H Z:Hp)(eF eZ:DE)(ds:List D)(Q:List V→Hp→Prop),Zn K N Z H→pD K H eF σ→pD K Z eZ σ→f eF eZ=some ds →
 (∀vs H' Z',aN H H'→aN Z Z'→Zn K N Z' H'→cC K Z' ds vs→Q vs H')→t σ H Q
structure XZ(K:aA)(X:Cx)(e:Expr)(t:TE)(f:FE2):Prop where
 hk:X.K=K
 pe:PE X e t
 ev:EvZ K t f
structure XZA(K:aA)(X:Cx)(es:List Expr)(t:TA)(f:FA2):Prop where
 hk:X.K=K
 pa:PA X es t
 ev:aAa K t f
section
variable{K:aA}{X:Cx}{e a b:Expr}{es:List Expr}{te ta tb:TE}{f:FE}{g h:FE2}{tA:TA}{fs:FA2}{pos:Pos}{i:Nat}
end
end L2


namespace L2
open PySem PySem.Spec PySem.Calls PyProof.Rows PyProof.V
inductive Ar where
  | ch (i:Nat) | rd (f:FE) | nw (f:FE)
def wk:List Ar→List Nat
 | []=>[]
 | .ch i::as=>i::wk as
 | .rd _::as=>wk as
 | .nw _::as=>wk as
def wu:List Ar→DE→DE→Option (List D)
 | [],_,_=>some []
 | .ch _::as,eF,eZ=>wu as eF eZ
 | .rd f::as,eF,eZ=>(f eZ).bind fun d=>(wu as eF eZ).map fun r=>d::r
 | .nw f::as,eF,eZ=>(f eF).bind fun d=>(wu as eF eZ).map fun r=>d::r
def Pk(K:aA)(Z:Hp)(σ:St):List Ar→List D→List V→Prop
 | [],ds,vs=>ds=[]∧vs=[]
 | .ch i::as,ds,vs=>∃v r,vs=v::r∧σ[i]?=some (some v)∧Pk K Z σ as ds r
 | .rd _::as,ds,vs=>∃d dr v r,ds=d::dr∧vs=v::r∧Rv K Z d v∧Pk K Z σ as dr r
 | .nw _::as,ds,vs=>∃d dr v r,ds=d::dr∧vs=v::r∧Rv K Z d v∧Pk K Z σ as dr r
def VsA(σ:St):List Nat→List V→Prop
 | [],vs=>vs=[]
 | j::js,vs=>∃v r,vs=v::r∧σ[j]?=some (some v)∧VsA σ js r
section
variable{K:aA}{X:Cx}{e:Expr}{es:List Expr}{te:TE}{f:FE}{tA:TA}{as:List Ar}{pos:Pos}{i:Nat}
def aAb(K:aA)(t:TA)(as:List Ar):Prop:=∀(A1:Fp)(σ:St)(H:Hp)(eF eZ:DE)(ds:List D)(cv:List V)(Q:List V→Hp→Prop),(∀x,A1 x→pR H x)→pD K H eF σ→pD K (out H A1) eZ σ→VsA σ (wk as) cv→wu as eF eZ=some ds →
 (∀vs H',aN H H'→Pk K (out H' A1) σ as ds vs→Q vs H')→t σ H Q
structure XAC(K:aA)(X:Cx)(es:List Expr)(t:TA)(as:List Ar):Prop where
 hk:X.K=K
 pa:PA X es t
 ev:aAb K t as
end
section
variable{K:aA}{H H' Z Z' B:Hp}{σ:St}
end
section
variable{K:aA}{X:Cx}{e:Expr}{es:List Expr}{tA:TA}{as:List Ar}{pos pf:Pos}
end
section
variable{P:Program}{w:World}{K:aA}{mg:Str→Option Value}{base:Heap}
end
section
variable{K:aA}{X:Cx}{a b:Expr}{rest:List Expr}{ta tb:TE}{g h:GM}{f:FE}{pos:Pos}
end
end L2


namespace L2
open PySem PySem.Spec PySem.Calls PyProof.Rows PyProof.V
section
variable{prog:Program}{w:World}{A:Around}{R:Result→Shared→Prop}{I:Addr}{fp wr:List Addr}{n:Nat}{P:Nat→Value→Prop}{St:Nat→Heap→Prop}{kw:List (Str×Value)}
end
section
variable{prog:Program}{w:World}{A:Around}{E:Value→Shared→Prop}{s:Shared}
end
section
variable{K:aA}{X:Cx}{e e2:Expr}{te t2:TE}{f g:FE}{x:Str}{p pos kp:Pos}
end
end L2


namespace L2
open PySem PySem.Spec PySem.Calls PyProof.Rows PyProof.V
section
variable{X:Cx}
def xW:V→List V→Hp→VK→Prop:=fun x vs H Q=>∃l xs i y,x=.ref l∧vs=[.int i,y]∧H l=some (.lst xs)∧0≤i∧i.toNat≤xs.length∧xs.length<sizeLine∧Q .non (upd H l (.lst (xs.take i.toNat++y::xs.drop i.toNat)))
A9 Sw:yr X "list.insert" xW:=by
 intro pins s σ H x vs v us Q I rx rv h
 A7⟨l,xs,i,y,rfl,rfl,hH,h0,h1,hz,q⟩:=h
 cases rx
 A7⟨u1,u2,rfl,ru1,ru2⟩:=rv.two
 A7⟨t,rfl⟩:=ru1
 A7⟨z,its,n,r,hl,e⟩:=I.BL hH
 have hsl:sizeLine<2 ^ 62:=by decide
 &call_meets F.slot_list_insert ⟨_,e,rfl⟩ F.entry_list_insert (F.args_list_insert_3 _ _ _) (AutoSeq1.list_insert_list_int_val_1 l its.toArray n i t u2 (by rw[fitsIndex_both A3 A3];decide) (by rw[B7];omega)) ⟨e,?_⟩
 &⟨.non,_,I.TX (its':=its.take i.toNat++u2::its.drop i.toNat) hH e ?_ ((r.take _).append (.cons ru2 (r.drop _))) ?_,rfl,q⟩
 ·show (its.toArray.extract 0 (if i<0 then(i+(its.toArray.size:Int)).toNat else min i.toNat its.toArray.size)).push u2++its.toArray.extract (if i<0 then(i+(its.toArray.size:Int)).toNat else min i.toNat its.toArray.size)=_
  rw[if_neg A3,B7,show min i.toNat its.length=i.toNat by omega]
  apply Array.ext'
  simp
  ~P8 (by rw[M4];omega)
 ·rw[C6,G8,J9,M4]
  omega
end
section
variable{K:aA}{X:Cx}{a b e:Expr}{ta tb te:TE}{f g:FE}{i:Nat}{π:FP}{pos apos cpos:Pos}{m:Str}
def Ms(i:Nat)(π:FP)(g f:FE):GS:=fun env=>match env[i]?,π (rE env),g (rE env),f (rE env)with
 | some (.own d0),some p,some (.int k),some (.int y)=>(match qF p d0 with
  | some (.lst ds)=>(match intsOf ds with
   | some ns=>if 0≤k∧k.toNat≤ns.length∧ns.length<1000 then .next (env.set i (.own (oU p d0 (.lst ((ns.take k.toNat++y::ns.drop k.toNat).map D.int)))))else .bad
   | none=>.bad)
  | _=>.bad)
 | _,_,_,_=>.bad
A9 XQ(h:ni K ta i π)(hx:Dg K tb g)(he:Dg K te f):WR K (nM (Bl K "list" xW ta (bV tb (bV te iM)))) (Ms i π g f):=fun B E σ H env r p=>by
 A8 Ms at p
 split at p
 ·rename_i d0 pp k y q1 q2 q3 zp
  split at p
  ·rename_i ds q4
   split at p
   ·rename_i ns q5
    split at p
    ·rename_i hc
     A7⟨c0,c1,c2⟩:=hc
     A7⟨v0,a,xs,Bs,k1,k2,k3,k4,k5,k6⟩:=r.Vu q1 q4
     have ed:=qD q5
     subst ed
     have ex:=kW.mp (gB.rv _ _ _ k5)
     subst ex
     &h σ H (rE env) v0 pp _ _ r.r k1 q2 k2 fun H1 s1=>⟨.inl ⟨rfl,_,mC.of (s1 _ _ k3)⟩,?_⟩
     &hx σ H1 H1 (rE env) _ _ (Zn.self K H1) (r.r.same s1) q3 fun u H2 Z2 s2 t2 z2 ru=>he σ H2 H2 (rE env) _ _ (Zn.self K H2) (r.r.same (s1.trans s2)) zp fun w H3 Z3 s3 t3 z3 Li=>?_
     A8 Rv at ru Li
     subst ru Li
     have gr:=s1.trans (s2.trans s3)
     &⟨a,_,k,.int y,rfl,rfl,gr _ _ k3,c0,by rw[B3];~c1,Iu (by rw[B3];omega),p _ ?_⟩
     have e:(ns.map V.int).take k.toNat++V.int y::(ns.map V.int).drop k.toNat=(ns.take k.toNat++y::ns.drop k.toNat).map V.int:=by rw[G5,D7,List.map_take,List.map_drop]
     rw[e]
     ~k6 H3 _ _ nil gr (uF _ _ (gF _) (kW.mpr rfl)) fun b z=>z.elim
    ·~p.elim
   ·~p.elim
  ·~p.elim
 ·~p.elim
A9 XS(h:XP K X a ta i π)(hx:XR K X b tb g)(he:XR K X e te f)(hp:PE X a ta→PE X b tb→PE X e te→PS X (.Expr (.Call (.Attribute a m apos) [b,e] [] cpos) pos) (nM (Bl K "list" xW ta (bV tb (bV te iM))))):YS K X (.Expr (.Call (.Attribute a m apos) [b,e] [] cpos) pos) (nM (Bl K "list" xW ta (bV tb (bV te iM)))) (Ms i π g f):=⟨hp h.pe hx.pe he.pe,(XQ h.ev hx.ev he.ev).ds⟩
end
end L2


namespace L2
open PySem PySem.Spec PySem.Calls PyProof.Rows PyProof.V
def XX(ks:List Key)(vs:List V):List (V×V):=(ks.zip vs).map fun kv=>(kV kv.1,kv.2)
def aAc(K:aA)(t:List (TE×TE))(ks:List Key)(is:List Nat)(fs:FA):Prop:=∀(σ:St)(H:Hp)(e:DE)(ds:List D)(xs:List V)(Q:List (V×V)→Hp→Prop),pD K H e σ→fs e=some ds→xs.length=is.length →
 (∀(k i:Nat),is[k]?=some i→∃x,xs[k]?=some x∧σ[i]?=some (some x))→(∀vs H',aN H H'→Bm K H H' ds vs→Q (XX ks (xs++vs)) H')→Lk t σ H Q
structure XDm(K:aA)(X:Cx)(p:Pos)(keys:List (Option Expr))(vals:List Expr)(t:List (TE×TE))(ks:List Key)(is:List Nat)(fs:FA):Prop where
 hk:X.K=K
 pps:PPs X p keys vals t
 ev:aAc K t ks is fs
section
variable{K:aA}{X:Cx}{st:Stmt}{e:Expr}{vals:List Expr}{keys:List (Option Expr)}{te:TE}{f:FE}{fs:FA}{pos p p1:Pos}{i j:Nat}{t:List (TE×TE)}{ks:List Key}{is:List Nat}{x:Str}
end
section
variable{X:Cx}{K:aA}{x y:Str}{p p2 pos pos2:Pos}{a b:Expr}{t:TA}{fs:FA}
end
end L2


namespace L2
open PySem PySem.Spec PySem.Calls PyProof.Rows PyProof.V
section
variable{K:aA}{X:Cx}{a e:Expr}{ta te:TE}{f:FE}{π:FP}{i:Nat}{m:Str}{apos cpos pos:Pos}
def zF(i:Nat)(π:FP)(f:FE):GS:=fun env=>match env[i]?,π (rE env),f (rE env)with
 | some (.own d0),some p,some (.int k)=>(match qF p d0 with
  | some (.lst ds)=>(match intsOf ds with
   | some ns=>if 0≤k∧k.toNat<ns.length∧ns.length<1000 then .next (env.set i (.own (oU p d0 (.lst ((ns.eraseIdx k.toNat).map D.int)))))else .bad
   | none=>.bad)
  | _=>.bad)
 | _,_,_=>.bad
A9 zG{α β:Type}(φ:α→β):∀(l:List α)(k:Nat),(l.map φ).eraseIdx k=(l.eraseIdx k).map φ
 | [],k=>by simp
 | a::l,0=>by simp
 | a::l,k+1=>by simp[zG φ l k]
A9 DQ(h:ni K ta i π)(he:Dg K te f):WR K (nM (Bl K "list" Fb ta (bV te iM))) (zF i π f):=fun B E σ H env r p=>by
 A8 zF at p
 split at p
 ·rename_i d0 pp k q1 q2 q3
  split at p
  ·rename_i ds q4
   split at p
   ·rename_i ns q5
    split at p
    ·rename_i hc
     A7⟨c0,c1,c2⟩:=hc
     A7⟨v0,a,xs,Bs,k1,k2,k3,k4,k5,k6⟩:=r.Vu q1 q4
     have ed:=qD q5
     subst ed
     have ex:=kW.mp (gB.rv _ _ _ k5)
     subst ex
     &h σ H (rE env) v0 pp _ _ r.r k1 q2 k2 fun H1 s1=>⟨.inl ⟨rfl,_,mC.of (s1 _ _ k3)⟩,?_⟩
     &he σ H1 H1 (rE env) _ _ (Zn.self K H1) (r.r.same s1) q3 fun w H2 Z2 s2 t2 z2 Li=>?_
     A8 Rv at Li
     subst Li
     have s12:=s1.trans s2
     &⟨a,ns.map V.int,k,k.toNat,.int (ns.getD k.toNat 0),rfl,rfl,s12 _ _ k3,by omega,by omega,?_,?_,p _ ?_⟩
     ·~seqIndex_of c0 (by rw[B3];omega)
     ·rw[D5,F1,B6 c1]
      rfl
     ·rw[zG]
      ~k6 H2 _ _ nil s12 (uF _ _ (gF _) (kW.mpr rfl)) fun b z=>z.elim
    ·~p.elim
   ·~p.elim
  ·~p.elim
 ·~p.elim
A9 DR(h:XP K X a ta i π)(he:XR K X e te f)(hp:PE X a ta→PE X e te→PS X (.Expr (.Call (.Attribute a m apos) [e] [] cpos) pos) (nM (Bl K "list" Fb ta (bV te iM)))):YS K X (.Expr (.Call (.Attribute a m apos) [e] [] cpos) pos) (nM (Bl K "list" Fb ta (bV te iM))) (zF i π f):=⟨hp h.pe he.pe,(DQ h.ev he.ev).ds⟩
end
end L2


namespace L2
open PySem PySem.Spec PySem.Calls PyProof.Rows PyProof.V
section
variable{K:aA}{X:Cx}{a b e:Expr}{es:List Expr}{ta tb te t:TE}{f g:FE}{tA:TA}{fs:FA}{pos apos cpos p2:Pos}{m:Str}
def sJ(a b:D):Option D:=match a,b with
 | .str x,.str y=>if x.length+y.length≤100000 then some (.str (x++y))else none
 | _,_=>none
A9 DW:Dj K (fun x y H Q=>∃i j,x=.str i∧y=.str j∧i.length+j.length≤sizeLine∧Q (.str (i++j)) H) sJ:=fun x y H a b d Q ra rb q k=>by
 A8 sJ at q
 split at q
 ·split at q
  ·rename_i c
   cases q
   A8 Rv at ra rb
   ~⟨_,_,ra,rb,jB c,k _ H (aN.refl _) (.eX rfl (by A8 Rv;rfl))⟩
  ·cases q
 ·cases q
A9 uT(ha:XR K X a ta f)(hb:XR K X b tb g):XN K X (.BinOp a .Add b pos) (Ck (fun x y H Q=>∃i j,x=.str i∧y=.str j∧i.length+j.length≤sizeLine∧Q (.str (i++j)) H) ta tb) (f2 sJ f g):=Dk Lf DW ha hb
def Sx(x y:Str):Bool:=!(Builtin.Str.occurrences x y 0 x.length 1).isEmpty
def Wc(a b:D):Option D:=match a,b with
 | .str y,.str x=>some (.bl (Sx x y))
 | _,_=>none
def ou:R2:=fun x y H Q=>∃i j,x=.str i∧y=.str j∧Q (.bl (!(Builtin.Str.occurrences j i 0 j.length 1).isEmpty)) H
A9 YC:Dj K ou Wc:=fun x y H a b d Q ra rb q k=>by
 A8 Wc at q
 split at q
 ·cases q
  A8 Rv at ra rb
  ~⟨_,_,ra,rb,k _ H (aN.refl _) (.eX rfl (by A8 Rv Sx;rfl))⟩
 ·cases q
A9 YD:lQ X (compareOp .In) ou:=Rk
def Ga(a b:D):Option D:=match a,b with
 | .str x,.int i=>if x.length≤100000 then(Ik x.cps.toList i).map fun c=>.str ⟨#[c]⟩else none
 | _,_=>none
A9 Mt(ha:XR K X a ta f)(hb:XR K X b tb g)(hs:xR b):XN K X (.Subscript a b pos) (Ck SN ta tb) (f2 Ga f g):=
 ⟨ha.hk,Uy Uz ha.pe hb.pe hs,Ov (fun x y H a b d Q ra rb q k=>by
  A8 Ga at q
  split at q
  ·split at q
   ·rename_i c
    A7⟨u,q1,rfl⟩:=iZ q
    A8 Rv at ra rb
    ~⟨_,_,u,ra,rb,jB c,q1,k _ H (aN.refl _) (.eX rfl (by A8 Rv;rfl))⟩
   ·cases q
  ·cases q) ha.ev hb.ev⟩
def qH:List D→Option D
 | [.str x]=>if x.length≤100000 then some (.int x.length)else none
 | _=>none
A9 xX:uO K (fun xs H Q=>∃z,xs=[.str z]∧z.length≤sizeLine∧Q (.int z.length) H) qH:=fun vs H ds d Q rs q k=>by
 A8 qH at q
 split at q
 ·split at q
  ·rename_i c
   cases q
   A7⟨v,rfl,r⟩:=qC rs
   A8 Rv at r
   subst r
   ~⟨_,rfl,jB c,k _ H (aN.refl _) (.eX rfl (by A8 Rv;rfl))⟩
  ·cases q
 ·cases q
def Jk(i:Int):Str:=O6 (toString i)
def Pn:List D→Option D
 | [.int i]=>if i.natAbs.log2<1920 then some (.str (Jk i))else none
 | _=>none
A9 DX:uO K (fun xs H Q=>∃i,xs=[.int i]∧i.natAbs.log2<1920∧Q (.str (toString i)) H) Pn:=fun vs H ds d Q rs q k=>by
 A8 Pn at q
 split at q
 ·split at q
  ·rename_i c
   cases q
   A7⟨v,rfl,r⟩:=qC rs
   A8 Rv at r
   subst r
   ~⟨_,rfl,c,k _ H (aN.refl _) (.eX rfl (by A8 Rv Jk;rfl))⟩
  ·cases q
 ·cases q
noncomputable def Wd:List D→Option D
 | [.str x]=>if x.length≤640 then(S0 x).map .int else none
 | _=>none
def NZ:List V→Hp→VK→Prop:=fun xs H Q=>∃x n,xs=[.str x]∧S0 x=some n∧x.length≤640∧Q (.int n) H
A9 DY:iV X (.type "int") NZ:=by
 intro pins s σ H xs us Q I r h
 A7⟨x,n,rfl,hn,hl,q⟩:=h
 A7⟨u,rfl,t,rfl⟩:=vals1 r
 ~PySem.W.KIN.call_text hn hl ⟨.int n,H,I.tok _,⟨_,rfl⟩,q⟩
A9 EY:uO K NZ Wd:=fun vs H ds d Q rs q k=>by
 A8 Wd at q
 split at q
 ·split at q
  ·rename_i c
   A7⟨n,q1,rfl⟩:=iZ q
   A7⟨v,rfl,r⟩:=qC rs
   A8 Rv at r
   subst r
   ~⟨_,n,rfl,q1,c,k _ H (aN.refl _) (.eX rfl (by A8 Rv;rfl))⟩
  ·cases q
 ·cases q
structure kZ(mg:Str→Option Value)(x:Str)(i:Str):Prop where
 ex:∃t,mg x=some (.str i t)
A9 nT{K:aA}{h:Heap}{mg:Str→Option Value}{x:Str}{i:Str}{t:Tok}(X:K.In h)(G:h.Ns mainGlobals mg)(a:G7 K mainGlobals x=some (some (.str i t))):kZ mg x i:=⟨t,G4 X G a⟩
A9 pF{x:Str}{i:Str}(G:kZ X.mg x i)(hg:Gl X x)(hd:(x==("__debug__" : Str))=false:=by decide) (hk:X.K=K:=by rfl):XN K X (.Name x pos) (tC (.str i)) (fC (.str i)):=by
 A7⟨t,h⟩:=G.ex
 ~⟨hk,gP hg h ⟨t,rfl⟩ hd,Vl i⟩
def Mu:V→List V→Hp→VK→Prop:=fun x vs H Q=>∃z y,x=.str z∧vs=[.str y]∧Q (.bl (Txt.startswith z y)) H
A9 We:ji X "str.startswith" Mu:=by
 intro pins s σ H x vs v us Q I rx rv h
 A7⟨z,y,rfl,rfl,q⟩:=h
 A7⟨t,rfl⟩:=rx
 A7⟨u,rfl,ru⟩:=rv.one
 A7⟨t',rfl⟩:=ru
 ~PySem.SC.startswith ⟨.bl _,H,I,rfl,q⟩
def Gb(a b:D):Option D:=match a,b with
 | .str x,.str y=>some (.bl (Txt.startswith x y))
 | _,_=>none
A9 Wf(ha:XR K X a ta f)(hb:XR K X b tb g)(hp:PE X a ta→PE X b tb→PE X (.Call (.Attribute a m apos) [b] [] cpos) (Bl X.K "str" Mu ta (bV tb iM))):XN K X (.Call (.Attribute a m apos) [b] [] cpos) (Bl X.K "str" Mu ta (bV tb iM)) (f2 Gb f g):=
 ⟨ha.hk,hp ha.pe hb.pe,fun σ H e d Q re q k=>by
  A7⟨x,y,q1,q2,q3⟩:=mH q
  A8 Gb at q3
  split at q3
  ·cases q3
   &ha.ev σ H H e _ _ (Zn.self K H) re q1 fun v H1 Z1 s1 t1 z1 rx=>?_
   A8 Rv at rx
   subst rx
   &⟨rfl,hb.ev σ H1 H1 e _ _ (Zn.self K H1) (re.same s1) q2 fun v' H2 Z2 s2 t2 z2 ry=>?_⟩
   A8 Rv at ry
   subst ry
   ~⟨_,_,rfl,rfl,k _ H2 (s1.trans s2) (.eX rfl (by A8 Rv;rfl))⟩
  ·cases q3⟩
def OD(i j:Int):Prop:=0<j∧j.natAbs.log2<9000
instance:∀i j,Decidable (OD i j):=fun i j=>by A8 OD;~inferInstance
end
def Its(x:Str):It:=⟨fun i _=>i<x.cps.size,fun i H v H'=>H'=H∧∃c,x.cps[i]?=some c∧v=.str ⟨#[c]⟩,fun i _=>x.cps.size≤i⟩
section
variable{P:Program}{w:World}{K:aA}{tg:Expr}
A9 Jl{it:Addr}{ty:String}{x:Str}{t:Tok}(W:∀A:Around,A.handled=none→Walks P w A it [it] [it] x.cps.size (SignAt x) (fun i h=>h.IsStrIter it ty x t i))
  (hn:["enumerate", "zip", "dict_itemiterator", "dict_reverseitemiterator", "odict_iterator", "itertools.zip_longest", "itertools.pairwise"].contains ty=false)
  (hd:∀(A:Around)(s:Shared)(i:Nat)(Q:Option Value→Shared→Prop)(E:Value→Shared→Prop),A.handled=none→s.heap.IsStrIter it ty x t i→x.cps[i]?=none→(∀h',Heap.ExtBut it s.heap h'→Q none {s with heap:=h'})→wpAny (model P w) A (pyNext (.ref it)) Q E s)
  (hs:∀(A:Around)(i:Nat)(s:Shared)(Q:Value→Shared→Prop)(E:Value→Shared→Prop),s.heap.IsStrIter it ty x t i→Q (.ref it) s→wpAny (model P w) A (pyIter (.ref it)) Q E s):Turn P w K tg (Its x) [it] it (fun i h=>h.IsStrIter it ty x t i) where
 mem:=by simp
 obj:=fun i h st b hb=>by
  have e:b=it:=by simpa using hb
  subst e
  A7⟨o,e,c,d⟩:=st
  ~⟨o,e,fun v z=>by rw[d]at z;cases z⟩
 keep:=fun i h h' st k=>let ⟨o,ho,r⟩:=st;⟨o,k it (by simp) o ho,r⟩
 item:=by
  intro X hP hw hK hc i pins s σ H E I hf st hg
  subst hP hw hK
  A7⟨f0,f1,f2,f3,f4,f5⟩:=hf it (by simp)
  &(W X.A (I.ok.hd hc)).item i s _ _ hg st fun v h' tk hv st' kk=>?_
  A7⟨c,u,hx,rfl⟩:=hv
  have I1:Inv X pins σ H {s with heap:=h',toks:=tk}:=I.turned (fun b o hb e=>kk b o (by simpa using hb) e) f0 f1 f3 f4 f5
  A7⟨o,e,c',d⟩:=id st'
  ~⟨_,rfl,Oe (s:={s with heap:=h',toks:=tk}) e c' d hn ⟨.str ⟨#[c]⟩,H,I1,⟨u,rfl⟩,⟨rfl,c,hx,rfl⟩,st',fun b hb=>(hf b hb).1⟩⟩
 done:=by
  intro X hP hw hK hc i pins s σ H E I hf st hg
  subst hP hw hK
  A7⟨f0,f1,f2,f3,f4,f5⟩:=hf it (by simp)
  have hg:x.cps.size≤i:=hg
  ~hd X.A s i _ _ (I.ok.hd hc) st (by simp;omega) fun h' eb=>⟨rfl,I.turned (t':=s.toks) (fun b o hb e=>eb b o hb e) f0 f1 f3 f4 f5⟩
 self:=fun A i s Q E st h=>hs A i s Q E st h
end
section
variable{K:aA}{X:Cx}{tg e l:Expr}{t tl:TE}{f:FE}
def ph(tl:TE):TI:=fun σ H R=>tl σ H fun x H1=>∃z,x=.str z∧R (Its z) H1
A9 YF(hl:PE X l tl):PI X tg l (ph tl):=by
 intro pins s σ H R I h
 &eY (hl pins s σ H _ I h) fun v s1 ⟨x,H1,I1,r1,q1⟩=>?_
 A7⟨z,e,q⟩:=q1
 subst e
 A7⟨t,rfl⟩:=r1
 have fin:∀b,b∈[s1.heap.objs.size]→xG X pins H1 b:=fun b hb=>by
  have e:b=s1.heap.objs.size:=by simpa using hb
  subst e
  ~I1.Zj (D2 _) (I1.hok.fresh (D2 _))
 cases ha:z.cps.all (·<128)
 ·~wpAny_pyIter_wide ha ⟨s1.heap.objs.size,[s1.heap.objs.size],_,_,H1,rfl,I1.kept (t':=s1.toks) fun b o e=>Heap.get?_push_of_some _ e,Jl (t:=t) (fun A hA=>Walks.strWide hA _ z t) A5 (fun A s i Q E hh st hx hQ=>wpAny_pyNext_wide_end hh st hx hQ) (fun A i s Q E st h=>wpAny_pyIter_striter_wide st h),⟨_,Heap.get?_push_size _ rfl,rfl,rfl⟩,fin,q⟩
 ·~wpAny_pyIter_ascii ha ⟨s1.heap.objs.size,[s1.heap.objs.size],_,_,H1,rfl,I1.kept (t':=s1.toks) fun b o e=>Heap.get?_push_of_some _ e,Jl (t:=t) (fun A hA=>Walks.strAscii hA _ z t) A5 (fun A s i Q E hh st hx hQ=>wpAny_pyNext_ascii_end hh st hx hQ) (fun A i s Q E st h=>wpAny_pyIter_striter_ascii st h),⟨_,Heap.get?_push_size _ rfl,rfl,rfl⟩,fin,q⟩
def YG(x:Str):List V:=x.cps.toList.map fun c=>V.str ⟨#[c]⟩
def sgD(x:Str):List D:=x.cps.toList.map fun c=>D.str ⟨#[c]⟩
A9 FJ{x:Str}:UJ (Its x) (fun _=>True) (YG x):=fun i H _=>by
 have hl:(YG x).length=x.cps.size:=by A8 YG;rw[B3,K8]
 &⟨fun h=>show i<x.cps.size by omega,fun v H' ⟨e,c,hc,hv⟩=>⟨e,fun h=>?_⟩,fun h=>show x.cps.size≤i by omega⟩
 subst hv
 A8 YG
 rw[D5,U7,hc]
 rfl
A9 YH{H:Hp}(x:Str):cC K H (sgD x) (YG x):=by
 A8 sgD YG
 &cC.of (by simp) fun i d v h1 h2=>?_
 rw[D5]at h1 h2
 cases q:x.cps.toList[i]? with
 | none=>rw[q]at h1;cases h1
 | some j=>rw[q]at h1 h2;cases h1;cases h2;A8 Rv;rfl
def Mv(f:FE):FA:=fun e=>(f e).bind fun d=>match d with | .str z=>some (sgD z) | _=>none
A9 Wg(h:XR K X e t f):XI K X tg e (ph t) (Mv f):=⟨h.hk,YF h.pe,fun σ H Z e ds R z re q k=>by
 A8 Mv at q
 A7⟨d,q1,q2⟩:=aU q
 split at q2
 ·rename_i x
  cases q2
  &h.ev σ H Z e _ _ z re q1 fun v H1 Z1 s1 t1 z1 rv=>?_
  A8 Rv at rv
  subst rv
  ~⟨x,rfl,k _ H1 Z1 _ (YG x) s1 t1 z1 FJ (fun _ _=>trivial) (YH x)⟩
 ·cases q2⟩
end
end L2


namespace L2
open PySem PySem.Spec PySem.Calls PyProof.Rows PyProof.V
section
variable{K:aA}{X:Cx}{a b c e:Expr}{ta tb tc te t:TE}{f g fa fb fc:FE}{pos apos cpos:Pos}{m:Str}
def FN(φ φ':D→D→Option D)(f g h:FE):FE:=fun e=>(Mr φ φ' f g h e).map .bl
A9 Wh{op op':CmpOp}{r r':R2}{φ φ':D→D→Option D}(ho:lQ X (compareOp op) r)(ho':lQ X (compareOp op') r')(hd:Dj K r φ)(hd':Dj K r' φ')(ha:XR K X a ta fa)(hb:XR K X b tb fb)(hc:XR K X c tc fc)(hm:lastMarks [op,op'] [b,c]=false:=by with_unfolding_all rfl):XN K X (.Compare a [op,op'] [b,c] pos) (Er r r' ta tb tc) (FN φ φ' fa fb fc):=⟨ha.hk,Uu ho ho' ha.pe hb.pe hc.pe hm,fun σ H e k Q re q kk=>by
 A7⟨k,q0,rfl⟩:=iZ q
 clear q
 A7⟨d1,q1,q⟩:=aU q0
 clear q0
 A7⟨d2,q2,q⟩:=aU q
 A7⟨d3,q3,q⟩:=aU q
 &ha.ev σ H H e d1 _ (Zn.self K H) re q1 fun x H1 Z1 s1 t1 z1 rx=>hb.ev σ H1 H1 e d2 _ (Zn.self K H1) (re.same s1) q2 fun y H2 Z2 s2 t2 z2 ry=>?_
 &hd x y H2 d1 d2 d3 _ (s2.rv _ _ (z1.sm.rv _ _ rx)) (z2.sm.rv _ _ ry) q3 fun z H3 s3 n=>?_
 have rz:=n.rv
 split at q
 ·A7⟨d4,q4,q⟩:=aU q
  A7⟨d5,q5,q⟩:=aU q
  A8 Rv at rz
  &⟨true,rz,?_⟩
  rw[if_pos rfl]
  &hc.ev σ H3 H3 e d4 _ (Zn.self K H3) (re.same (s1.trans (s2.trans s3))) q4 fun w H4 Z4 s4 t4 z4 Li=>?_
  &hd' y w H4 d2 d4 d5 _ ((s3.trans s4).rv _ _ (z2.sm.rv _ _ ry)) (z4.sm.rv _ _ Li) q5 fun v H5 s5 n5=>?_
  have r5:=n5.rv
  split at q
  ·cases q
   ~kk v H5 (s1.trans (s2.trans (s3.trans (s4.trans s5)))) (.eX rfl r5)
  ·cases q
 ·cases q
  A8 Rv at rz
  &⟨false,rz,?_⟩
  rw[if_neg A5]
  ~kk _ H3 (s1.trans (s2.trans s3)) (.eX rfl (by A8 Rv;rfl))
 ·cases q⟩
A9 Jm:∀{xs:List Str} {us:List Value},Vals (xs.map V.str) us→∃l:List (Str×Tok),strValues l=us∧l.map (·.1)=xs
 | [],_,.nil=>⟨[],rfl,rfl⟩
 | x::xs,u::us,.cons r rs=>by
  A7⟨t,rfl⟩:=r
  A7⟨l,h1,h2⟩:=Jm rs
  ~⟨(x,t)::l,by rw[←h1];rfl,by rw[←h2];rfl⟩
def rJoin(K:aA):V→List V→Hp→VK→Prop:=fun x vs H Q=>∃z p xs,x=.str z∧vs=[.ref p]∧mC K H p (xs.map V.str)∧JoinOk z xs=true∧Q (.str (Txt.join z xs)) H
A9 Gd:ji X "str.join" (rJoin X.K):=by
 intro pins s σ H x vs v us Q I rx rv h
 A7⟨z,p,xs,rfl,rfl,hq,hok,q⟩:=h
 A7⟨t,rfl⟩:=rx
 A7⟨u,rfl,ru⟩:=rv.one
 cases ru
 A7⟨its,r,pl,hz⟩:=I.list hq
 A7⟨l,h1,h2⟩:=Jm r
 subst h1
 ~PySem.SC.join pl.isList h2 hok fun t' k=>⟨.str _,H,I.tok _,⟨_,rfl⟩,q⟩
def strsOf:List D→Option (List Str)
 | []=>some []
 | .str x::ds=>(strsOf ds).map fun r=>x::r
 | _::_=>none
A9 zH:∀xs:List Str,strsOf (xs.map D.str)=some xs
 | []=>rfl
 | x::xs=>by rw[D7];A8 strsOf;rw[zH xs];rfl
A9 Dq{H:Hp}:∀{ds:List D} {xs:List Str} {vs:List V},strsOf ds=some xs→cC K H ds vs→vs=xs.map V.str
 | [],xs,vs,h,r=>by A8 strsOf at h;cases h;A8 cC at r;~r
 | d::ds,xs,vs,h,r=>by
  A8 cC at r
  A7⟨y,ys,rfl,r1,r2⟩:=r
  A8 strsOf at h
  split at h
  ·rename_i hh;cases hh
  ·rename_i x ds' hh
   cases hh
   A7⟨l,h1,rfl⟩:=iZ h
   A8 Rv at r1
   rw[r1,Dq h1 r2]
   rfl
  ·cases h
def Dr(a b:D):Option D:=match a,b with
 | .str z,.lst ds=>(strsOf ds).bind fun xs=>if JoinOk z xs=true then some (.str (Txt.join z xs))else none
 | _,_=>none
A9 Ge(ha:XR K X a ta f)(hb:XR K X b tb g)(hp:PE X a ta→PE X b tb→PE X (.Call (.Attribute a m apos) [b] [] cpos) (Bl X.K "str" (rJoin X.K) ta (bV tb iM))):XN K X (.Call (.Attribute a m apos) [b] [] cpos) (Bl X.K "str" (rJoin X.K) ta (bV tb iM)) (f2 Dr f g):=
 ⟨ha.hk,hp ha.pe hb.pe,fun σ H e d Q re q k=>by
  have hk:=ha.hk
  A7⟨x,y,q1,q2,q3⟩:=mH q
  A8 Dr at q3
  split at q3
  ·A7⟨xs,q4,q5⟩:=aU q3
   split at q5
   ·rename_i hok
    cases q5
    &ha.ev σ H H e _ _ (Zn.self K H) re q1 fun v H1 Z1 s1 t1 z1 rx=>?_
    A8 Rv at rx
    subst rx
    &⟨rfl,hb.ev σ H1 H1 e _ _ (Zn.self K H1) (re.same s1) q2 fun v' H2 Z2 s2 t2 z2 ry=>?_⟩
    have ry:=z2.sm.rv _ _ ry
    A8 Rv at ry
    A7⟨p,vs,rfl,r2,r3⟩:=ry
    rw[Dq q4 r3]at r2
    subst hk
    ~⟨_,p,xs,rfl,rfl,r2,hok,k _ H2 (s1.trans s2) (.eX rfl (by A8 Rv;rfl))⟩
   ·cases q5
  ·cases q3⟩
A9 FQ(xs:List Str):∀tk:Nat,Vals (xs.map V.str) (strsFrom tk xs):=by
 induction xs with
 | nil=>intro tk;~.nil
 | cons x xs ih=>intro tk;~.cons ⟨tk,rfl⟩ (ih (tk+1))
def Mw:V→List V→Hp→VK→Prop:=fun x vs H Q=>∃z y,x=.str z∧vs=[.str y]∧(y.length==0)=false∧z.length≤90000∧∀l,H l=none→Q (.ref l) (upd H l (.lst ((Txt.split z y).map V.str)))
A9 gG:ji X "str.split" Mw:=by
 intro pins s σ H x vs v us Q I rx rv h
 A7⟨z,y,rfl,rfl,hy,hz,q⟩:=h
 A7⟨t,rfl⟩:=rx
 A7⟨u,rfl,ru⟩:=rv.one
 A7⟨t',rfl⟩:=ru
 have hle:=U8 z y
 have q:=q _ I.fresh
 cases h1:(decide (z.length<y.length)||decide (Builtin.Str.strKind z<Builtin.Str.strKind y))
 ·cases hf:(Builtin.Str.occurrences z y 0 z.length (z.length+1)).isEmpty
  ·have e:Txt.split z y=Builtin.Str.partsBetween z (Builtin.Str.occurrences z y 0 z.length (z.length+1)) y.length:=by
    A8 Txt.split
    rw[if_neg (ne_true_of_eq_false h1),if_neg (ne_true_of_eq_false hf)]
   rw[e]at q hle
   &call_meets F.slot_str_split (typeIs_str _ _ _) F.entry_str_split (F.args_str_split_2 _ _) (meets_str_split_sep z y t t' h1 hy hf (jB A3) (jB A3)) ?_
   ~⟨.ref _,_,I.Ru (FQ _ _) (by rw[B3];~jB A3),rfl,q⟩
  ·have e:Txt.split z y=[z]:=by
    A8 Txt.split
    rw[if_neg (ne_true_of_eq_false h1),if_pos hf]
   rw[e]at q
   &call_meets F.slot_str_split (typeIs_str _ _ _) F.entry_str_split (F.args_str_split_2 _ _) (meets_str_split_not_found z y t t' h1 hy hf) ?_
   ~⟨.ref _,_,I.Ru (t':=s.toks) (ys:=[.str z]) (its:=[.str z t]) (.cons ⟨t,rfl⟩ .nil) (jB (n:=1) A5),rfl,q⟩
 ·have e:Txt.split z y=[z]:=by
   A8 Txt.split
   rw[if_pos h1]
  rw[e]at q
  &call_meets F.slot_str_split (typeIs_str _ _ _) F.entry_str_split (F.args_str_split_2 _ _) (meets_str_split_cannot_occur z y t t' h1) ?_
  ~⟨.ref _,_,I.Ru (t':=s.toks) (ys:=[.str z]) (its:=[.str z t]) (.cons ⟨t,rfl⟩ .nil) (jB (n:=1) A5),rfl,q⟩
def dJ(a b:D):Option D:=match a,b with
 | .str z,.str y=>if(y.length==0)=false∧z.length≤90000 then some (.lst ((Txt.split z y).map D.str))else none
 | _,_=>none
A9 Jo{H:Hp}:∀xs:List Str,cC K H (xs.map D.str) (xs.map V.str)
 | []=>by A8 cC;rfl
 | x::xs=>by
  rw[D7,D7]
  A8 cC
  ~⟨_,_,rfl,by A8 Rv;rfl,Jo xs⟩
A9 Ds:∀xs:List Str,D.cT (xs.map D.str)=true
 | []=>by rw[J7,D.cT]
 | x::xs=>by rw[D7,D.cT,Ds xs,Y8];A8 D.eX;rfl
A9 gH(ha:XR K X a ta f)(hb:XR K X b tb g)(hp:PE X a ta→PE X b tb→PE X (.Call (.Attribute a m apos) [b] [] cpos) (Bl X.K "str" Mw ta (bV tb iM))):XN K X (.Call (.Attribute a m apos) [b] [] cpos) (Bl X.K "str" Mw ta (bV tb iM)) (f2 dJ f g):=
 ⟨ha.hk,hp ha.pe hb.pe,fun σ H e d Q re q k=>by
  A7⟨x,y,q1,q2,q3⟩:=mH q
  A8 dJ at q3
  split at q3
  ·split at q3
   ·rename_i hc
    cases q3
    &ha.ev σ H H e _ _ (Zn.self K H) re q1 fun v H1 Z1 s1 t1 z1 rx=>?_
    A8 Rv at rx
    subst rx
    &⟨rfl,hb.ev σ H1 H1 e _ _ (Zn.self K H1) (re.same s1) q2 fun v' H2 Z2 s2 t2 z2 ry=>?_⟩
    A8 Rv at ry
    subst ry
    &⟨_,_,rfl,rfl,hc.1,hc.2,fun l hl=>?_⟩
    ~k _ _ ((s1.trans s2).trans (cM hl _)) (uI (s1.trans s2) (.cT (Ds _) (Jo _)) hl)
   ·cases q3
  ·cases q3⟩
end
end L2


namespace L2
open PySem PySem.Spec PySem.Calls PyProof.Rows PyProof.V
section
variable{K:aA}{B H H':Hp}{env:EN}{σ:St}{i j:Nat}{v:V}{d:D}
A9 Rel.YJ(h:Rel K B (env++[.own d]) (σ++[some v]) H):∃H0,Rel K B env σ H0∧aN H0 H∧Bf K H0 H d v:=by
 A7⟨A,a,b⟩:=h
 A7⟨A0,A1,k1,⟨v',e,o⟩,k3,k4⟩:=a.Vz
 cases e
 have cl:=Ow.cells _ _ _ o
 have tk:vJ K H (out H A1):=fun p xs q=>by
  have np:(∃u,H p=some (.tup xs)∨H p=some (.tZ u (.tup xs)))→¬A1 p:=fun z z2=>by
   A7⟨u,z⟩:=z
   rcases z with z | z
   ·~(cl p z2).2.1 _ z
   ·~(cl p z2).2.2 _ _ z
  rcases q with (q | ⟨u,q⟩) | q
  ·~.inl (.inl (by rw[Fi (np ⟨default,.inl q⟩)];~q))
  ·~.inl (.inr ⟨u,by rw[Fi (np ⟨u,.inr q⟩)];~q⟩)
  ·~.inr q
 have g:aN (out H A) (out (out H A1) A0):=fun x u ex=>by
  A7⟨e1,e2⟩:=bC.mp ex
  ~bC.mpr ⟨fun z=>e1 ((k4 x).mpr (.inl z)),bC.mpr ⟨fun z=>e1 ((k4 x).mpr (.inr z)),e2⟩⟩
 &⟨out H A1,⟨A0,k1.mono fun s D z hb qq=>?_,b.trans g⟩,kJ _ _,A1,o,fun x z=>?_⟩
 ·have fr:∀x,D x→out H A1 x=H x:=fun x zx=>Fi fun z=>k3 x (hb x zx) z
  cases s with
  | no=>~qq
  | fro d=>A7⟨q1,v,q2,q3⟩:=qq;~⟨q1,v,q2,g.rv _ _ q3⟩
  | inn v d=>~⟨qq.1,Ow.frame tk _ _ _ qq.2 fr⟩
  | own d=>A7⟨v,q1,q2⟩:=qq;~⟨v,q1,Ow.frame tk _ _ _ q2 fr⟩
 ·A8 out
  rw[if_pos z]
def Dt(i j:Nat):GS:=fun env=>match env[i]?,env[j]? with
 | some (.own (.lst ds)),some (.own d)=>if i≠j∧ds.length<100000 then .next ((env.set j .no).set i (.own (.lst (ds++[d]))))else .bad
 | _,_=>.bad
A9 FW:WR K (nM (Bl K "list" oO (jF i) (bV (jF j) iM))) (Dt i j):=fun B E σ H env r p=>by
 A8 Dt at p
 split at p
 ·rename_i ds d q1 q2
  split at p
  ·rename_i hc
   A7⟨v,hv,r2⟩:=r.give q2
   A7⟨H0,r0,s0,N,o,fr⟩:=r2.YJ
   have q1':(env.set j .no)[i]?=some (.own (.lst ds)):=by rw[K5 (Ne.symm hc.1)];~q1
   A7⟨v0,a,xs,Bs,k1,k2,k3,k4,k5,k6⟩:=r0.Vu (p:=[]) q1' rfl
   A8 Hw at k2
   cases k2
   &⟨_,k1,.inl ⟨rfl,xs,mC.of (s0 _ _ k3)⟩,v,hv,?_⟩
   &⟨a,xs,v,rfl,rfl,s0 _ _ k3,Iu (by rw[(gB.rv _ _ _ k5).length];omega),p _ ?_⟩
   ~k6 H (ds++[d]) (xs++[v]) (gZ Bs N) s0 (fW.mpr ((fW.mp (k5.same s0)).snoc o (Mp (H1:=H0) k5 fr))) fun b z=>z.imp id (fr b)
  ·~p.elim
 ·~p.elim
A9 FZ{X:Cx}{a e:Expr}{m:Str}{pos apos cpos:Pos}(h:PE X a (jF i))(he:PE X e (jF j))(hp:PE X a (jF i)→PE X e (jF j)→PS X (.Expr (.Call (.Attribute a m apos) [e] [] cpos) pos) (nM (Bl K "list" oO (jF i) (bV (jF j) iM)))):YS K X (.Expr (.Call (.Attribute a m apos) [e] [] cpos) pos) (nM (Bl K "list" oO (jF i) (bV (jF j) iM))) (Dt i j):=⟨hp h he,FW.ds⟩
end
end L2


namespace L2
open PySem PySem.Spec PySem.Calls PyProof.Rows PyProof.V
abbrev vU(h:Heap)(l:List Env):Heap:=O2 h (frs l)
structure Fl(l:List Env)(s1:Shared)(e:Addr)(cls:Value)(s':Shared):Prop where
 wV:∃a0,Heap.FlyingW (vU s1.heap l) l e cls a0 s'.heap
 up:s1.heap.UpToSlots s'.heap
 os:s'.os=s1.os
 bare:AllBare s'.gens
def vV(P:Program)(w:World):Ku:=fun outer H s E ev s'=>∃e cls H' s1,ev=.ref e∧s1.os=s.os∧AllBare s1.gens∧Un (frs outer) [] H H' s.heap s1.heap∧rQ P w H' s1.heap∧Fl outer s1 e cls s'∧E cls none H'
A9 nU{h:Heap}{l:List Env}{b:Addr}{o:Obj}(e:h.get? b=some o)(hb:b∉frs l):(vU h l).get? b=some o:=R6 _ e hb
A9 vW{h:Heap}{l:List Env}{b:Addr}(hb:b∈frs l):(vU h l).get? b=none:=Q8 _ hb
A9 xY{h:Heap}{l:List Env}{b:Addr}{o:Obj}(e:(vU h l).get? b=some o):h.get? b=some o∧b∉frs l:=by
 &⟨S1 _ e,fun hb=>?_⟩
 rw[vW hb]at e
 cases e
A9 Du{h:Heap}{l:List Env}{b:Addr}(e:(vU h l).get? b=none)(hb:b∉frs l):h.get? b=none:=by
 cases q:h.get? b with
 | none=>rfl
 | some o=>rw[nU q hb]at e;cases e
A9 uU{h base:Heap}:∀{l:List Env},h.FunFrames base l→∀b∈frs l,∃o,h.get? b=some o∧∀vs,o.data≠.fields vs
 | [],_,b,hb=>by cases hb
 | env::l,⟨_,⟨L,o,hf,_,ho,hd⟩,r⟩,b,hb=>by
  A8 frs at hb
  rw[K1,hf]at hb
  rcases G2.mp hb with z | z
  ·rw[z];~⟨o,ho,hd⟩
  ·~uU r b z
A9 zJ{h base base':Heap}:∀{l:List Env},h.FunFrames base l→(∀b∈frs l,base'.get? b=none)→h.FunFrames base' l
 | [],_,_=>trivial
 | env::l,⟨h1,⟨L,o,hf,_,ho,hd⟩,r⟩,k=>by
  have e:frs (env::l)=L::frs l:=by A8 frs;rw[K1,hf]
  ~⟨h1,⟨L,o,hf,k L (by rw[e];~D1),ho,hd⟩,zJ r fun b hb=>k b (by rw[e];~C5 _ hb)⟩
section
variable{P:Program}{w:World}{l:List Env}{s1 s':Shared}{e:Addr}{cls:Value}{H:Hp}{base:Heap}
A9 Fl.keep(f:Fl l s1 e cls s'){b:Addr}{o:Obj}(q:s1.heap.get? b=some o)(hb:b∉frs l):s'.heap.get? b=some o:=by
 A7⟨a0,x⟩:=f.wV
 ~x.1 b o (nU q hb)
A9 Fl.slot(f:Fl l s1 e cls s')(ff:s1.heap.FunFrames base l){b:Addr}{o:Obj}(q:s1.heap.get? b=some o)(hb:b∈frs l):∃sl,s'.heap.get? b=some {o with slots:=sl}:=by
 A7⟨o',q',hd⟩:=uU ff b hb
 rw[q]at q'
 cases q'
 ~f.up b o q hd
A9 Fl.un(f:Fl l s1 e cls s')(ff:s1.heap.FunFrames base l):Un (frs l) [] H H s1.heap s'.heap where
 keep:=fun b o q _ hb _=>f.keep q hb
 slot:=fun b o q _ hb _=>f.slot ff q hb
 free:=fun _ _ _ n _=>n
 there:=fun b o q _=>by
  by_cases hb:b∈frs l
  ·A7⟨sl,z⟩:=f.slot ff q hb
   ~⟨_,z⟩
  ·~⟨o,f.keep q hb⟩
 tups:=fun _ _ q=>q
 xF:=fun _ _ _ q=>q
 yJ:=fun b ps q=>⟨#[],by rw[q];simp⟩
A9 Fl.hok(f:Fl l s1 e cls s')(hok:rQ P w H s1.heap)(hf:∀b∈frs l,H b=none):rQ P w H s'.heap:=fun b u eb=>
 (hok b u eb).stay (fun c v hc q=>f.keep q fun z=>by
  have hz:=hf c z
  rcases hc with hc | hc
  ·rw[hc,eb]at hz;cases hz
  ·rw[hc]at hz;cases hz) (fun _ q=>q) fun _ _ q=>q
end
section
variable{X:Cx}{pins:List (Addr×Obj)}{σ:St}{H:Hp}{s s1 s':Shared}{e:Addr}{cls ev:Value}{E:XK}
A9 Inv.landed(I:Inv X pins σ H s1)(f:Fl X.stack s1 e cls s'):Inv X pins σ H s':=
 I.call' (ch:=[]) f.os (f.un I.stack) (f.hok I.hok I.Eo) f.bare fun b z=>absurd z (by simp)
A9 Inv.ghost(I:Inv X pins σ H s)(c:vV X.prog X.w X.stack H s E ev s'):∃e cls H' s1,ev=.ref e∧Inv X pins σ H' s1∧Fl X.stack s1 e cls s'∧E cls none H':=by
 A7⟨e,cls,H',s1,h1,h2,h3,h4,h5,h6,h7⟩:=c
 ~⟨e,cls,H',s1,h1,I.call' (ch:=[]) h2 h4 h5 h3 fun b z=>absurd z (by simp),h6,h7⟩
end
section
variable{P:Program}{w:World}{env:Env}{outer:List Env}{L e:Addr}{cls a0:Value}{s0 s1:Shared}{H0 H:Hp}{E:XK}{base h':Heap}{s2:Shared}
A9 Gf(hf:env.frame=some L)(ff:s1.heap.FunFrames base (env::outer))(hL0:s0.heap.get? L=none)(hLH:H L=none)(hLo:L∉frs outer)(un:Un (frs outer) [] H0 H s0.heap s1.heap)(hok:rQ P w H s1.heap)(hos:s1.os=s0.os)(hg:AllBare s1.gens)
  (fl:Heap.FlyingW (vU s1.heap (env::outer)) outer e cls a0 h') (up:s1.heap.UpToSlots h') (os2:s2.os=s1.os) (pq:AllBare s2.gens) (hs2:s2.heap=h') (q:E cls none H):vV P w outer H0 s0 E (.ref e) s2:=by
 have ef:frs (env::outer)=L::frs outer:=by A8 frs;rw[K1,hf]
 A7⟨oL,hoL,hdL⟩:=uU ff L (by rw[ef];~D1)
 A7⟨sl,hL'⟩:=up L oL hoL hdL
 A7⟨k1,k2,k3,oe,vs,T,oT,ts,he,hc,hd,h1,hnT,hTe,hT,hdT,h3⟩:=fl
 have vd:∀{b:Addr} {o:Obj} {vs:Array Value},h'.get? b=some o→o.data=.fields vs→b≠L∧b∉frs outer:=fun{b o vs} q1 q2=>by
  &⟨fun z=>?_,fun z=>?_⟩
  ·rw[z,hL']at q1
   cases q1
   ~hdL vs q2
  ·A7⟨o',z1,z2⟩:=uU k3 b z
   rw[q1]at z1
   cases z1
   ~z2 vs q2
 have hself:(s1.heap.update L (fun o=>{o with slots:=sl})).get? L=some {oL with slots:=sl}:=Heap.get?_update_self _ hoL ((PySem.W.kts_isFreed oL sl).trans (Heap.get?_some_iff.mp hoL).2)
 have hoth:∀b,b≠L→(s1.heap.update L (fun o=>{o with slots:=sl})).get? b=s1.heap.get? b:=fun b hb=>Heap.get?_update_other _ _ (Ne.symm hb)
 have fresh:∀{b:Addr} {o:Obj} {vs:Array Value},h'.get? b=some o→o.data=.fields vs→(vU s1.heap (env::outer)).get? b=none→(vU (s1.heap.update L (fun o=>{o with slots:=sl})) outer).get? b=none:=fun{b o vs} q1 q2 q3=>by
  A7⟨n1,n2⟩:=vd q1 q2
  have:=Du q3 (by rw[ef];~fun z=>(G2.mp z).elim n1 n2)
  cases q:(vU (s1.heap.update L (fun o=>{o with slots:=sl})) outer).get? b with
  | none=>rfl
  | some o'=>
   have:=(xY q).1
   rw[hoth b n1]at this
   simp_all
 &⟨e,cls,H,{s1 with heap:=s1.heap.update L (fun o=>{o with slots:=sl})},rfl,hos,hg,?_,?_,⟨⟨a0,?_⟩,?_,os2,pq⟩,q⟩
 ·have old:∀{b:Addr} {o:Obj},s0.heap.get? b=some o→b≠L:=fun{b o} q z=>by rw[z,hL0]at q;cases q
  &⟨fun b o q n hb hx=>?_,fun b o q n hb hx=>?_,un.free,fun b o q hx=>?_,un.tups,un.xF,un.yJ⟩
  ·show (s1.heap.update L _).get? b=_
   rw[hoth b (old q)];~un.keep b o q n hb hx
  ·show ∃sl',(s1.heap.update L _).get? b=_
   rw[hoth b (old q)];~un.slot b o q n hb hx
  ·show ∃o',(s1.heap.update L _).get? b=_
   rw[hoth b (old q)];~un.there b o q hx
 ·intro b u eb
  &(hok b u eb).stay (fun c v hc q=>?_) (fun _ q=>q) fun _ _ q=>q
  have:c≠L:=fun z=>by
   rcases hc with hc | hc
   ·rw[←hc,z,hLH]at eb;cases eb
   ·rw[z,hLH]at hc;cases hc
  show (s1.heap.update L _).get? c=_
  rw[hoth c this];~q
 ·rw[hs2]
  &⟨fun b o q=>?_,fresh he hd k2,zJ k3 fun b hb=>vW hb,oe,vs,T,oT,ts,he,hc,hd,h1,fresh hT hdT hnT,hTe,hT,hdT,h3⟩
  A7⟨q1,q2⟩:=xY q
  by_cases z:b=L
  ·subst z
   rw[hself]at q1
   cases q1
   ~hL'
  ·rw[hoth b z]at q1
   ~k1 b o (nU q1 (by rw[ef];~fun y=>(G2.mp y).elim z q2))
 ·rw[hs2]
  intro b o q hn
  by_cases z:b=L
  ·subst z
   have q:(s1.heap.update b _).get? b=some o:=q
   rw[hself]at q
   cases q
   ~⟨sl,hL'⟩
  ·have q:(s1.heap.update L _).get? b=some o:=q
   rw[hoth b z]at q
   ~up b o q hn
end
section
variable{P:Program}{w:World}{K:aA}{mg:Str→Option Value}{base:Heap}{N:List Str}{qual:Str}{scope:Scope}{f:Addr}{cd:Value}{A:Around}{outer:List Env}{s0:Shared}{H0:Hp}{E:XK}
A9 zK{pins:List (Addr×Obj)}{σ:St}{H:Hp}{s:Shared}{CX:Ku}(I:Inv (jL CX P w K mg base N qual scope f cd A outer s0 H0 E) pins σ H s) :
  s0.heap.get? s0.heap.objs.size=none∧H s0.heap.objs.size=none∧s0.heap.objs.size∉frs outer∧Un (frs outer) [] H0 H s0.heap s.heap∧rQ P w H s.heap∧s.os=s0.os∧AllBare s.gens∧s.heap.FunFrames base (envOfC qual scope s0.heap.objs.size f cd::outer):=by
 &⟨Heap.get?_none_of_le (D2 _),I.free,fun z=>?_,I.base,I.hok,I.os,I.bare,I.stack⟩
 A7⟨_,o,ho,_⟩:=I.ok.rR.mem z
 have:=Heap.lt_size ho
 ~absurd this (G3 _)
A9 GC:Passes (vV P w) (jL (vV P w) P w K mg base N qual scope f cd A outer s0 H0 E) E:=fun pins σ H s ev s' I c=>by
 A7⟨e,cls,H',s1,rfl,I1,fl,q⟩:=I.ghost c
 A7⟨a1,a2,a3,a4,a5,a6,a7,a8⟩:=zK I1
 A7⟨a0,wV⟩:=fl.wV
 &wpAny_leaves_onW I1.ok.frames rfl wV fun h' fl' up=>?_
 ~Gf rfl a8 a1 a2 a3 a4 a5 a6 a7 fl' (fl.up.trans up) fl.os fl.bare rfl q
end
end L2


namespace L2
open PySem PySem.Spec PySem.Calls PyProof.Rows PyProof.V
abbrev GZ:=EN→Option Nat
def DZ(K:aA)(κ:Nat→Addr)(E:XK)(t:TS)(z:GZ):Prop:=∀(B:Hp)(D:Ends)(σ:St)(H:Hp)(env:EN)(i:Nat),Rel K B env σ H→z env=some i→(∀H',aN B H'→E (.ref (κ i)) none H')→t D σ H
structure YZ(K:aA)(κ:Nat→Addr)(X:Cx)(E:XK)(st:Stmt)(t:TS)(z:GZ):Prop where
 ps:PS X st t
 ev:DZ K κ E t z
structure Wi(K:aA)(κ:Nat→Addr)(X:Cx)(E:XK)(st:List Stmt)(t:TS)(z:GZ):Prop where
 ps:Ce X st t
 ev:DZ K κ E t z
def Ui(K:aA)(κ:Nat→Addr)(n:Nat)(r:List D→Option Nat):Sp:=fun vs H _ E=>∃ds i,ds.length=n∧cC K H ds vs∧r ds=some i∧∀H',aN H H'→E (.ref (κ i)) none H'
structure Bu(P:Program)(w:World)(K:aA)(mg:Str→Option Value)(base:Heap)(x:Str)(k:Nat)(n:Nat)(sp:Sp):Prop where
 ex:∃f fd ps,ps.length=n∧uD P w K mg base (vV P w) k f fd ps sp∧Binds K fd ps []∧K6 K (.ref f)=true∧mg x=some (.ref f)
structure aAG(P:Program)(w:World)(K:aA)(mg:Str→Option Value)(base:Heap)(C:Addr)(m:Str)(k n:Nat)(df:Bool)(sp:Sp):Prop where
 ex:∃f fd ps,ps.length=n∧uD P w K mg base (vV P w) k f fd ps sp∧Binds K fd ps []∧(df=true→Binds K fd ps [Value.none])∧Meth K C m f
A9 Rel.sub{K:aA}{B H:Hp}{env:EN}{σ:St}(r:Rel K B env σ H):aN B H:=let ⟨_,_,b⟩:=r;b.trans (kJ _ _)
section
variable{K:aA}{κ:Nat→Addr}{X:Cx}{E:XK}{st:Stmt}{sts rest:List Stmt}{t u:TS}{z z1 z2:GZ}{g:GS}{c e o:Expr}{es:List Expr}{te ta:TE}{tA:TA}{tc:TT}{fc:FT}{f:FE}{fs:FA}{pos apos:Pos}{m:Str}
def qd(t u:TS):TS:=fun D σ H=>t D σ H∨u D σ H
A9 YK(h1:Ce X sts t)(h2:Ce X sts u):Ce X sts (qd t u):=fun pins s σ H D I h=>h.elim (h1 pins s σ H D I) (h2 pins s σ H D I)
def qe:GZ:=fun _=>none
A9 Gg:Wi K κ X E sts yM qe:=⟨Ci,fun B D σ H env i r q k=>by cases q⟩
def Ze(z1 z2:GZ):GZ:=fun env=>match z1 env with
 | some i=>some i
 | none=>z2 env
A9 Gh(h1:Wi K κ X E sts t z1)(h2:Wi K κ X E sts u z2):Wi K κ X E sts (qd t u) (Ze z1 z2):=⟨YK h1.ps h2.ps,fun B D σ H env i r q k=>by
 A8 Ze at q
 split at q
 ·rename_i j q1
  cases q
  ~.inl (h1.ev B D σ H env i r q1 k)
 ·~.inr (h2.ev B D σ H env i r q k)⟩
A9 cZ(h:YZ K κ X E st t z):Wi K κ X E (st::rest) (Rf t yM) z:=⟨uC h.ps Ci,fun B D σ H env i r q k=>h.ev B _ σ H env i r q k⟩
def uV(g:GS)(z:GZ):GZ:=fun env=>match g env with
 | .next env'=>z env'
 | _=>none
A9 qI(h:YS K X st t g)(h2:Wi K κ X E rest u z):Wi K κ X E (st::rest) (Rf t u) (uV g z):=⟨uC h.ps h2.ps,fun B D σ H env i r q k=>by
 A8 uV at q
 split at q
 ·rename_i env' q1
  &h.ev B {D with nx:=u D} σ H env r ?_
  rw[q1]
  ~fun σ' H' r'=>h2.ev B D σ' H' env' i r' q k
 ·cases q⟩
def Uj(f:FT)(z1 z2:GZ):GZ:=fun env=>match f (rE env)with
 | some true=>z1 env
 | some false=>z2 env
 | none=>none
A9 Pq{s1 s2:List Stmt}(hc:XT K X c tc fc)(h1:Wi K κ X E s1 t z1)(h2:Wi K κ X E s2 u z2):YZ K κ X E (.If c s1 s2 pos) (Rg tc t u) (Uj fc z1 z2):=⟨Um hc.pt h1.ps h2.ps,fun B D σ H env i r q k=>by
 A8 Uj at q
 split at q
 ·rename_i q1
  &hc.ev σ H (rE env) true _ r.r q1 fun H' s=>?_
  rw[if_pos rfl]
  ~h1.ev B D σ H' env i (r.same s) q k
 ·rename_i q1
  &hc.ev σ H (rE env) false _ r.r q1 fun H' s=>?_
  rw[if_neg A5]
  ~h2.ev B D σ H' env i (r.same s) q k
 ·cases q⟩
def nF(r:List D→Option Nat)(fs:FA):DE→Option Nat:=fun e=>(fs e).bind r
def wy(X:Cx)(pins:List (Addr×Obj))(σ:St)(e:Expr)(t:TE):Prop:=∀(s:Shared)(H:Hp)(Q:VK),Inv X pins σ H s→t σ H Q→wpAny (model X.prog X.w) X.A (eval e X.env) (EP X pins σ Q) X.xe s
def PS1(X:Cx)(pins:List (Addr×Obj))(σ:St)(st:Stmt)(t:TS):Prop:=∀(s:Shared)(H:Hp)(D:Ends),Inv X pins σ H s→t D σ H→wpAny (model X.prog X.w) X.A (exec st X.env) (SP X pins D) X.xe s
def Dv(CX:Ku)(X:Cx)(pins:List (Addr×Obj))(σ:St)(E:XK):Prop:=∀(H:Hp)(s:Shared)(e:Value)(s':Shared),Inv X pins σ H s→CX X.stack H s E e s'→X.xe e s'
A9 Passes.one{CX:Ku}(h:Passes CX X E)(pins:List (Addr×Obj))(σ:St):Dv CX X pins σ E:=fun H s e s' I c=>h pins σ H s e s' I c
A9 GD{CX:Ku}{k:Nat}{f:Addr}{fd:FuncData}{ps:List Str}{sp:Sp}{Ro:List V}{ds:List Value}{pins:List (Addr×Obj)}{σ:St}{H:Hp}{s:Shared}{Q:VK}{us:List Value}{vs:List V}(F:uD X.prog X.w X.K X.mg X.base CX k f fd ps sp)(hr:kI k X.A)(hb:Binds X.K fd ps ds)(hd:Vals Ro ds)(hx:Dv CX X pins σ E)
  (I:Inv X pins σ H s) (r:Vals vs us) (h:sp (vs++Ro) H Q E):wpAny (model X.prog X.w) X.A (call (.ref f) us) (EP X pins σ Q) X.xe s:=by
 have r2:Vals (vs++Ro) (us++ds):=r.append hd
 have hl:(us++ds).length=ps.length:=by rw[←r2.length];~F.len _ _ _ _ h
 &wpAny_call (codeAny_mono (F.run X.A X.stack s H ⟨us,[]⟩ (us++ds) (vs++Ro) Q E hr I.env0 (hb s us I.uA hl) r2 h) fun r s' hq=>?_)
 cases r with
 | error e=>~hx H s e s' I hq
 | ok fl=>
  cases fl with
  | ret u=>~I.after hq
  | next=>~False.elim hq
  | brk=>~False.elim hq
  | cont=>~False.elim hq
structure OJ(K:aA)(κ:Nat→Addr)(X:Cx)(E:XK)(e:Expr)(t:TE)(z:DE→Option Nat):Prop where
 pe:∀(pins:List (Addr×Obj))(σ:St),Dv (vV X.prog X.w) X pins σ E→wy X pins σ e t
 ev:∀(σ:St)(H:Hp)(de:DE)(i:Nat)(Q:VK),pD K H de σ→z de=some i→(∀H',aN H H'→E (.ref (κ i)) none H')→t σ H Q
A9 uW{x:Str}{k n:Nat}{r:List D→Option Nat}{p:Pos}(C:Bu X.prog X.w X.K X.mg X.base x k n (Ui K κ n r))(hl:∀ds i,r ds=some i→ds.length=n)(hr:kI k X.A)(hg:Gl X x)(ha:XA K X (e::es) tA fs)(hdb:(x==("__debug__" : Str))=false:=by decide)
  (he:starEach (e::es) X.env=(false,eval e X.env)::starEach es X.env:=by rfl) (hpl:(backTo pos (starEach es X.env)).any (·.1)=false:=by rfl):OJ K κ X E (.Call (.Name x p) (e::es) [] pos) (Cq (Ui K κ n r) [] E tA) (nF r fs):=by
 have hk:=ha.hk
 subst hk
 A7⟨f,fd,ps,_,F,hb,hk,hm⟩:=C.ex
 &⟨fun pins σ hx s H Q I h=>?_,fun σ H de i Q re q k=>?_⟩
 ·&wpAny_Call_Name_kw (rA I hg hm ?_ hdb)
  &V8 (h₀:=X.base) I.ok.mod.il hk (eY (ha.pa pos pins s σ H _ I h) fun us s1 ⟨vs,H1,I1,r,q⟩=>⟨I1.uA,?_⟩) he hpl
  ~GD F hr hb .nil hx I1 r q
 A7⟨ds,q1,q2⟩:=aU q
 &call_of (ha.ev σ H H de ds _ (Zn.self _ H) re q1 fun vs H1 Z1 s1 t1 z1 rs=>?_)
 ~⟨ds,i,hl ds i q2,z1.sm.Ou _ _ rs,q2,fun H' s'=>k H' (s1.trans s')⟩
def zX(z:DE→Option Nat):GZ:=fun env=>z (rE env)
end
def Sy(n m:Nat)(z:GZ):List D→Option Nat:=fun ds=>if ds.length=m then z (ds.map SD.fro++B9 (n-m) SD.no)else none
A9 uX{n m:Nat}{z:GZ}(ds:List D)(i:Nat)(h:Sy n m z ds=some i):ds.length=m:=by
 A8 Sy at h
 split at h
 ·assumption
 ·cases h
section
variable{P:Program}{w:World}{K:aA}{mg:Str→Option Value}{base:Heap}{κ:Nat→Addr}
A9 qg{X:Cx}{N ps:List Str}{z:GZ}{body:List Stmt}{t:TS}{vs:List V}{H:Hp}{Q:VK}{E:XK}(yb:Wi K κ X E body t z)(h:Ui K κ ps.length (Sy N.length ps.length z) vs H Q E):t {nx:=fun _ H'=>Q .non H',rt:=Q} (start N vs) H:=by
 A7⟨ds,i,h1,h2,h3,kk⟩:=h
 A8 Sy at h3
 rw[if_pos h1]at h3
 &yb.ev H _ _ H _ i ?_ h3 kk
 have hl:vs.length=ps.length:=by rw[h2.length];~h1
 have:=vQ (k:=N.length-ps.length) h2
 A8 start
 rw[hl]
 ~this
end
section
variable{K:aA}{κ:Nat→Addr}{X:Cx}{E:XK}{z:GZ}{g:GS}{pos:Pos}
end
end L2


namespace L2
open PySem PySem.Spec PySem.Calls PyProof.Rows PyProof.V
abbrev nW:List Value:=[.type "ValueError", .type "Exception", .type "BaseException", .type "object"]
structure oJ(K:aA)(mg:Str→Option Value)(x:Str)(C:Addr):Prop where
 mg:mg x=some (.ref C)
 ok:J5 K C nW "ValueError.__new__" = true
A9 oJ.own{K:aA}{mg:Str→Option Value}{x:Str}{C:Addr}{h₀:Heap}(F:oJ K mg x C)(X:K.In h₀):OwnCls x C nW "ValueError.__new__" mg h₀:=by
 &⟨F.mg,?_⟩
 have q:=F.ok
 A8 J5 at q
 split at q
 ·rename_i dd cd sl ho
  split at q
  ·rename_i C' bm k0 k1 k2 k3 n k5 hm hs
   simp only[B4,beq_iff_eq,K7]at q
   A7⟨⟨⟨⟨⟨rfl,rfl⟩,hdel⟩,ht⟩,hok⟩,hni⟩:=q
   A7⟨nm,bs,mro,ns,qn,hd,sn,sub,ab,col,del⟩:=cd
   dsimp only at hm hdel hok hni
   subst hm hdel
   have hsl:sl=#[k0,k1,k2,k3,some (.builtin "ValueError.__new__"),k5]:=by
    A7⟨l⟩:=sl
    simp only at hs
    rw[hs]
   subst hsl
   ~⟨bm,ns,nm,qn,bs,hd,sn,sub,ab,col,dd,k0,k1,k2,k3,k5,_,X _ _ ho,.of_isNs (PySem.W.isNs_of_in X hok),PySem.W.nsMap_none_of_in X hok hni,PySem.W.tail_of_in X ht⟩
  ·cases q
 ·cases q
section
variable{P:Program}{w:World}{K:aA}{mg:Str→Option Value}{base:Heap}{N:List Str}{qual:Str}{scope:Scope}{f:Addr}{cd:Value}{A:Around}{outer:List Env}{s0:Shared}{H0:Hp}{E:XK}{κ:Nat→Addr}
 {x:Str} {C:Addr} {np cpos pos:Pos} {e:Expr} {es:List Expr} {tA:TA}
def tRz(E:XK)(C:Addr)(t:TA):TS:=fun _ σ H=>t σ H fun vs H1=>vs.length≤sizeLine∧E (.ref C) none H1
A9 Wj(F:oJ K mg x C)(hg:Gl (jL (vV P w) P w K mg base N qual scope f cd A outer s0 H0 E) x)(ha:PA (jL (vV P w) P w K mg base N qual scope f cd A outer s0 H0 E) (e::es) tA)(hd:(x==("__debug__" : Str))=false:=by decide)
  (he:starEach (e::es) (jL (vV P w) P w K mg base N qual scope f cd A outer s0 H0 E).env=(false,eval e (jL (vV P w) P w K mg base N qual scope f cd A outer s0 H0 E).env)::starEach es (jL (vV P w) P w K mg base N qual scope f cd A outer s0 H0 E).env:=by rfl)
  (hpl:(backTo cpos (starEach es (jL (vV P w) P w K mg base N qual scope f cd A outer s0 H0 E).env)).any (·.1)=false:=by rfl) :
  PS (jL (vV P w) P w K mg base N qual scope f cd A outer s0 H0 E) (.Raise (some (.Call (.Name x np) (e::es) [] cpos)) none pos) (tRz E C tA):=by
 intro pins s σ H D I h
 A7⟨tl,Nn,nm,q,bs,hdct,sn,sub,ab,col,dd,k0,k1,k2,k3,k5,mN,hC,hN,hni,T⟩:=(F.own I.mod.il).obj
 have hA:=ha cpos pins s σ H _ I h
 &wpAny_Raise_call_subU (C:=C) (nm:=nm) (q:=q) (N:=Nn) (bs:=bs) (bm:=tl) (hdct:=hdct) (sn:=sn) (sub:=sub) (ab:=ab) (col:=col) (dd:=dd) (k0:=k0) (k1:=k1) (k2:=k2) (k3:=k3) (k5:=k5)
  N9 rfl N9 (mN:=mN) (T.hasType N9.hasBase) (I.ok.hd rfl) (by rw[he];show (false||(backTo cpos (starEach es _)).any (·.1))=false;rw[hpl];rfl) hni (rA I hg F.mg ⟨rfl,?_⟩ hd)
 rw[he]at hA ⊢
 &Calls.evalArgs_plain (eY hA fun us s1 ⟨vs,H1,I1,r,hl,q⟩=>⟨rfl,by show us.length≤sizeLine;rw[←r.length];~hl,I1.bk _ _ hC,hN.keeps I1.bk,T.keeps I1.bk,fun h' ee hx=>?_⟩)
 A7⟨a1,a2,a3,a4,a5,a6,a7,a8⟩:=zK I1
 &wpAny_leaves_madeW (base:=vU s1.heap (envOfC qual scope s0.heap.objs.size f cd::outer)) (h:=s1.heap) I1.ok.frames rfl (fun b o q=>(xY q).1) (zJ a8 fun b hb=>vW hb) hx fun h'' t fl _ _ up=>?_
 ~Gf rfl a8 a1 a2 a3 a4 a5 a6 a7 fl ((Heap.UpToSlots.of_keeps hx.keeps).trans up) rfl I1.bare rfl q
def qi(i:Nat)(fs:FA):GZ:=fun env=>(fs (rE env)).bind fun ds=>if ds.length≤100 then some i else none
A9 uY{i:Nat}{fs:FA}(F:oJ K mg x (κ i))(hg:Gl (jL (vV P w) P w K mg base N qual scope f cd A outer s0 H0 E) x)(ha:XA K (jL (vV P w) P w K mg base N qual scope f cd A outer s0 H0 E) (e::es) tA fs)(hd:(x==("__debug__" : Str))=false:=by decide)
  (he:starEach (e::es) (jL (vV P w) P w K mg base N qual scope f cd A outer s0 H0 E).env=(false,eval e (jL (vV P w) P w K mg base N qual scope f cd A outer s0 H0 E).env)::starEach es (jL (vV P w) P w K mg base N qual scope f cd A outer s0 H0 E).env:=by rfl)
  (hpl:(backTo cpos (starEach es (jL (vV P w) P w K mg base N qual scope f cd A outer s0 H0 E).env)).any (·.1)=false:=by rfl) :
  YZ K κ (jL (vV P w) P w K mg base N qual scope f cd A outer s0 H0 E) E (.Raise (some (.Call (.Name x np) (e::es) [] cpos)) none pos) (tRz E (κ i) tA) (qi i fs):=⟨Wj F hg ha.pa hd he hpl,fun B D σ H env j r q k=>by
 A7⟨ds,q1,q2⟩:=aU q
 split at q2
 ·rename_i hl
  cases q2
  ~ha.ev σ H H (rE env) ds _ (Zn.self _ H) r.r q1 fun vs H1 Z1 s1 t1 z1 rs=>⟨jB (by rw[rs.length];omega),k H1 (r.sub.trans s1)⟩
 ·cases q2⟩
end
abbrev Cx.tr(X:Cx)(pn:List (Addr×Obj))(Ex:Value→Shared→Prop):Cx:={X with pn:=pn,xe:=Ex}
abbrev Cx.hand(X:Cx)(pn:List (Addr×Obj))(e:Addr):Cx:={X with pn:=pn,A:=X.A.mark (some (.ref e)),calm:=false,xe:=fun _ _=>False}
section
variable{X:Cx}{pins yK pn:List (Addr×Obj)}{σ:St}{H:Hp}{s s':Shared}{Ex:Value→Shared→Prop}{e:Addr}{D:Ends}{fl:Flow}
A9 Inv.tr(I:Inv X pins σ H s)(Ex:Value→Shared→Prop):Inv (X.tr (X.pn++pins) Ex) [] σ H s:=
 ⟨⟨I.ok.mod,I.ok.kind,I.ok.glob,I.ok.blt,I.ok.above,I.ok.inj,I.ok.has,I.ok.cab,I.ok.hd,I.ok.frames,I.ok.LC,I.ok.dw,I.ok.bs,I.ok.Uc,I.ok.En,I.ok.Hx,I.ok.rR,I.ok.Yz⟩,I.os,I.bare,I.base,I.loc,I.cell,I.free,I.lF,fun p hp=>I.pin p (by simpa using hp),I.hok,I.len⟩
A9 Inv.uZ(I:Inv (X.tr (X.pn++pins) Ex) yK σ H s):Inv X pins σ H s:=
 ⟨⟨I.ok.mod,I.ok.kind,I.ok.glob,I.ok.blt,I.ok.above,I.ok.inj,I.ok.has,I.ok.cab,I.ok.hd,I.ok.frames,I.ok.LC,I.ok.dw,I.ok.bs,I.ok.Uc,I.ok.En,I.ok.Hx,I.ok.rR,I.ok.Yz⟩,I.os,I.bare,I.base,I.loc,I.cell,I.free,I.lF,fun p hp=>I.pin p (I0 _ hp),I.hok,I.len⟩
A9 Inv.hand(I:Inv X pins σ H s)(e:Addr):Inv (X.hand (X.pn++pins) e) [] σ H s:=
 ⟨⟨I.ok.mod,I.ok.kind,I.ok.glob,I.ok.blt,I.ok.above,I.ok.inj,I.ok.has,I.ok.cab,fun z=>(by cases z),I.ok.frames,I.ok.LC,I.ok.dw,I.ok.bs,I.ok.Uc,I.ok.En,I.ok.Hx,I.ok.rR,I.ok.Yz⟩,I.os,I.bare,I.base,I.loc,I.cell,I.free,I.lF,fun p hp=>I.pin p (by simpa using hp),I.hok,I.len⟩
A9 Inv.tH(hd:X.calm=true→X.A.handled=none)(I:Inv (X.hand (X.pn++pins) e) yK σ H s):Inv X pins σ H s:=
 ⟨⟨I.ok.mod,I.ok.kind,I.ok.glob,I.ok.blt,I.ok.above,I.ok.inj,I.ok.has,I.ok.cab,hd,I.ok.frames,I.ok.LC,I.ok.dw,I.ok.bs,I.ok.Uc,I.ok.En,I.ok.Hx,I.ok.rR,I.ok.Yz⟩,I.os,I.bare,I.base,I.loc,I.cell,I.free,I.lF,fun p hp=>I.pin p (I0 _ hp),I.hok,I.len⟩
A9 SP.uZ(h:SP (X.tr (X.pn++pins) Ex) yK D fl s'):SP X pins D fl s':=by
 cases fl with
 | next=>A7⟨σ',H',I,q⟩:=h;~⟨σ',H',I.uZ,q⟩
 | brk=>A7⟨σ',H',I,q⟩:=h;~⟨σ',H',I.uZ,q⟩
 | cont=>A7⟨σ',H',I,q⟩:=h;~⟨σ',H',I.uZ,q⟩
 | ret u=>A7⟨v,σ',H',I,r,q⟩:=h;~⟨v,σ',H',I.uZ,r,q⟩
A9 SP.tH(hd:X.calm=true→X.A.handled=none)(h:SP (X.hand (X.pn++pins) e) yK D fl s'):SP X pins D fl s':=by
 cases fl with
 | next=>A7⟨σ',H',I,q⟩:=h;~⟨σ',H',I.tH hd,q⟩
 | brk=>A7⟨σ',H',I,q⟩:=h;~⟨σ',H',I.tH hd,q⟩
 | cont=>A7⟨σ',H',I,q⟩:=h;~⟨σ',H',I.tH hd,q⟩
 | ret u=>A7⟨v,σ',H',I,r,q⟩:=h;~⟨v,σ',H',I.tH hd,r,q⟩
end
abbrev Gi:=Nat→Nat→Bool
def sO(sub:Gi)(n nj:Nat):List (Nat×GS)→Nat→GS
 | [],_=>fun _=>.bad
 | (j,g)::r,i=>if i<n∧j<nj then(if sub i j=true then g else sO sub n nj r i)else fun _=>.bad
def Bv(z:GZ)(g:GS)(sub:Gi)(n nj:Nat)(hs:Nat→List (Nat×GS)):GS:=fun env=>match z env with
 | none=>g env
 | some i=>sO sub n nj (hs i) i env
section
variable{K:aA}{κ:Nat→Addr}{X:Cx}{sub:Gi}{n nj:Nat}{z:GZ}{g:GS}{st:Stmt}{pos:Pos}
A9 Rel.no{B H:Hp}{σ:St}{env:EN}{k:Nat}(h:Rel K B env σ H)(hk:k<env.length)(y:Option V):Rel K B (env.set k .no) (σ.set k y) H:=by
 A7⟨A,a,b⟩:=h
 A7⟨y0,A1,C,h1,h2,h3,h4,kk⟩:=a.focus (B6 hk)
 have g:aN (out H A) (out H (gZ nil C)):=kY (aN.refl _) fun x q=>.inl ((h3 x).mpr (.inr (q.elim False.elim id)))
 ~⟨gZ nil C,kk (jH K H (out H (gZ nil C))) (fun e D z _ q=>q.same (aN.refl _) g) .no y nil (fun x q=>q.elim) (fun _ z=>z),b.trans g⟩
def gw(k:Nat)(g:GS):GS:=fun env=>if k<env.length then(match g (env.set k .no)with
 | .next env'=>if k<env'.length then .next (env'.set k .no)else .bad
 | _=>.bad)else .bad
structure YE(K:aA)(X:Cx)(k:Nat)(e:Addr)(sts:List Stmt)(t:TS)(g:GS):Prop where
 ps:Ce X sts t
 ev:∀(B:Hp)(D:Ends)(σ:St)(H:Hp)(env:EN),Rel K B env σ H→σ[k]?=some (some (.ref e))→Bq K B D (g env)→t D σ H
A9 Tc{M:Model}{A:Around}{E:Value→Shared→Prop}{pins:List (Addr×Obj)}{σ:St}{H:Hp}{s:Shared}{k:Nat}{nm:Str}{hp:Pos}{Q:Unit→Shared→Prop}(I:Inv X pins σ H s)(hN:X.N.Nodup)(hi:X.N[k]?=some nm)(hl:X.env.scope.names.lookup nm=some .local)
  (h:∀s',Inv X pins (σ.set k none) H s'→Q () s'):wpAny M A (do bindName X.env nm .none;unbindBehindTheSuite X.env nm hp) Q E s:=by
 A7⟨m,hn,hlk⟩:=id I.loc
 have hcls:(X.env.scope.kind==.class||(X.env.scope.kind==.module&&X.env.locals != X.env.globals))=false:=by rw[I.ok.kind];rfl
 have vf:k<σ.length:=by rw[I.len];~(C4.mp hi).1
 have Oc:=I.Oc
 &wpAny_nameGoes_keeps hl hn hcls fun h' v hn' hs=>?_
 &h _ ⟨I.ok,I.os,I.bare,⟨fun b o e n hb hx=>?_,fun b o e n hb hx=>?_,I.base.free,fun b o e hx=>?_,I.base.tups,I.base.xF,I.base.yJ⟩,⟨_,hn',fun j y v' e1 e2 e3=>?_⟩,fun y c e=>?_,I.free,I.lF,fun p hp=>?_,fun b ob e=>?_,by simpa using I.len⟩
 ·~(hs.2 b (F2 (C3 (Heap.lt_size e) I.ok.above))).trans (I.base.keep b o e n hb hx)
 ·A7⟨sl,e1⟩:=I.base.slot b o e n hb hx
  ~⟨sl,(hs.2 b (F2 (C3 (Heap.lt_size e) I.ok.above))).trans e1⟩
 ·A7⟨o',e1⟩:=I.base.there b o e hx
  ~⟨o',(hs.2 b (F2 (C3 (Heap.lt_size e) I.ok.above))).trans e1⟩
 ·by_cases hj:j=k
  ·subst hj
   rw[L5 vf]at e2
   cases e2
  ·rw[K5 (Ne.symm hj)]at e2
   A7⟨u',r',q⟩:=hlk j y v' e1 e2 e3
   &⟨u',r',?_⟩
   rcases q with ⟨kk,e⟩ | ⟨kk,c,e,z⟩
   ·&.inl ⟨kk,?_⟩
    have:y≠nm:=fun e=>hj (yL hN e1 (e▸hi))
    simp[this,e]
   ·~.inr ⟨kk,c,e,z.sameBut hs (Oc y c e)⟩
 ·A7⟨w',z⟩:=I.cell y c e
  ~⟨w',z.sameBut hs (Oc y c e)⟩
 ·A7⟨e,n,ne,nf,d⟩:=I.pin p hp
  ~⟨(hs.2 p.1 ne).trans e,n,ne,nf,d⟩
 ·&(I.hok b ob e).stay (fun c w' hc q=>(hs.2 c ?_).trans q) (fun _ q=>q) fun _ _ q=>q
  rintro rfl
  have hfree:=I.free
  rcases hc with hc | hc
  ·rw[←hc,hfree]at e;cases e
  ·rw[hfree]at hc;cases hc
A9 qj{P:Program}{w:World}{H:Hp}{h:Heap}{a:Addr}{o:HO}(x:gY P w H h a o):∃u,h.get? a=some u:=by
 cases o with
 | lst xs=>A7⟨_,_,_,_,e⟩:=x;~⟨_,e⟩
 | tup xs=>A7⟨_,_,_,p⟩:=x;A7⟨o,h1,_⟩:=p;~⟨_,h1⟩
 | dK kvs=>A7⟨_,_,_,_,o,_,_,e,_⟩:=x;~⟨_,e⟩
 | dT kvs=>A7⟨_,_,_,_,o,_,_,e,_⟩:=x;~⟨_,e⟩
 | set S n=>A7⟨o,_,_,_,e,_⟩:=x;~⟨_,e⟩
 | ins C dx fs=>A7⟨_,_,_,e,_⟩:=x;~⟨_,e⟩
 | own y=>~x
 | xd fs=>A7⟨_,⟨_,_,_,e,_⟩,_⟩:=x;~⟨_,e⟩
 | rng lo hi=>A7⟨_,_,_,e⟩:=x;~⟨_,e⟩
 | tZ ob u=>A7⟨e,_⟩:=x;~⟨_,e⟩
 | tbl ps=>~⟨_,(show h.get? a=some _ from x)⟩
 | met f y=>~⟨_,(show h.get? a=some _ from x)⟩
 | ext φ=>A7⟨_,e,_⟩:=x;~e
A9 Fl.e{P:Program}{w:World}{H:Hp}{l:List Env}{s1 s':Shared}{e:Addr}{cls:Value}(f:Fl l s1 e cls s')(hok:rQ P w H s1.heap):∃oe,s'.heap.get? e=some oe∧oe.cls=cls∧H e=none∧e∉frs l∧∀v,oe.data≠.cell v:=by
 A7⟨a0,k1,k2,k3,oe,vs,T,oT,ts,he,hc,hd,_⟩:=f.wV
 have hn:e∉frs l:=fun z=>by
  A7⟨o',z1,z2⟩:=uU k3 e z
  rw[he]at z1
  cases z1
  ~z2 vs hd
 &⟨oe,he,hc.1,?_,hn,fun v z=>by rw[hd]at z;cases z⟩
 cases q:H e with
 | none=>rfl
 | some u=>
  A7⟨o,q1⟩:=qj (hok e u q)
  rw[Du k2 hn]at q1
  cases q1
inductive HK(K:aA)(κ:Nat→Addr)(X:Cx)(n i:Nat):List ExceptHandler→List (Nat×GS)→Prop
 | nil:HK K κ X n i [] []
 | cons {x:Str} {np hp:Pos} {b₀:Stmt} {suite:List Stmt} {rest:List ExceptHandler} {j:Nat} {gh:GS} {r:List (Nat×GS)} (hm:X.mg x=some (.ref (κ j))) (hg:Gl X x) (hd:(x==("__debug__" : Str))=false)
   (hs:∀(pn:List (Addr×Obj))(e:Addr),∃t,YB K (X.hand pn e) (b₀::suite) t gh) (hr:HK K κ X n i rest r):HK K κ X n i (.ExceptHandler (some (.Name x np)) none (b₀::suite) hp::rest) ((j,gh)::r)
 | as {x nm:Str} {np hp:Pos} {b₀:Stmt} {suite:List Stmt} {rest:List ExceptHandler} {j k:Nat} {gh:GS} {r:List (Nat×GS)} (hm:X.mg x=some (.ref (κ j))) (hg:Gl X x) (hd:(x==("__debug__" : Str))=false) (hN:X.N.Nodup) (hk:X.N[k]?=some nm) (hl:X.env.scope.names.lookup nm=some .local)
   (hs:∀(pn:List (Addr×Obj))(e:Addr)(oe:Obj),i<n→oe.cls=.ref (κ i)→(e,oe)∈pn→∃t,YE K (X.hand pn e) k e (b₀::suite) t gh) (hr:HK K κ X n i rest r):HK K κ X n i (.ExceptHandler (some (.Name x np)) (some nm) (b₀::suite) hp::rest) ((j,gw k gh)::r)
A9 Fl.ty{M:Model}{l:List Env}{s1 s':Shared}{e:Addr}{cls:Value}(f:Fl l s1 e cls s'):K0 M s'.heap (typeOf (.ref e)) cls:=by
 A7⟨a0,x⟩:=f.wV
 A7⟨ob,h1,h2⟩:=x.there
 subst h2
 ~(T4 h1).andThen .now
A9 Td(XM:∀i j,i<n→j<nj→B5 K (.ref (κ i)) (.ref (κ j))=some (sub i j))(hk:X.K=K)(hst:X.stack=X.env::X.outer)(hfr:X.env.frame=some X.env.locals){pins:List (Addr×Obj)}{σ:St}{H B:Hp}{s1:Shared}{e:Addr}{i:Nat}{D:Ends}{env:EN}
  (r:Rel K B env σ H) (I:Inv X pins σ H s1) {hs:List ExceptHandler} {gs:List (Nat×GS)} (h:HK K κ X n i hs gs):∀(s':Shared),Fl X.stack s1 e (.ref (κ i)) s'→Bq K B D (sO sub n nj gs i env)→wpAny (model X.prog X.w) X.A (handleBy (.ref e) X.env hs) (SP X pins D) X.xe s':=by
 subst hk
 induction h with
 | nil=>intro s' f p;A8 sO at p;~p.elim
 | @cons x np hp b₀ suite rest j gh rr hm hg hd hs hr ih=>
  intro s' f p
  A8 sO at p
  split at p
  ·rename_i hij
   have I':=I.landed f
   &wpAny_handleBy_cons (codeAny_handlers_test ?_) (by intro q;cases q)
   have J:=I'.hand e
   &rA (X:=X.hand (X.pn++pins) e) (u:=.ref (κ j)) J hg hm ?_ hd
   have xm:=XM i j hij.1 hij.2
   cases hb:sub i j with
   | true=>
    rw[hb]at xm
    rw[hb,if_pos rfl]at p
    &(R0 (M:=model X.prog X.w) I'.uA f.ty xm).here ?_
    show codeAny _ _ _ _ _
    &codeAny_handlers_suite ?_
    A7⟨a0,wV⟩:=f.wV
    &wpAny_setFlight_noneW wV.1 wV.2.2.1 wV.2.2.2.at fun h' k1 k2 k3 k4=>?_
    have f':Fl X.stack s1 e (.ref (κ i)) {s' with heap:=h'}:=⟨⟨a0,k1,wV.2.1,k2,k3⟩,f.up.trans fun b o hb hn=>⟨o.slots,k4 b o hb hn⟩,f.os,f.bare⟩
    have J2:=(I.landed f').hand e
    A7⟨t,yb⟩:=hs (X.pn++pins) e
    ~wpAny_mono (yb.ps [] _ σ H D J2 (yb.ev B D σ H env r p)) (fun fl s2 q=>q.tH I.ok.hd) fun _ _ z=>z.elim
   | false=>
    rw[hb]at xm
    rw[hb,if_neg B8]at p
    &(R0 (M:=model X.prog X.w) I'.uA f.ty xm).here ?_
    ~ih s' f p
  ·~p.elim
 | @as x nm np hp b₀ suite rest j k gh rr hm hg hd hN hkk hl hs hr ih=>
  intro s' f p
  A8 sO at p
  split at p
  ·rename_i hij
   have I':=I.landed f
   &wpAny_handleBy_cons (codeAny_handlers_test ?_) (by intro q;cases q)
   have J:=I'.hand e
   &rA (X:=X.hand (X.pn++pins) e) (u:=.ref (κ j)) J hg hm ?_ hd
   have xm:=XM i j hij.1 hij.2
   cases hb:sub i j with
   | true=>
    rw[hb]at xm
    rw[hb,if_pos rfl]at p
    &(R0 (M:=model X.prog X.w) I'.uA f.ty xm).here ?_
    show codeAny _ _ _ _ _
    &codeAny_handlers_suite_as ?_
    A7⟨a0,wV⟩:=f.wV
    &wpAny_setFlight_noneW wV.1 wV.2.2.1 wV.2.2.2.at fun h' k1 k2 k3 k4=>?_
    have f':Fl X.stack s1 e (.ref (κ i)) {s' with heap:=h'}:=⟨⟨a0,k1,wV.2.1,k2,k3⟩,f.up.trans fun b o hb hn=>⟨o.slots,k4 b o hb hn⟩,f.os,f.bare⟩
    have I2:=I.landed f'
    A7⟨oe,x1,x2,x3,x4,x5⟩:=f'.e I.hok
    have ef:frs X.stack=X.env.locals::X.fs:=by rw[hst];show Y4 _ (X.env::X.outer)=X.env.locals::Y4 _ X.outer;rw[K1,hfr]
    rw[ef]at x4
    have I3:Inv X (pins++[(e,oe)]) σ H {s' with heap:=h'}:=I2.xO fun p hp=>by
     rcases L8.mp hp with z | z
     ·~I2.pin p (C9 _ z)
     ·rw[F6.mp z]
      ~⟨x1,x3,fun z=>x4 (by have z:e=X.env.locals:=z;rw[z];~D1),fun z=>x4 (C5 _ z),x5⟩
    have J2:=I3.hand e
    A7⟨t,yps,yev⟩:=hs (X.pn++(pins++[(e,oe)])) e oe hij.1 x2 (C9 _ (C9 _ D1))
    A8 gw at p
    split at p
    case isFalse=>~p.elim
    rename_i hke
    &uB (X:=X.hand (X.pn++(pins++[(e,oe)])) e) (v:=.ref e) J2 hN hkk (.inl hl) rfl (fun s2 J3=>?_) (.inr hl)
    have hkσ:k<σ.length:=by rw[I.len];~(C4.mp hkk).1
    have run:=yps [] s2 (σ.set k (some (.ref e))) H {nx:=fun σ' H'=>∃env',gh (env.set k .no)=.next env'∧Rel X.K B env' σ' H',rt:=fun _ _=>False} J3 (yev B _ _ H (env.set k .no) (r.no hke _) (L5 hkσ) (by
     cases qq:gh (env.set k .no)with
     | next env'=>~fun σ' H' r'=>⟨env',rfl,r'⟩
     | ret d=>rw[qq]at p;~p.elim
     | brk d=>rw[qq]at p;~p.elim
     | cont d=>rw[qq]at p;~p.elim
     | bad=>rw[qq]at p;~p.elim
     | rete d e=>rw[qq]at p;~p.elim))
    &wpAny_mono run (fun fl s3 q=>?_) fun _ _ z=>z.elim
    cases fl with
    | next=>
     A7⟨σ',H',J4,env',q1,r'⟩:=q
     rw[q1]at p
     dsimp only at p
     split at p
     ·rename_i hk'
      have I5:Inv X (pins++[(e,oe)]) σ' H' s3:=J4.tH I.ok.hd
      have I6:Inv X pins σ' H' s3:=I5.xO fun p hp=>I5.pin p (C9 _ (I0 _ hp))
      ~Tc I6 hN hkk hl fun s4 I7=>⟨_,H',I7,p _ _ (r'.no hk' none)⟩
     ·~p.elim
    | brk=>A7⟨_,_,_,z⟩:=q;~z.elim
    | cont=>A7⟨_,_,_,z⟩:=q;~z.elim
    | ret u=>A7⟨_,_,_,_,_,z⟩:=q;~z.elim
   | false=>
    rw[hb]at xm
    rw[hb,if_neg B8]at p
    &(R0 (M:=model X.prog X.w) I'.uA f.ty xm).here ?_
    ~ih s' f p
  ·~p.elim
structure ZS(K:aA)(κ:Nat→Addr)(X:Cx)(E:XK)(st:Stmt)(t:TS)(z:GZ):Prop where
 ps:∀(pins:List (Addr×Obj))(σ:St),Dv (vV X.prog X.w) X pins σ E→PS1 X pins σ st t
 ev:∀(B:Hp)(D:Ends)(σ:St)(H:Hp)(env:EN)(i:Nat),Rel K B env σ H→z env=some i→(∀H',aN H H'→E (.ref (κ i)) none H')→t D σ H
def aAg(K:aA)(z:GZ)(g:GS)(sub:Gi)(n nj:Nat)(gs:Nat→List (Nat×GS)):TS:=fun D σ H=>∃B env,Rel K B env σ H∧Bq K B D (Bv z g sub n nj gs env)
A9 YL{h:ExceptHandler}{hs:List ExceptHandler}{gs:Nat→List (Nat×GS)}(XM:∀i j,i<n→j<nj→B5 K (.ref (κ i)) (.ref (κ j))=some (sub i j))(hN:∀pn,∃t,YB K (X.tr pn fun _ _=>False) [st] t g)(hZ:∀pn Ex E,∃t,ZS K κ (X.tr pn Ex) E st t z)(hH:∀i,HK K κ X n i (h::hs) (gs i))
  (hk:X.K=K:=by rfl) (hst:X.stack=X.env::X.outer:=by rfl) (hfr:X.env.frame=some X.env.locals:=by rfl) (Ss:X.calm=true:=by rfl):YS K X (.Try [st] (h::hs) [] [] pos) (aAg K z g sub n nj gs) (Bv z g sub n nj gs):=by
 &⟨fun pins s σ H D I ⟨B,env,r,p⟩=>?_,fun B D σ H env r p=>⟨B,env,r,p⟩⟩
 &wpAny_Try_except ?_
 A8 Bv at p
 cases hz:z env with
 | none=>
  rw[hz]at p
  A7⟨t,yb⟩:=hN (X.pn++pins)
  &wpAny_mono (yb.ps [] s σ H D (I.tr _) (yb.ev B D σ H env r p)) (fun f s1 q=>?_) fun _ _ z=>z.elim
  cases f with
  | next=>~wpAny_execs_nil q.uZ
  | brk=>~q.uZ
  | cont=>~q.uZ
  | ret u=>~q.uZ
 | some i=>
  rw[hz]at p
  have fr:X.A.frames=some (X.env::X.outer):=by rw[←hst];~I.ok.frames
  A7⟨t,zs⟩:=hZ (X.pn++pins) (fun ev s'=>∃e H' s1,ev=.ref e∧Inv X pins σ H' s1∧Fl X.stack s1 e (.ref (κ i)) s'∧aN H H') (fun cls _ H'=>cls=.ref (κ i)∧aN H H')
  have run:=zs.ps [] σ (fun H2 s2 ev s' I2 c=>by
   A7⟨e,cls,H',s1,rfl,I3,fl,rfl,sm⟩:=I2.ghost c
   ~⟨e,H',s1,rfl,I3.uZ,fl,sm⟩) s H D (I.tr _) (zs.ev B D σ H env i r hz fun H' s=>⟨rfl,s⟩)
  &wpAny_execs_cons (wpAny_mono run (fun f s1 q=>?_) fun ev s1 q=>?_)
  ·cases f with
   | next=>~wpAny_execs_nil (wpAny_execs_nil q.uZ)
   | brk=>~q.uZ
   | cont=>~q.uZ
   | ret u=>~q.uZ
  ·A7⟨e,H',sg,rfl,Ig,fl,sm⟩:=q
   A7⟨a0,wV⟩:=fl.wV
   rw[hst]at wV
   &wpAny_looks_onW fr hfr wV fun h' held up=>wpAny_landsW held fun h'' ql up'=>?_
   rw[←hst]at ql
   have fl2:Fl X.stack sg e (.ref (κ i)) {s1 with heap:=h''}:=⟨⟨a0,ql⟩,fl.up.trans (up.trans up'),fl.os,fl.bare⟩
   ~Td XM hk hst hfr (r.same sm) Ig (hH i) _ fl2 p
end
end L2


namespace L2
open PySem PySem.Spec PySem.Calls PyProof.Rows PyProof.V
A9 GF{K:aA}{c t:Value}{e:Addr}(hk:O9 K t c=some true):PySem.Answers (fun s=>K.In s.heap∧∃oe,s.heap.get? e=some oe∧oe.cls=t) (.ref e) c true:=by
  intro dep tk prog w A R s hs
  A7⟨h0,g,d,tt,os⟩:=s
  A7⟨⟨X,oe,he,hc⟩,hq⟩:=hs
  have LT:K0 (model prog w) h0 (typeOf (.ref e)) t:=hc▸(T4 he).andThen .now
  A8 Builtin.«isinstance.nested»
  &wpAny_bind (LT.at ?_)
  by_cases q:(t==c)=true
  · rw[if_pos q]
    first
      | ((repeat lk);~hq tt)
      | ~wpAny_bind (wpAny_rule (hq tt))
      | ~wpAny_bind (wpAny_rule (wpAny_pure (hq tt)))
  · rw[if_neg q]
    A7⟨hty,his,hsub⟩:=PySem.W.kit_cls (M:=model prog w) X hk
    have LI:K0 (model prog w) h0 (isInstance (.ref e) c) true:=LT.andThen hsub
    &wpAny_bind (hty.at ?_)
    rw[if_pos A5]
    k_delta "plainIsInstance"
    &wpAny_bind (wpAny_bind (his.at ?_))
    simp only[Bool.not_true,V9,if_false]
    &wpAny_bind (LI.at ?_)
    first
      | ~wpAny_pure (wpAny_pure (hq tt))
      | (simp only[if_true];first | ~wpAny_pure (wpAny_pure (hq tt)) | ~wpAny_pure (hq tt) | ~wpAny_bind (wpAny_pure (wpAny_pure (hq tt))))
section
variable{K:aA}{X:Cx}{κ:Nat→Addr}{pos p:Pos}
def YM(e:Addr)(T:String):List V→Hp→VK→Prop:=fun xs H Q=>xs=[.ref e,.ty T]∧Q (.bl true) H
A9 YQ{pn:List (Addr×Obj)}{e:Addr}{oe:Obj}{t:Value}{T:String}(hpn:X.pn=pn)(hm:(e,oe)∈pn)(hc:oe.cls=t)(hk:O9 X.K t (.type T)=some true):iV X (.builtin "isinstance") (YM e T):=by
 intro pins s σ H xs us Q I r h
 A7⟨rfl,q⟩:=h
 A7⟨u,w',rfl,rx,rt⟩:=vals2 r
 cases rt
 cases rx
 have hp:=(I.pin (e,oe) (I0 _ (by rw[hpn];~hm))).1
 ~PySem.call_isinstance (S:=fun _ R s=>(X.K.In s.heap∧∃oe,s.heap.get? e=some oe∧oe.cls=t)∧∀tk,R (.ok (.ret (.bool true))) {s with toks:=tk})
  (fun prog w A R s hs=>PySem.isinstance_outer (GF hk 0 _ prog w A R s hs) (fun z=>nomatch z)) ⟨⟨I.uA,oe,hp,hc⟩,fun tk=>⟨.bl true,H,I.tok _,rfl,q⟩⟩
structure XE(K:aA)(X:Cx)(k:Nat)(ea:Addr)(e:Expr)(t:TE)(d:D):Prop where
 pe:PE X e t
 ev:∀(σ:St)(H:Hp)(Q:VK),σ[k]?=some (some (.ref ea))→(∀v H',aN H H'→Bf K H H' d v→Q v H')→t σ H Q
A9 YT{k:Nat}{ea:Addr}{e eT:Expr}{T:String}(h:PE X e (jF k))(hT:PE X eT (tC (.ty T)))(qm:iV X (.builtin "isinstance") (YM ea T)) (hg:Gl X "isinstance") (hm:X.mg "isinstance" = none) (hst:starEach (e::[eT]) X.env=(false,eval e X.env)::starEach [eT] X.env:=by rfl) (hst2:starEach [eT] X.env=(false,eval eT X.env)::starEach [] X.env:=by rfl)
  (hpl:(backTo pos (starEach [eT] X.env)).any (·.1)=false:=by rfl):XE K X k ea (.Call (.Name "isinstance" p) [e,eT] [] pos) (Zv (YM ea T) (bV (jF k) (bV (tC (.ty T)) iM))) (.bl true):=
 ⟨pM qm hg hm M6 (aV h (aV hT bI hst2) hst) A5 A5 hst hpl,fun σ H Q hk q=>⟨_,hk,rfl,q _ H (aN.refl _) (.eX rfl (by A8 Rv;rfl))⟩⟩
end
section
variable{K:aA}{X:Cx}{g:GS}{pos:Pos}
def Bw(a b:D):Option D:=match a,b with
 | .lst ds,.int k=>if D.cT ds=true∧0≤k∧k≤1000∧ds.length≤1 then some (.lst (B9 k.toNat ds).flatten)else none
 | _,_=>none
A9 Jp{ds:List D}(h:D.cT ds=true):∀k:Nat,D.cT (B9 k ds).flatten=true
 | 0=>by rw[R7,T5,D.cT]
 | k+1=>by rw[G9,M3];~NQ h (Jp h k)
A9 Pu{H:Hp}{ds:List D}{xs:List V}(h:cC K H ds xs):∀k:Nat,cC K H (B9 k ds).flatten (B9 k xs).flatten
 | 0=>by rw[R7,R7,T5,T5];A8 cC;rfl
 | k+1=>by rw[G9,G9,M3,M3];~h.append (Pu h k)
A9 Wk{a b:Expr}{ta tb:TE}{f fb:FE}(ha:XN K X a ta f)(hb:XR K X b tb fb):XN K X (.BinOp a .Mult b pos) (Ck jl ta tb) (f2 Bw f fb):=⟨ha.hk,Ur TY ha.pe hb.pe,fun σ H e d Q re q k=>by
 A7⟨x,y,q1,q2,q3⟩:=mH q
 A8 Bw at q3
 split at q3
 ·split at q3
  ·rename_i ds kk hc
   cases q3
   &ha.ev σ H e _ _ re q1 fun v H1 s1 n1=>?_
   A7⟨N,o,fr⟩:=n1
   A8 Ow at o
   A7⟨ad,xs,B,rfl,o2,o3,o4,o5⟩:=o
   &hb.ev σ H1 H1 e _ _ (Zn.self K H1) (re.same s1) q2 fun v' H2 Z2 s2 t2 z2 rv=>?_
   A8 Rv at rv
   subst rv
   have rl:=gB.rv _ _ _ o5
   have hlen:=rl.length
   &⟨ad,kk,xs,rfl,rfl,s2 _ _ o2,by omega,by omega,?_,fun pp hpp=>?_⟩
   ·rw[hlen]
    &jB ?_
    have:ds.length*kk.toNat≤1*kk.toNat:=Nat.mul_le_mul_right _ hc.2.2.2
    omega
   ·~k _ _ ((s1.trans s2).trans (cM hpp _)) (uI (s1.trans s2) (.cT (Jp hc.1 _) (Pu (s2.Ou _ _ rl) _)) hpp)
  ·cases q3
 ·cases q3⟩
end
end L2


namespace L2
open PySem PySem.Spec PySem.Calls PyProof.Rows PyProof.V
section
variable{K:aA}{X:Cx}{pos p0:Pos}
end
end L2


namespace L2
open PySem PySem.Spec PySem.Calls PyProof.Rows PyProof.V Builtin Builtin.ObjectAttr Builtin.Getset_descriptor
section
variable{P:Program}{w:World}{A:Around}{E:Value→Shared→Prop}{s:Shared}{K:aA}{x D:Addr}{ox:Obj}{od:Option Obj}
A9 Wl:builtinKind "BaseException.__getattribute__" = some .slot:=by kernel_rfl
A9 Te:splitId "BaseException.__getattribute__" = some ("BaseException", "__getattribute__"):=by decide +kernel
A9 Wm(nm:Value):argsOk "BaseException.__getattribute__" ⟨.ref x::[nm],[]⟩:=F.args_bexc_ga _ _
A9 Tf{M:Model}{nm:Value}{Q:Unit→Shared→Prop}(L:K0 M s.heap (isInstance (.ref x) (.type "BaseException")) true) (q:Q () s):wpAny M A (checkBuiltinCall "BaseException.__getattribute__" ⟨.ref x::[nm],[]⟩) Q E s:=by
 have h:=@PySem.W.check_slot M A E s "BaseException.__getattribute__" "BaseException" "__getattribute__" (.ref x) [nm] [] Q Wl Te L (Wm nm) q
 ~h
structure zL(K:aA)(D:Addr):Prop where
 ga:J6 K (.ref D) "__getattribute__" = some (some (.builtin "BaseException.__getattribute__"))
 gt:J6 K (.ref D) "__getattr__" = some none
 cl:J6 K (.ref D) "__class__" = some (some (.builtin "object.__class__"))
 sp:P4 K (.builtin "object.__class__") "__get__" = some (some (.builtin "getset_descriptor.__get__"))
 tk:U0 K (.builtin "object.__class__")=some true
 mr:Q0 K D (.type "object")=some true
 bx:Y9 K (.ref D) (.type "BaseException")=some true
 ct:(Q2 K D).isSome=true
A9 Wn{M:Model}{h:Heap}(X:K.In h)(C:zL K D):K0 M h (Builtin.ObjectAttr.find (.ref x) (.ref D) "__class__") (.bind (.builtin "getset_descriptor.__get__") (.builtin "object.__class__")):=by
 have L1:=R1 (M:=M) X C.cl
 have L2:K0 M h (Builtin.ObjectAttr.getOf (some (.builtin "object.__class__"))) (some (.builtin "getset_descriptor.__get__")):=PySem.W.looks_specialIn X C.sp
 have L3:=PySem.W.looks_takesIn (M:=M) X C.tk
 ~L1.andThen (L2.andThen ((show K0 M h (Builtin.ObjectAttr.dataDescriptor? (some (.builtin "object.__class__")) (some (.builtin "getset_descriptor.__get__"))) (some (.builtin "getset_descriptor.__get__", .builtin "object.__class__"))from L3.andThen .now).andThen (PySem.W.Looks.tag .now)))
A9 GJ{R:Result→Shared→Prop}(X:K.In s.heap)(T:K0 (model P w) s.heap (typeOf (.ref x)) (.ref D))(C:zL K D)(h:R (.ok (.ret (.ref D))) s):codeAny (model P w) A (.call (.builtin "getset_descriptor.__get__") ⟨[.builtin "object.__class__", .ref x,.ref D],[]⟩) R s:=by
 A7⟨hh,g,dr,t,os⟩:=s
 have L0:=T
 have L1:=PySem.W.looks_mroIn (M:=model P w) X C.mr
 &codeAny_call_builtin W2.plain PySem.W.KF.entry_gs (W2.check _ _ _ _ _ _ _ _ PySem.W.KF.type_class (PySem.W.KF.args_gs _ _ _) ?_)
 A8 Builtin.«getset_descriptor.__get__» descrGet
 rw[PySem.W.dga_obj]
 &wpAny_bind (wpAny_pure ?_)
 A8 descrGetter descrCheckInstance descrNameAndClass isInstance
 simp only[PySem.W.KF.owner_class]
 repeat lk
 &⟨Code.quiet_builtin _ A4,codeAny_builtin PySem.W.KF.entry_class ?_⟩
 A8 Builtin.«object.__class__» shownTypeOf
 repeat lk
 ~h
A9 Tg{tk:Tok}{Q:Fin→Shared→Prop}(X:K.In s.heap)(T:K0 (model P w) s.heap (typeOf (.ref x)) (.ref D))(C:zL K D)(h:Q (.done (.ret (.ref D))) s):wpAny (model P w) A (Builtin.«object.__getattribute__» ⟨[.ref x,.str "__class__" tk],[]⟩) Q E s:=by
 A7⟨hh,g,d,t,os⟩:=s
 have L0:=T
 have L3:=Wn (M:=model P w) (x:=x) X C
 A8 Builtin.«object.__getattribute__»
 &wpAny_bind (wpAny_pure ?_)
 &wpAny_bind (wpAny_pure ?_)
 &wpAny_bind (L0.at ?_)
 &wpAny_bind (L3.at ?_)
 show wpAny _ _ (holding [.builtin "object.__class__"] (call (.builtin "getset_descriptor.__get__") [.builtin "object.__class__", .ref x,.ref D]) >>= ret) _ _ _
 ~wpAny_bind (wpAny_holding (wpAny_call (GJ (s:=⟨hh,g,d,t,os⟩) X T C (wpAny_pure h))))
A9 Th{Q:Option Value→Shared→Prop}(X:K.In s.heap)(T:K0 (model P w) s.heap (typeOf (.ref x)) (.ref D))(C:zL K D)
  (h:Q (some (.ref D)) {s with toks:=s.toks+1}):wpAny (model P w) A (getAttr? (.ref x) "__class__") Q E s:=by
 A7⟨hh,g,d,t,os⟩:=s
 have L0:=T
 have L1:=R1 (M:=model P w) X C.ga
 have L2:=R1 (M:=model P w) X C.gt
 have L4:K0 (model P w) hh (isInstance (.ref x) (.type "BaseException")) true:=L0.andThen (PySem.W.looks_subIn X C.bx)
 have bnd:=F.excAttr_ValueError.ga.bind (.ref x)
 A8 getAttr? getAttrBy? getAttrBy
 &wpAny_bind (wpAny_mkText (wpAny_bind (wpAny_attempt (wpAny_holding (wpAny_bind (L0.at (wpAny_bind (L1.at ?_))))))))
 show wpAny _ _ (getAttrByItsOwn _ _ _ _ _ _) _ _ _
 A8 getAttrByItsOwn
 have e1:hookBefore (.ref D)=typeLookup (.ref D) "__getattr__" := rfl
 rw[e1]
 &wpAny_bind (L2.at (wpAny_bind (wpAny_attempt (wpAny_holding ?_))))
 have e2:∀nm,callGetattribute (.ref x) nm (.builtin "BaseException.__getattribute__") false=boundAndCalled (.builtin "BaseException.__getattribute__") (.ref x) nm:=fun _=>rfl
 rw[e2]
 A8 boundAndCalled
 rw[bnd]
 &wpAny_bind (wpAny_pure ?_)
 &wpAny_call (f:=.builtin "BaseException.__getattribute__") (pos:=[.ref x,.str "__class__" t]) (kw:=[]) (codeAny_call_builtin F.excAttr_ValueError.ga.plain F.entry_bexc_ga ?_)
 &Tf (s:=⟨hh,g,d,t+1,os⟩) L4 ?_
 &Tg (s:=⟨hh,g,d,t+1,os⟩) X T C ?_
 show wpAny _ _ (handedOut (.ref D)) _ _ _
 &PySem.W.handed_on rfl ?_
 ~wpAny_pure h
A9 PB{M:Model}{h:Heap}{e:Addr}{oe:Obj}{t:Value}(h1:h.get? e=some oe)(h2:oe.cls=t):K0 M h (typeOf (.ref e)) t:=h2▸(T4 h1).andThen .now
A9 Jq{e:Addr}(F:zL K D):PySem.W.KitX K (.ref e) (.ref D) (fun h=>∃oe,h.get? e=some oe∧oe.cls=.ref D) where
 ty:=fun _ _ _ ⟨oe,h1,h2⟩=>PB h1 h2
 it:=fun _ _ X _=>by
  A7⟨cd,hc⟩:=O5.mp F.ct
  A8 Q2 at hc
  split at hc
  ·rename_i ho
   intro A' Q' E' s' k q
   A8 isType loadHead
   ~wpAny_bind (wpAny_loadPart (k _ _ (X _ _ ho)) (wpAny_pure q))
  ·cases hc
 ne:=fun h tp dd its n sl X htp=>by
  A7⟨cd,hc⟩:=O5.mp F.ct
  &W7.mpr fun q=>?_
  have e:D=tp:=Value.ref.inj (beq_iff_eq.mp q)
  subst e
  A8 Q2 at hc
  split at hc
  ·rename_i ho
   have z:=(X _ _ ho).symm.trans htp
   cases z
  ·cases hc
 ca:=fun X ⟨oe,h1,h2⟩ k=>Th X (PB h1 h2) F k
end
section
variable{K:aA}{X:Cx}{κ:Nat→Addr}{pos p:Pos}
def YW(e C:Addr)(b:Bool):List V→Hp→VK→Prop:=fun xs H Q=>xs=[.ref e,.ref C]∧Q (.bl b) H
A9 YX{pn:List (Addr×Obj)}{e C D:Addr}{oe:Obj}{b:Bool}(hpn:X.pn=pn)(hm:(e,oe)∈pn)(hc:oe.cls=.ref D)(F:zL X.K D)(hk:O8 X.K (.ref D) (.ref C)=some b):iV X (.builtin "isinstance") (YW e C b):=by
 intro pins s σ H xs us Q I r h
 A7⟨rfl,q⟩:=h
 A7⟨u,w',rfl,rx,rt⟩:=vals2 r
 cases rt
 cases rx
 have hp:=(I.pin (e,oe) (I0 _ (by rw[hpn];~hm))).1
 ~F8 (Jq F) I.uA ⟨oe,hp,hc⟩ hk (fun z=>nomatch z) fun tk=>⟨.bl b,H,I.tok _,rfl,q⟩
def ZC(K:aA)(e:Addr)(cs:List Addr)(b:Bool):List V→Hp→VK→Prop:=fun xs H Q=>∃a,xs=[.ref e,.ref a]∧pI K H a (cs.map V.ref)∧Q (.bl b) H
A9 GK{cs:List Addr}:∀{us:List Value},Vals (cs.map V.ref) us→us=cs.map Value.ref:=by
 induction cs with
 | nil=>intro us h;cases h;rfl
 | cons c cs ih=>
  intro us h
  cases h with
  | cons h1 h2=>
   rw[ih h2]
   cases h1
   rfl
A9 Mx{pn:List (Addr×Obj)}{e D:Addr}{cs:List Addr}{oe:Obj}{b:Bool}(hpn:X.pn=pn)(hm:(e,oe)∈pn)(hc:oe.cls=.ref D)(F:zL X.K D)(hk:U9 X.K (.ref D) (cs.map Value.ref)=some b):iV X (.builtin "isinstance") (ZC X.K e cs b):=by
 intro pins s σ H xs us Q I r h
 A7⟨a,rfl,ht,q⟩:=h
 A7⟨u,w',rfl,rx,rt⟩:=vals2 r
 cases rt
 cases rx
 have hp:=(I.pin (e,oe) (I0 _ (by rw[hpn];~hm))).1
 A7⟨its,rv,pl,hz⟩:=I.tuple ht
 A7⟨o,h1,h2,n,h3⟩:=pl
 rw[GK rv]at h3
 A7⟨oc,dd,dt,sl⟩:=o
 dsimp only at h2 h3
 subst h2 h3
 ~PySem.W.kia_tup (Jq F) I.uA ⟨oe,hp,hc⟩ h1 hk (fun z=>nomatch z) fun tk=>⟨.bl b,H,I.tok _,rfl,q⟩
structure GP(K:aA)(X:Cx)(k:Nat)(ea:Addr)(e:Expr)(t:TE)(f:FE):Prop where
 hk:X.K=K
 pe:PE X e t
 ev:∀(σ:St)(H:Hp)(de:DE)(d:D)(Q:VK),pD K H de σ→σ[k]?=some (some (.ref ea))→f de=some d→(∀v H',aN H H'→Bf K H H' d v→Q v H')→t σ H Q
A9 qp{k:Nat}{ea:Addr}{e:Expr}{t:TE}{d:D}(h:XE K X k ea e t d)(hk:X.K=K:=by rfl):GP K X k ea e t (fC d):=⟨hk,h.pe,fun σ H de d' Q re hs q kk=>by cases q;~h.ev σ H Q hs kk⟩
A9 GQ{k:Nat}{ea C:Addr}{b:Bool}{e eT:Expr}(h:PE X e (jF k))(hT:PE X eT (tC (.ref C)))(qm:iV X (.builtin "isinstance") (YW ea C b)) (hg:Gl X "isinstance") (hm:X.mg "isinstance" = none) (hk:X.K=K:=by rfl) (hst:starEach (e::[eT]) X.env=(false,eval e X.env)::starEach [eT] X.env:=by rfl) (hst2:starEach [eT] X.env=(false,eval eT X.env)::starEach [] X.env:=by rfl)
  (hpl:(backTo pos (starEach [eT] X.env)).any (·.1)=false:=by rfl):GP K X k ea (.Call (.Name "isinstance" p) [e,eT] [] pos) (Zv (YW ea C b) (bV (jF k) (bV (tC (.ref C)) iM))) (fC (.bl b)):=
 ⟨hk,pM qm hg hm M6 (aV h (aV hT bI hst2) hst) A5 A5 hst hpl,fun σ H de d Q re hs q kk=>by
  cases q
  ~⟨_,hs,rfl,kk _ H (aN.refl _) (.eX rfl (by A8 Rv;rfl))⟩⟩
def Px:List Addr→TA
 | []=>iM
 | c::cs=>bV (tC (.ref c)) (Px cs)
A9 Jr{σ:St}{H:Hp}:∀{cs:List Addr} {Q:List V→Hp→Prop},Q (cs.map V.ref) H→Px cs σ H Q
 | [],Q,q=>q
 | c::cs,Q,q=>Jr (cs:=cs) (Q:=fun xs H1=>Q (.ref c::xs) H1) q
A9 Gj{k:Nat}{ea:Addr}{cs:List Addr}{b:Bool}{e eT:Expr}(hl:cs.length≤100)(h:PE X e (jF k))(hT:PE X eT (Uw (Px cs)))(qm:iV X (.builtin "isinstance") (ZC K ea cs b)) (hg:Gl X "isinstance") (hm:X.mg "isinstance" = none) (hk:X.K=K:=by rfl) (hst:starEach (e::[eT]) X.env=(false,eval e X.env)::starEach [eT] X.env:=by rfl) (hst2:starEach [eT] X.env=(false,eval eT X.env)::starEach [] X.env:=by rfl)
  (hpl:(backTo pos (starEach [eT] X.env)).any (·.1)=false:=by rfl):GP K X k ea (.Call (.Name "isinstance" p) [e,eT] [] pos) (Zv (ZC K ea cs b) (bV (jF k) (bV (Uw (Px cs)) iM))) (fC (.bl b)):=
 ⟨hk,pM qm hg hm M6 (aV h (aV hT bI hst2) hst) A5 A5 hst hpl,fun σ H de d Q re hs q kk=>by
  cases q
  &⟨_,hs,?_⟩
  &Jr ⟨jB (by rw[B3];omega),fun l hl=>?_⟩
  ~⟨l,rfl,pI.of bW,kk _ _ (cM hl _) (.eX rfl (by A8 Rv;rfl))⟩⟩
structure wz(K:aA)(X:Cx)(k:Nat)(ea:Addr)(es:List Expr)(t:TA)(fs:FA):Prop where
 hk:X.K=K
 pa:PA X es t
 ev:∀(σ:St)(H:Hp)(de:DE)(ds:List D)(Q:List V→Hp→Prop),pD K H de σ→σ[k]?=some (some (.ref ea))→fs de=some ds→(∀vs H',aN H H'→Bm K H H' ds vs→Q vs H')→t σ H Q
A9 Gk{k:Nat}{ea:Addr}(hk:X.K=K:=by rfl):wz K X k ea [] iM aG:=⟨hk,bI,fun σ H de ds Q re hs q kk=>by
 cases q
 ~kk [] H (aN.refl _) ⟨nil,by A8 gB;~⟨fun _ z=>z,rfl⟩,fun _ z=>z.elim⟩⟩
A9 qJ{k:Nat}{ea:Addr}{e:Expr}{es:List Expr}{t:TE}{tA:TA}{f:FE}{fs:FA}(h:GP K X k ea e t f)(hs:wz K X k ea es tA fs)(hst:starEach (e::es) X.env=(false,eval e X.env)::starEach es X.env:=by rfl):wz K X k ea (e::es) (bV t tA) (aB f fs):=⟨h.hk,aV h.pe hs.pa hst,fun σ H de ds Q re hσ q kk=>by
 A7⟨a,r,h1,h2,rfl⟩:=pU q
 &h.ev σ H de a _ re hσ h1 fun x H1 s1 n1=>hs.ev σ H1 de r _ (re.same s1) hσ h2 fun vs H2 s2 n2=>?_
 &kk _ H2 (s1.trans s2) ?_
 A7⟨A,oA,fA⟩:=n1
 A7⟨B,oB,fB⟩:=n2
 &⟨gZ A B,?_,fun p q=>q.elim (fA p) fun z=>s1.free (fB p z)⟩
 A8 gB
 &⟨x,vs,A,B,rfl,fun p qa qb=>?_,fun _=>Iff.rfl,oA.same s2,oB⟩
 A7⟨⟨o,e1⟩,_⟩:=Ow.cells _ _ _ oA p qa
 rw[fB p qb]at e1;cases e1⟩
A9 Gm{k:Nat}{ea:Addr}{es:List Expr}{tA:TA}{fs:FA}(h:wz K X k ea es tA fs):GP K X k ea (.List es pos) (Rn tA) (eG fs):=⟨h.hk,Lg h.pa,fun σ H de d Q re hs q kk=>by
 A8 eG at q
 A7⟨ds,h1,h2⟩:=aU q
 A7⟨hc,rfl⟩:=uH h2
 &h.ev σ H de ds _ re hs h1 fun xs H1 s1 n=>⟨jB (by rw[n.rv.length];~hc),fun p hp=>?_⟩
 ~kk _ _ (s1.trans (cM hp _)) (uI s1 n hp)⟩
A9 GR{k i:Nat}{ea:Addr}{e:Expr}{te:TE}{f:FE}{x:Str}{pos':Pos}(h:GP K X k ea e te f)(hp:PE X e te→PS X (.Assign [.Name x pos'] e pos) (nO te (cB i))):YE K X k ea [.Assign [.Name x pos'] e pos] (nO te (cB i)) (bD i f):=
 ⟨xP (hp h.pe),fun B D σ H env r hk q=>by
  A8 bD at q
  split at q
  ·rename_i d qf
   split at q
   ·rename_i hi
    ~h.ev σ H (rE env) d _ r.r hk qf fun v H' s n=>q _ _ (r.own hi s n)
   ·~q.elim
  ·~q.elim⟩
A9 Wo{k i:Nat}{ea:Addr}{e:Expr}{te:TE}{f:FE}{x:Str}{pos':Pos}{st:Stmt}{sts:List Stmt}{t:TS}{g:GS}(hki:i≠k)(h:GP K X k ea e te f)(hp:PE X e te→PS X (.Assign [.Name x pos'] e pos) (nO te (cB i)))(hr:YE K X k ea (st::sts) t g):YE K X k ea (.Assign [.Name x pos'] e pos::st::sts) (Rf (nO te (cB i)) t) (aQ (bD i f) g):=
 ⟨uC (hp h.pe) hr.ps,fun B D σ H env r hk q=>by
  cases qf:f (rE env)with
  | none=>
   have z:aQ (bD i f) g env=.bad:=by A8 aQ bD;rw[qf]
   rw[z]at q
   ~q.elim
  | some d=>
   by_cases hi:i<env.length
   ·have z:aQ (bD i f) g env=g (env.set i (.own d)):=by A8 aQ bD;rw[qf];dsimp only;rw[if_pos hi]
    rw[z]at q
    ~h.ev σ H (rE env) d _ r.r hk qf fun v H' s n=>hr.ev B D _ H' _ (r.own hi s n) (by rw[K5 hki];~hk) q
   ·have z:aQ (bD i f) g env=.bad:=by A8 aQ bD;rw[qf];dsimp only;rw[if_neg hi]
    rw[z]at q
    ~q.elim⟩
end
end L2


namespace L2
open PySem PySem.Spec PySem.Calls PyProof.Rows PyProof.V
section
variable{P:Program}{w:World}{K:aA}{mg:Str→Option Value}{base:Heap}{κ:Nat→Addr}
A9 Raw.GX{x:Str}{st:Stmt}{N ps:List Str}{k:Nat}{z:GZ}(R:Raw K mg x st)(S:bO N ps (aM st))
  (hb:∀(kV doc pm:Value)(an:Option Addr)(cdv ct:Value)(us:List Value),us.length=ps.length→bindArgs (G6 x x (fV st) (cQ st) (aM st) .none kV doc pm an cdv ct) ⟨us,[]⟩=pure (ps.zip us))
  (hbody:∀(f:Addr)(cdv:Value)(A:Around)(outer:List Env)(s:Shared)(H:Hp)(E:XK),kI k (A.deeper (envOfC x (aM st) s.heap.objs.size f cdv))→∃t,Wi K κ (jL (vV P w) P w K mg base N x (aM st) f cdv A outer s H E) E (cQ st) t z):Bu P w K mg base x (k+1) ps.length (Ui K κ ps.length (Sy N.length ps.length z)):=by
 A7⟨f,fd,F,m⟩:=R.ex
 have kp:=F.kp
 A7⟨oc,od,kV,doc,pm,an,cdv,ct,osl,rfl,lk,hcd⟩:=F.ex
 &⟨f,_,ps,rfl,MF lk hcd S (fun vs H Q E h=>?_) fun A outer s H vs Q E hr hsp=>?_,.all (hb kV doc pm an cdv ct),kp,m⟩
 ·A7⟨ds,d,h1,h2,_⟩:=h
  rw[h2.length];~h1
 A7⟨t,yb⟩:=hbody f cdv A outer s H E hr
 ~⟨t,yb.ps,qg yb hsp⟩
end
section
variable{K:aA}{κ:Nat→Addr}{X:Cx}{E:XK}{pos:Pos}
A9 HD{i:Nat}{x:Str}{e:Expr}{te:TE}{pos':Pos}{pins:List (Addr×Obj)}{σ:St}(hN:X.N.Nodup)(hi:X.N[i]?=some x)(hx:Loc X.env.scope x)(he:wy X pins σ e te)(hs:swapsWith e (some (.Name x pos')) pos.line X.env=pure false)(hf:X.fn x=true∨X.env.scope.names.lookup x=some .local) :
  PS1 X pins σ (.Assign [.Name x pos'] e pos) (nO te (cB i)):=by
 intro s H D I h
 &wpAny_Assign_Name (eY (he s H _ I h) fun v s1 ⟨y,H1,I1,r1,q1⟩=>?_) hs
 ~uB I1 hN hi hx r1 (fun s2 I2=>⟨_,H1,I2,q1⟩) hf
A9 ZD{i:Nat}{x:Str}{e:Expr}{te:TE}{pos':Pos}{zz:DE→Option Nat}(h:OJ K κ X E e te zz)(hN:X.N.Nodup)(hi:X.N[i]?=some x)(hx:Loc X.env.scope x)(hs:swapsWith e (some (.Name x pos')) pos.line X.env=pure false:=by rfl)(hf:X.fn x=true∨X.env.scope.names.lookup x=some .local:=by first | ~.inl rfl | ~.inr rfl | assumption):ZS K κ X E (.Assign [.Name x pos'] e pos) (nO te (cB i)) (zX zz):=
 ⟨fun pins σ hp=>HD hN hi hx (h.pe pins σ hp) hs hf,fun B D σ H env i r q k=>h.ev σ H (rE env) i _ r.r q k⟩
end
end L2


namespace L2
open PySem PySem.Spec PySem.Calls PyProof.Rows PyProof.V
def xf:D→Option String
  | .int _=>some "int" | .bl _=>some "bool" | .str _=>some "str" | .non=>some "NoneType" | .lst _=>some "list" | .tup _=>some "tuple" | .dk _ _=>some "dict"
  | _=>none
abbrev Py:List String:=["int", "bool", "str", "list", "tuple"]
def Ti(t T:String):Bool:=t==T||(t == "bool" && T == "int")
A9 oV{K:aA}:∀t∈["int", "bool", "str", "NoneType", "list", "tuple", "dict"],∀T∈Py,O8 K (.type t) (.type T)=some (Ti t T):=by
 intro t ht T hT
 simp only[G2,X6,or_false]at ht hT
 rcases ht with rfl | rfl | rfl | rfl | rfl | rfl | rfl<;>rcases hT with rfl | rfl | rfl | rfl | rfl<;>with_unfolding_all rfl
section
variable{K:aA}{X:Cx}{e:Expr}{t:TE}{f:FE}{pos:Pos}
def HF(T:String)(d:D):Option D:=if T∈Py then(xf d).map fun t=>.bl (Ti t T)else none
def mF(T:String)(f:FE):FE:=fun e=>(f e).bind (HF T)
def qt(K:aA)(T:String):List V→Hp→VK→Prop:=fun xs H Q=>T∈Py∧∃x d t,xs=[x,.ty T]∧Rv K H d x∧xf d=some t∧Q (.bl (Ti t T)) H
A9 ZF{T:String}(hk:X.K=K):iV X (.builtin "isinstance") (qt K T):=by
 subst hk
 intro pins s σ H xs us Q I r h
 A7⟨hT,x,d,t,rfl,rv,ht,q⟩:=h
 A7⟨u,w',rfl,rx,rt⟩:=vals2 r
 cases rt
 have fin:∀tk,EP X pins σ Q (.bool (Ti t T)) {s with toks:=tk}:=fun tk=>⟨.bl _,H,I.tok _,rfl,q⟩
 cases d with
 | non=>cases ht;A8 Rv at rv;subst rv;~rB I rx .non (oV _ A5 T hT) fin
 | bl b=>cases ht;A8 Rv at rv;subst rv;~rB I rx (.bl b) (oV _ A5 T hT) fin
 | int i=>cases ht;A8 Rv at rv;subst rv;~rB I rx (.int i) (oV _ A5 T hT) fin
 | str y=>cases ht;A8 Rv at rv;subst rv;~rB I rx (.str y) (oV _ A5 T hT) fin
 | lst ds=>
  cases ht
  A8 Rv at rv
  A7⟨a,xs,rfl,e2,_⟩:=rv
  cases(show u=Value.ref a from rx)
  A7⟨its,_,pl,_⟩:=I.list e2
  A7⟨o,n,h1,h2,_⟩:=pl
  ~F8 S7 I.uA ⟨o,h1,h2⟩ (oV _ A5 T hT) (fun z=>nomatch z) fin
 | tup ds=>
  cases ht
  A8 Rv at rv
  A7⟨a,xs,rfl,e2,_⟩:=rv
  cases(show u=Value.ref a from rx)
  A7⟨its,_,pl,_⟩:=I.tuple e2
  A7⟨o,h1,h2,_⟩:=pl
  ~F8 V7 I.uA ⟨o,h1,h2⟩ (oV _ A5 T hT) (fun z=>nomatch z) fin
 | dk ks ds=>
  cases ht
  A8 Rv at rv
  A7⟨a,xs,rfl,e2,_⟩:=rv
  cases(show u=Value.ref a from rx)
  A7⟨_,_,vs,_,p⟩:=jq I.hok e2
  A7⟨o,es,ep,h1,h2,_⟩:=p
  ~F8 S8 I.uA ⟨o,h1,h2.1⟩ (oV _ A5 T hT) (fun z=>nomatch z) fin
 | dt ks ds=>cases ht
 | ins C nm ds=>cases ht
A9 lD{T:String}{p:Pos}{eT:Expr}(h:XR K X e t f)(hT:PE X eT (tC (.ty T)))(hg:Gl X "isinstance") (hm:X.mg "isinstance" = none) (hst:starEach (e::[eT]) X.env=(false,eval e X.env)::starEach [eT] X.env:=by rfl) (hst2:starEach [eT] X.env=(false,eval eT X.env)::starEach [] X.env:=by rfl)
  (hpl:(backTo pos (starEach [eT] X.env)).any (·.1)=false:=by rfl):XN K X (.Call (.Name "isinstance" p) [e,eT] [] pos) (Zv (qt K T) (bV t (bV (tC (.ty T)) iM))) (mF T f):=
 ⟨h.hk,pM (ZF h.hk) hg hm M6 (aV h.pe (aV hT bI hst2) hst) A5 A5 hst hpl,fun σ H e d Q re q k=>by
  A8 mF at q
  A7⟨d0,q1,q2⟩:=aU q
  A8 HF at q2
  split at q2
  ·rename_i hT'
   A7⟨ty,q3,rfl⟩:=iZ q2
   &h.ev σ H H e d0 _ (Zn.self K H) re q1 fun v H1 Z1 s1 t1 z1 rv=>?_
   ~⟨hT',v,d0,ty,rfl,z1.sm.rv _ _ rv,q3,k _ H1 s1 (.eX rfl (by A8 Rv;rfl))⟩
  ·cases q2⟩
end
end L2


set_option maxHeartbeats 1000000
namespace L2
open PySem PySem.Spec PySem.Calls PyProof.Rows PyProof.V
A9 HH{lo hi:Option Int}{n:Nat}(hl:∀i,lo=some i→0≤i)(hh:∀j,hi=some j→0≤j):Builtin.Str.strSliceIndices lo hi 1 n=Builtin.Str.strSliceIndices (some ((HT.pJ n 0 lo:Nat):Int)) (some ((HT.pJ n n hi:Nat):Int)) 1 n:=by
 have k:∀(v:Option Int)(d:Nat),d≤n→(∀i,v=some i→0≤i)→(match v with | none=>(d:Int) | some i=>max 0 (min (if i<0 then i+(n:Int)else i) (n:Int)))=max 0 (min (if((HT.pJ n d v:Nat):Int)<0 then((HT.pJ n d v:Nat):Int)+(n:Int)else((HT.pJ n d v:Nat):Int)) (n:Int)):=by
  intro v d hd hv
  cases v with
  | none=>
   show (d:Int)=_
   rw[HT.Ux,if_neg A3]
   omega
  | some i=>
   have:=hv i rfl
   show max 0 (min (if i<0 then i+(n:Int)else i) (n:Int))=_
   rw[show HT.pJ n d (some i)=min i.toNat n from by show (if i<0 then _ else _)=_;rw[if_neg A3],if_neg A3,if_neg A3]
   omega
 have k1:=k lo 0 (O1 _) hl
 have k2:=k hi n (D2 _) hh
 A8 Builtin.Str.strSliceIndices
 simp only[show ((1:Int) > 0)=True from by simp,if_true]
 rw[←k1,←k2]
 cases lo<;>cases hi<;>rfl
def Wq(z:Str)(lo hi:Option Int):Str:=⟨(iY z.cps.toList lo hi).toArray⟩
A9 Wr{z:Str}{t:Tok}{l u:Option (Int×Tok)}(hl:∀i,l.map (·.1)=some i→0≤i)(hh:∀j,u.map (·.1)=some j→0≤j)(hab:HT.pJ z.length 0 (l.map (·.1))≤HT.pJ z.length z.length (u.map (·.1))) :
  sliceMade z t l u none=.str (Wq z (l.map (·.1)) (u.map (·.1)))∨(sliceMade z t l u none=.val (.str z t)∧Wq z (l.map (·.1)) (u.map (·.1))=z):=by
 have hlen:z.cps.toList.length=z.length:=K8
 have hb:HT.pJ z.length z.length (u.map (·.1))≤z.length:=by
  cases hu:u.map (·.1)with
  | none=>~D2 _
  | some j=>
   have:=hh j hu
   show (if j<0 then _ else min j.toNat z.length)≤_
   rw[if_neg A3]
   omega
 have e:slicePicked z l u none=Builtin.Str.strSliceIndices (some ((HT.pJ z.length 0 (l.map (·.1)):Nat):Int)) (some ((HT.pJ z.length z.length (u.map (·.1)):Nat):Int)) 1 z.length:=HH hl hh
 have cut:(slicePicked z l u none).filterMap (z.cps[·]?)=iY z.cps.toList (l.map (·.1)) (u.map (·.1)):=by
  rw[e,StrLaws.sliced_plain z hab hb]
  A8 iY
  rw[hlen]
 A8 sliceMade
 split
 ·rename_i c
  &.inr ⟨rfl,?_⟩
  rw[B4]at c
  have c:=beq_iff_eq.mp c.2
  rw[e,StrLaws.strSliceIndices_plain hab hb,B3,P5]at c
  A8 Wq iY
  rw[hlen]
  have a0:HT.pJ z.length 0 (l.map (·.1))=0:=by omega
  rw[a0,V0,W3,P8 A3]
 ·~.inl (by rw[cut];rfl)
A9 part_of{v:Value}{lo:Option Int}(h:IsPart v lo):∃l:Option (Int×Tok),l.map (·.1)=lo∧partValue l=v:=by
 cases h with
 | none=>~⟨none,rfl,rfl⟩
 | int i t=>~⟨some (i,t),rfl,rfl⟩
section
variable{K:aA}{X:Cx}{e:Expr}{t:TE}{f:FE}{pos p2:Pos}
def My(z:Str)(lo hi:Option Int):Prop:=(∀i∈lo.toList,0≤i)∧(∀j∈hi.toList,0≤j)∧HT.pJ z.length 0 lo≤HT.pJ z.length z.length hi∧z.length≤100000
instance:∀z lo hi,Decidable (My z lo hi):=fun z lo hi=>by A8 My;~inferInstance
def qu:V→Option Int→Option Int→Hp→VK→Prop:=fun x lo hi H Q=>∃z,x=.str z∧My z lo hi∧Q (.str (Wq z lo hi)) H
A9 ZG:vo X qu:=by
 intro pins s σ H x v vl vu lo hi sl Q I rx hs pl pu h
 A7⟨z,rfl,⟨h1,h2,h3,h4⟩,q⟩:=h
 A7⟨t,rfl⟩:=rx
 A7⟨l,rfl,rfl⟩:=part_of pl
 A7⟨u,rfl,rfl⟩:=part_of pu
 &⟨"str", _,F.slot_str_getitem.lookup,typeIs_str _ _ _,wpAny_getItem_str_slice (l:=l) (u:=u) (st:=none) hs rfl ?_⟩
 rcases Wr (z:=z) (t:=t) (l:=l) (u:=u) (fun i e=>h1 i (by rw[e];~F6.mpr rfl)) (fun j e=>h2 j (by rw[e];~F6.mpr rfl)) h3 with hm | ⟨hm,hc⟩
 ·rw[hm]
  &⟨?_,.str _,H,I.tok _,⟨_,rfl⟩,q⟩
  show (iY z.cps.toList _ _).toArray.size≤sizeLine
  rw[B7]
  have hl:z.cps.toList.length=z.length:=K8
  have:(iY z.cps.toList (l.map (·.1)) (u.map (·.1))).length≤z.length:=by
   A8 iY
   rw[J9,M4]
   omega
  ~F0 this (jB h4)
 ·rw[hm]
  rw[hc]at q
  ~⟨.str z,H,I,⟨_,rfl⟩,q⟩
def HJ(d:D)(lo hi:Option Int):Option D:=match d with
 | .str z=>if My z lo hi then some (.str (Wq z lo hi))else none
 | _=>none
def vX(f:FE)(fl fh:FO):FE:=fun e=>(f e).bind fun d=>(fl e).bind fun lo=>(fh e).bind fun hi=>HJ d lo hi
A9 oW{lo hi:Option Expr}{tl th:TO}{fl fh:FO}(h:XR K X e t f)(hl:XO K X lo tl fl)(hu:XO K X hi th fh):XN K X (.Subscript e (.Slice lo hi none p2) pos) (yp qu t tl th) (vX f fl fh):=⟨h.hk,Ii ZG h.pe hl.po hu.po,fun σ H e d Q re q k=>by
 A8 vX at q
 A7⟨d0,q1,qa⟩:=aU q
 A7⟨lo,q2,qb⟩:=aU qa
 A7⟨hi,q3,qc⟩:=aU qb
 clear q qa qb
 A8 HJ at qc
 split at qc
 ·split at qc
  ·rename_i c
   cases qc
   &h.ev σ H H e _ _ (Zn.self K H) re q1 fun v H1 Z1 s1 t1 z1 rv=>hl.ev σ H1 e lo _ (re.same s1) q2 fun H2 s2=>hu.ev σ H2 e hi _ (re.same (s1.trans s2)) q3 fun H3 s3=>?_
   A8 Rv at rv
   subst rv
   ~⟨_,rfl,c,k _ H3 (s1.trans (s2.trans s3)) (.eX rfl (by A8 Rv;rfl))⟩
  ·cases qc
 ·cases qc⟩
def Ws:V→List V→Hp→VK→Prop:=fun x vs H Q=>∃z y,x=.str z∧vs=[.str y]∧Q (.int (Txt.find z y)) H
A9 HN:ji X "str.find" Ws:=by
 intro pins s σ H x vs v us Q I rx rv h
 A7⟨z,y,rfl,rfl,q⟩:=h
 A7⟨t,rfl⟩:=rx
 A7⟨u,rfl,ru⟩:=rv.one
 A7⟨t',rfl⟩:=ru
 ~PySem.W.KXw.find rfl fun t' k=>⟨.int _,H,I.tok _,⟨_,rfl⟩,q⟩
def Pz(a b:D):Option D:=match a,b with
 | .str x,.str y=>some (.int (Txt.find x y))
 | _,_=>none
A9 HQ{a b:Expr}{ta tb:TE}{f g:FE}{m:Str}{apos cpos:Pos}(ha:XR K X a ta f)(hb:XR K X b tb g)(hp:PE X a ta→PE X b tb→PE X (.Call (.Attribute a m apos) [b] [] cpos) (Bl X.K "str" Ws ta (bV tb iM))):XN K X (.Call (.Attribute a m apos) [b] [] cpos) (Bl X.K "str" Ws ta (bV tb iM)) (f2 Pz f g):=
 ⟨ha.hk,hp ha.pe hb.pe,fun σ H e d Q re q k=>by
  A7⟨x,y,q1,q2,q3⟩:=mH q
  A8 Pz at q3
  split at q3
  ·cases q3
   &ha.ev σ H H e _ _ (Zn.self K H) re q1 fun v H1 Z1 s1 t1 z1 rx=>?_
   A8 Rv at rx
   subst rx
   &⟨rfl,hb.ev σ H1 H1 e _ _ (Zn.self K H1) (re.same s1) q2 fun v' H2 Z2 s2 t2 z2 ry=>?_⟩
   A8 Rv at ry
   subst ry
   ~⟨_,_,rfl,rfl,k _ H2 (s1.trans s2) (.eX rfl (by A8 Rv;rfl))⟩
  ·cases q3⟩
end
end L2


namespace L2
open PySem PySem.Spec PySem.Calls PyProof.Rows PyProof.V
section
variable{K:aA}{X:Cx}{pos:Pos}
A9 Qa{k:Nat}{ea:Addr}{a b:Expr}{op:Operator}{ta tb:TE}{f g:FE}{r:R2}{φ:D→D→Option D}(o:Dj K r φ)(hr:lQ X (binaryOp op) r)(ha:XR K X a ta f)(hb:GP K X k ea b tb g):GP K X k ea (.BinOp a op b pos) (Ck r ta tb) (f2 φ f g):=⟨ha.hk,Ur hr ha.pe hb.pe,fun σ H de d Q re hs q kk=>by
 A7⟨x,y,q1,q2,q3⟩:=mH q
 &ha.ev σ H H de x _ (Zn.self K H) re q1 fun v H1 Z1 s1 t1 z1 rv=>hb.ev σ H1 de y _ (re.same s1) hs q2 fun v' H2 s2 n2=>?_
 ~o _ _ _ _ _ _ _ (s2.rv _ _ (z1.sm.rv _ _ rv)) n2.rv q3 fun u H3 s3 n3=>kk u H3 ((s1.trans s2).trans s3) (n3.back (s1.trans s2))⟩
variable{κ:Nat→Addr}{sub:Gi}{n nj:Nat}
A9 qw(hn:n≤nj)(XM:∀i j,i<n→j<nj→B5 K (.ref (κ i)) (.ref (κ j))=some (sub i j))(hr:∀i,i<n→sub i i=true)(i j:Nat)(hi:i<n)(hj:j<nj):O8 K (.ref (κ i)) (.ref (κ j))=some (sub i j):=by
 have h:=XM i j hi hj
 A8 O8
 split
 ·rename_i q
  have e:=beq_iff_eq.mp q
  have h2:=XM i i hi (C3 hi hn)
  rw[←e,h2,hr i hi]at h
  ~h
 ·A8 B5 at h
  split at h
  ·~h
  ·cases h
A9 HR(hn:n≤nj)(XM:∀i j,i<n→j<nj→B5 K (.ref (κ i)) (.ref (κ j))=some (sub i j))(hr:∀i,i<n→sub i i=true)(i:Nat)(hi:i<n):∀js:List Nat,(∀j∈js,j<nj)→U9 K (.ref (κ i)) ((js.map κ).map Value.ref)=some (js.any (sub i))
 | [],_=>rfl
 | j::js,h=>by
  have h1:=qw hn XM hr i j hi (h j (D1 ..))
  have ih:=HR hn XM hr i hi js fun k hk=>h k (C5 _ hk)
  rw[D7,D7,Q1]
  A8 U9
  rw[h1]
  cases sub i j with
  | true=>rfl
  | false=>~ih
end
end L2


namespace L2
open PySem PySem.Spec PySem.Calls PyProof.Rows PyProof.V
A9 zM:∀{p:List Bool} {us:List Value},Vals (p.map V.bl) us→us=p.map Value.bool
 | [],us,h=>by cases h;rfl
 | b::p,us,h=>by
  cases h with
  | cons h1 h2=>
   rw[zM h2]
   cases h1
   rfl
A9 Tj{p q:List Bool}(hl:p.length=q.length):((K4 p.length).all fun i=>p.getD i false==q.getD i false)=decide (p=q):=by
 rw[F7,D9,decide_eq_true_iff]
 constructor
 ·intro h
  apply X5 hl
  intro i h1 h2
  have:=h i (N1.mpr h1)
  rw[F1,F1,B6 h1,B6 h2]at this
  ~beq_iff_eq.mp this
 ·rintro rfl i _
  simp
section
variable{K:aA}{X:Cx}
def ZJ(K:aA):R2:=fun x y H Q=>∃(a b:Addr)(p q:List Bool),x=.ref a∧y=.ref b∧mC K H a (p.map V.bl)∧mC K H b (q.map V.bl)∧Q (.bl (decide (p=q))) H
A9 ZK(hu:X.A.units+64<cLine):lQ X (compareOp .Eq) (ZJ X.K):=by
 intro pins s σ H x y v u Q I rx ry h
 A7⟨a,b,p,q,rfl,rfl,h1,h2,k⟩:=h
 cases rx
 cases ry
 A7⟨xK,v1,xT,_⟩:=I.list h1
 A7⟨its2,v2,Df,_⟩:=I.list h2
 have e1:=zM v1
 have e2:=zM v2
 subst e1 e2
 have rc:SeqAt.RcAt X.A s (.ref a) (.ref b) (decide (p=q)):=by
  by_cases hl:p.length=q.length
  ·have z:=SeqAt.RcAt.lists (e:=fun i=>p.getD i false==q.getD i false) (A:=X.A) (s:=s) xT.isList Df.isList (by simpa using hl) A3 (fun j h1 h2=>by
    have g1:j<p.length:=by simpa using h1
    have g2:j<q.length:=by simpa using h2
    have t1:(p.map Value.bool).toArray[j]=.bool (p.getD j false):=by
     rw[F1,B6 g1]
     simp
    have t2:(q.map Value.bool).toArray[j]=.bool (q.getD j false):=by
     rw[F1,B6 g2]
     simp
    rw[t1,t2]
    ~SeqAt.EqAt.bool_bool _ _)
   rw[B7,B3,Tj hl]at z
   ~z
  ·rw[decide_eq_false (fun z=>hl (by rw[z]))]
   ~SeqAt.RcAt.lists_lengths xT.isList Df.isList (by simpa using hl) A3
 ~rc X.prog X.w X.xe _ ⟨.bl _,H,I,rfl,k⟩
def Tn:List D→Option (List Bool)
 | []=>some []
 | .bl b::ds=>(Tn ds).map (b::·)
 | _=>none
def HS(a b:D):Option D:=match a,b with
 | .lst xs,.lst ys=>(Tn xs).bind fun p=>(Tn ys).map fun q=>.bl (decide (p=q))
 | _,_=>none
A9 Gn{H:Hp}:∀{ds:List D} {p:List Bool} {vs:List V},Tn ds=some p→cC K H ds vs→vs=p.map V.bl
 | [],p,vs,h,r=>by A8 Tn at h;cases h;A8 cC at r;~r
 | d::ds,p,vs,h,r=>by
  cases d<;>A8 Tn at h<;>first | cases h | skip
  A7⟨p',q1,rfl⟩:=iZ h
  A8 cC at r
  A7⟨y,ys,rfl,r1,r2⟩:=r
  A8 Rv at r1
  rw[r1,Gn q1 r2]
  rfl
A9 Wt:Dj K (ZJ K) HS:=fun x y H a b d Q ra rb q k=>by
 A8 HS at q
 split at q
 ·A7⟨p,q1,q2⟩:=aU q
  A7⟨p',q3,rfl⟩:=iZ q2
  A8 Rv at ra rb
  A7⟨la,xs,rfl,a1,a2⟩:=ra
  A7⟨lb,ys,rfl,b1,b2⟩:=rb
  rw[Gn q1 a2]at a1
  rw[Gn q3 b2]at b1
  ~⟨la,lb,p,p',rfl,rfl,a1,b1,k _ H (aN.refl _) (.eX rfl (by A8 Rv;rfl))⟩
 ·cases q
A9 Wu(hu:X.A.units+64<cLine)(hk:X.K=K):lQ X (compareOp .Eq) (ZJ K):=by subst hk;~ZK hu
A9 Wv{i:Nat}{x:Str}{e:Expr}{te:TE}{f:FE}{pos pos':Pos}(h:XR K X e te f)(hN:X.N.Nodup)(hi:X.N[i]?=some x)(hx:Loc X.env.scope x)(hs:swapsWith e (some (.Name x pos')) pos.line X.env=pure false:=by rfl)(hf:X.fn x=true∨X.env.scope.names.lookup x=some .local:=by first | ~.inl rfl | ~.inr rfl | assumption):YS K X (.Assign [.Name x pos'] e pos) (nO te (cB i)) (wQ i f):=DG h fun q=>aY hN hi hx q hs hf
end
end L2


namespace L2
open PySem PySem.Spec PySem.Calls PyProof.Rows PyProof.V
section
variable{K:aA}{X:Cx}{a e0 eM:Expr}{es:List Expr}{t0 tM:TE}{f0:FE}{gM:GM}{tA:TA}{fs:FA}{pos:Pos}{i:Nat}
end
end L2


namespace L2
open PySem PySem.Spec PySem.Calls PyProof.Rows PyProof.V
section
variable{K:aA}{X:Cx}{e1 e2:Expr}{t1 t2 te:TE}{f g fe:FE}{tc:TT}{fc:FT}{pos p p2:Pos}{x:Str}
end
end L2


namespace L2
open PySem PySem.Spec PySem.Calls PyProof.Rows PyProof.V
inductive Ap where
  | ch (i:Nat) (π:FP) | rd (f:FE) | nw (f:FE)
def xg:List Ap→DE→Option (List (Nat×List Step))
 | [],_=>some []
 | .ch i π::as,e=>(π e).bind fun p=>(xg as e).map fun r=>(i,p)::r
 | .rd _::as,e=>xg as e
 | .nw _::as,e=>xg as e
def xj:List Ap→DE→DE→Option (List D)
 | [],_,_=>some []
 | .ch _ _::as,eF,eZ=>xj as eF eZ
 | .rd f::as,eF,eZ=>(f eZ).bind fun d=>(xj as eF eZ).map fun r=>d::r
 | .nw f::as,eF,eZ=>(f eF).bind fun d=>(xj as eF eZ).map fun r=>d::r
def Qc(K:aA)(Z:Hp):List Ap→List V→List D→List V→Prop
 | [],cv,ds,vs=>cv=[]∧ds=[]∧vs=[]
 | .ch _ _::as,cv,ds,vs=>∃v cr r,cv=v::cr∧vs=v::r∧Qc K Z as cr ds r
 | .rd _::as,cv,ds,vs=>∃d dr v r,ds=d::dr∧vs=v::r∧Rv K Z d v∧Qc K Z as cv dr r
 | .nw _::as,cv,ds,vs=>∃d dr v r,ds=d::dr∧vs=v::r∧Rv K Z d v∧Qc K Z as cv dr r
def VsP(σ:St)(H:Hp):List (Nat×List Step)→List V→Prop
 | [],vs=>vs=[]
 | (j,p)::js,vs=>∃v0 v r,vs=v::r∧σ[j]?=some (some v0)∧Hw H p v0=some v∧VsP σ H js r
section
variable{K:aA}{X:Cx}{e:Expr}{es:List Expr}{te:TE}{f:FE}{tA:TA}{as:List Ap}{pos:Pos}{i:Nat}{π:FP}
def aAh(K:aA)(t:TA)(as:List Ap):Prop:=∀(A1:Fp)(σ:St)(H:Hp)(eF eZ:DE)(ds:List D)(ps:List (Nat×List Step))(cv:List V)(Q:List V→Hp→Prop),(∀x,A1 x→pR H x)→pD K H eF σ→pD K (out H A1) eZ σ→xg as eF=some ps→VsP σ H ps cv→xj as eF eZ=some ds →
 (∀vs H',aN H H'→Qc K (out H' A1) as cv ds vs→Q vs H')→t σ H Q
structure XAP(K:aA)(X:Cx)(es:List Expr)(t:TA)(as:List Ap):Prop where
 hk:X.K=K
 pa:PA X es t
 ev:aAh K t as
end
section
variable{K:aA}{H H' Z Z' B:Hp}{σ:St}
end
section
variable{K:aA}{X:Cx}{e:Expr}{es:List Expr}{tA:TA}{as:List Ap}{pos pf:Pos}
end
section
variable{K:aA}{X:Cx}{a b e:Expr}{ta tb te:TE}{g:FE}{gm:GM}{i:Nat}{π:FP}{pos pos':Pos}
end
end L2


namespace L2
open PySem PySem.Spec PySem.Calls PyProof.Rows PyProof.V
section
variable{K:aA}{te:TE}{f:FE}{i:Nat}{c:Int}
end
end L2


namespace L2
open PySem PySem.Spec PySem.Calls PyProof.Rows PyProof.V HT
section
variable{X:Cx}{K:aA}{e:Expr}{t:TE}{f:FE}{x y:Str}{p p2 pos pos2:Pos}
end
end L2


namespace L2
open PySem PySem.Spec PySem.Calls PyProof.Rows PyProof.V
def sU(base:Heap)(l:List Env)(e:Addr)(cls a0:Value)(h:Heap):Prop:=base.StaysIn h∧base.get? e=none∧h.FunFrames base l∧∃fl,h.TracedAtW base e cls a0 fl
section
variable{M:Model}{A:Around}{E:Value→Shared→Prop}{s:Shared}{base:Heap}{env:Env}{outer l:List Env}{L e:Addr}{cls a0:Value}
A9 Mz{Q:Unit→Shared→Prop}(hfr:A.frames=some (env::outer))(hf:env.frame=some L)(hh:sU base (env::outer) e cls a0 s.heap)
  (hQ:∀h',Heap.FlyingW base outer e cls a0 h'→s.heap.UpToSlots h'→Q () {s with heap:=h'}):wpAny M A (leaving env (.ref e)) Q E s:=by
 A7⟨f1,f2,f3,fl,f4⟩:=hh
 by_cases c:fl=rawInt L
 ·subst c
  A8 leaving
  &wpAny_bind (wpAny_noteFrame_againW hf f4 ?_)
  &wpAny_landsW ⟨f1,f2,f3,f4⟩ fun h' hfl up=>?_
  A7⟨k1,k2,⟨_,_,k3⟩,k4⟩:=hfl
  ~hQ h' ⟨k1,k2,k3,k4⟩ up
 ·A7⟨oe,vs,T,oT,ts,he,⟨hcls,h0⟩,hd,h1,hnT,hTe,hT,hdT,h3⟩:=f4
  subst hcls
  A8 leaving noteFrame
  simp only[hf]
  &wpAny_bind (wpAny_bind (wpAny_field he hd h1 ?_))
  rw[if_pos (show (Value.ref T != Value.none)=true from by simp)]
  &wpAny_bind (wpAny_field hT hdT h3 ?_)
  rw[if_neg (show ¬((fl==rawInt L)=true)from by simpa using c)]
  &wpAny_bind (wpAny_setField hT hdT (O0.mp h3).1 ?_)
  have other:∀b,b≠T→(s.heap.update T (Obj.mapFields (·.setIfInBounds 3 Value.none))).get? b=s.heap.get? b:=fun b hb=>Heap.get?_update_other _ _ (Ne.symm hb)
  have noRecord:∀b o,s.heap.get? b=some o→(∀vs,o.data≠.fields vs)→b≠T:=fun b o hb hnf q=>by
   rw[q,hT]at hb;injection hb with hb;subst hb;~hnf ts hdT
  &wpAny_newEntryW hfr (f3.of_keeps fun b o hb hnf=>⟨o,(other b (noRecord b o hb hnf)).trans hb,rfl⟩) hf ((other e (Ne.symm hTe)).trans he)
   (fun b o hbo=>(other b fun q=>by rw[q,hnT]at hbo;cases hbo).trans (f1 b o hbo)) f2 hd (O0.mp h1).1 h0
   fun h' ⟨x1,⟨_,_,x2⟩,x3,x4⟩=>hQ h' ⟨x1,f2,x2,x3⟩ fun b o hb hnf=>x4 b o ((other b (noRecord b o hb hnf)).trans hb) hnf
A9 zN{f:Option Addr}{Q:Unit→Shared→Prop}(hh:sU base l e cls a0 s.heap)(h:∀h',sU base l e cls a0 h'→s.heap.UpToSlots h'→Q () {s with heap:=h'}):wpAny M A (setFlight (.ref e) f) Q E s:=by
 A7⟨hkb,hen,hl,fl,oe,vs,T,oT,ts,he,hcls,hd,h1,hnT,hTe,hT,hdT,h3⟩:=hh
 have hsz3:3<ts.size:=(O0.mp h3).1
 have other:∀b,b≠T→(s.heap.update T (Obj.mapFields (·.setIfInBounds 3 (f.elim Value.none fun f=>rawInt f)))).get? b=s.heap.get? b:=
  fun b hb=>Heap.get?_update_other _ _ (Ne.symm hb)
 have noRecord:∀b o,s.heap.get? b=some o→(∀vs,o.data≠.fields vs)→b≠T:=fun b o hb hnf q=>by
  rw[q,hT]at hb;injection hb with hb;subst hb;~hnf ts hdT
 A8 setFlight
 &wpAny_bind (wpAny_field he hd h1 ?_)
 rw[if_pos (show (Value.ref T != Value.none)=true from by simp)]
 &wpAny_setField hT hdT hsz3 (h _ ⟨fun b o hbo=>(other b fun q=>by rw[q,hnT]at hbo;cases hbo).trans (hkb b o hbo),hen,
  hl.of_keeps fun b o hb hnf=>⟨o,(other b (noRecord b o hb hnf)).trans hb,rfl⟩,(f.elim Value.none fun f=>rawInt f),?_⟩ fun b o hb hnf=>⟨o.slots,(other b (noRecord b o hb hnf)).trans hb⟩)
 ~⟨oe,vs,T,_,_,(other e (Ne.symm hTe)).trans he,hcls,hd,h1,hnT,hTe,Heap.get?_update_self _ hT (Obj.isFreed_of_fields (Obj.data_mapFields hdT _)),Obj.data_mapFields hdT _,by simp[hsz3]⟩
A9 Nb{α:Type}{what:String}{cenv:Env}{Q:α→Shared→Prop}(hh:sU base l e cls a0 s.heap)(hE:∀h',sU base l e cls a0 h'→s.heap.UpToSlots h'→E (.ref e) {s with heap:=h'}):wpAny M A (Z7 what (.ref e) cenv:Sem α) Q E s:=by
 have hh':=hh
 A7⟨_,_,_,fl,oe,vs,T,oT,ts,he,hcls,hd,h1,hnT,hTe,hT,hdT,h3⟩:=hh
 A8 Z7
 &wpAny_bind (wpAny_field he hd h1 ?_)
 rw[if_neg (show ¬((Value.ref T==Value.none)=true)from by simp)]
 first
  | ~wpAny_bind (wpAny_pure (wpAny_bind (zN hh' fun h' x up=>wpAny_throw (hE h' x up))))
  | ~wpAny_bind (zN hh' fun h' x up=>wpAny_throw (hE h' x up))
A9 HW{env env':Env}{x:Value}(h:env.frame=env'.frame):noteFrame x env=noteFrame x env':=by
 A8 noteFrame PySem.frameOf
 rw[h]
A9 Qd{h h' base base':Heap}{C:Addr}(k:∀b,b≠C→h'.get? b=h.get? b)(kb:∀b,base.get? b=none→base'.get? b=none):∀{l:List Env},h.FunFrames base l→C∉frs l→h'.FunFrames base' l
 | [],_,_=>trivial
 | env::l,⟨h1,⟨L,o,hf,hb,ho,hd⟩,r⟩,hC=>by
  have e:frs (env::l)=L::frs l:=by A8 frs;rw[K1,hf]
  rw[e]at hC
  have hLC:L≠C:=fun z=>hC (z▸D1)
  ~⟨h1,⟨L,o,hf,kb L hb,(k L hLC).trans ho,hd⟩,Qd k kb r fun z=>hC (C5 _ z)⟩
A9 sU.but{h h' base base':Heap}{C:Addr}{oC:Obj}(x:sU base l e cls a0 h)(hC:h.get? C=some oC)(hCd:∀vs,oC.data≠.fields vs)(hCl:C∉frs l)(k:∀b,b≠C→h'.get? b=h.get? b)(kb:∀b o,base'.get? b=some o→base.get? b=some o∧b≠C):sU base' l e cls a0 h':=by
 A7⟨hkb,hen,hl,fl,oe,vs,T,oT,ts,he,hcls,hd,h1,hnT,hTe,hT,hdT,h3⟩:=x
 have kn:∀b,base.get? b=none→base'.get? b=none:=fun b hb=>by
  cases q:base'.get? b with
  | none=>rfl
  | some o=>rw[(kb b o q).1]at hb;cases hb
 have ne:∀{b:Addr} {o:Obj} {vs:Array Value},h.get? b=some o→o.data=.fields vs→b≠C:=fun{b o vs} q1 q2 z=>by
  rw[z,hC]at q1
  cases q1
  ~hCd _ q2
 &⟨fun b o q=>?_,kn e hen,Qd k kn hl hCl,fl,oe,vs,T,oT,ts,(k e (ne he hd)).trans he,hcls,hd,h1,kn T hnT,hTe,(k T (ne hT hdT)).trans hT,hdT,h3⟩
 A7⟨q1,q2⟩:=kb b o q
 ~(k b q2).trans (hkb b o q1)
end
structure Hl(l:List Env)(s1:Shared)(e:Addr)(cls:Value)(s':Shared):Prop where
 held:∃a0,sU (vU s1.heap l) l e cls a0 s'.heap
 up:s1.heap.UpToSlots s'.heap
 os:s'.os=s1.os
 bare:AllBare s'.gens
def Ww(X:Cx)(E:XK):Prop:=∀(pins:List (Addr×Obj))(σ:St)(H:Hp)(s1:Shared)(e:Addr)(cls:Value)(s':Shared),Inv X pins σ H s1→Hl X.stack s1 e cls s'→E cls none H→X.xe (.ref e) s'
section
variable{P:Program}{w:World}{K:aA}{mg:Str→Option Value}{base:Heap}{N:List Str}{qual:Str}{scope:Scope}{f:Addr}{cd:Value}{A:Around}{outer:List Env}{s0:Shared}{H0:Hp}{E:XK}
A9 vY:Ww (jL (vV P w) P w K mg base N qual scope f cd A outer s0 H0 E) E:=fun pins σ H s1 e cls s' I1 hl q=>by
 A7⟨a1,a2,a3,a4,a5,a6,a7,a8⟩:=zK I1
 A7⟨a0,held⟩:=hl.held
 &Mz I1.ok.frames rfl held fun h' fl' up=>?_
 ~Gf rfl a8 a1 a2 a3 a4 a5 a6 a7 fl' (hl.up.trans up) hl.os hl.bare rfl q
end
A9 qK{prog:Program}{w:World}{A:Around}{R:Result→Shared→Prop}{s:Shared}{elt target iter:Expr}{scope:Scope}{pos:Pos}{it acc:Value}{env:Env}{NE:Value→Shared→Prop}(I:Nat→Shared→Prop)
  (hNE:∀e s',NE e s'→notedBy (model prog w) A env (fun x s''=>R (.error x) s'') e s')
  (turn:∀n s,I n s→wpAny (model prog w) A (pyNext it) (fun r s₁=>match r with
   | none=>R (.ok .next) s₁
   | some v=>wpAny (model prog w) A (letOwnedTupleGo target it v) (fun _ s₀=>wpAny (model prog w) A (assign target env v) (fun _ s₂=>
     wpAny (model prog w) A (eval elt env) (fun x s₄=>
       wpAny (model prog w) A (call (.builtin "list.append") [acc,x]) (fun _ s₅=>∃m,m<n∧I m s₅) (fun _ _=>False) s₄) NE s₂) (fun _ _=>False) s₀) (fun _ _=>False) s₁) (fun _ _=>False) s)
  (n:Nat) (h:I n s) :
  codeAny (model prog w) A (.compLoop (.ListComp elt [⟨target,iter,[],0⟩] scope pos) 0 it acc env) R s:=by
 &codeAny_loop rfl I (fun n s hI=>?_) n h
 show wpAny _ A ((compTurn (.ListComp elt [⟨target,iter,[],0⟩] scope pos) 0 it acc env).onRaise (fun x=>do noteFrame x env;theTreesLotGoes x)) _ _ s
 &wpAny_noted ?_
 rw[compTurn_list]
 &wpAny_mono (E:=NE) ?_ (fun _ _ q=>q) hNE
 &wpAny_bind (wpAny_standAt (wpAny_bind (wpAny_mono (turn n s hI) (fun r s₁ h₁=>?_) fun _ _ h'=>h'.elim)))
 cases r with
 | none=>~wpAny_pure h₁
 | some v=>
  &wpAny_bind (wpAny_mono h₁ (fun _ s₀ h₀=>?_) fun _ _ h'=>h'.elim)
  &wpAny_bind (wpAny_mono h₀ (fun _ s₂ h₂=>wpAny_bind (wpAny_tests_nil ?_)) fun _ _ h'=>h'.elim)
  ~wpAny_bind (wpAny_bind (wpAny_mono h₂ (fun x s₄ h₄=>wpAny_bind (wpAny_mono h₄ (fun _ s₅ h₅=>wpAny_pure (wpAny_pure ⟨rfl,h₅⟩)) fun _ _ h'=>h'.elim)) fun _ _ h'=>h'))
def Wx(J:It)(k:Nat)(fr:List Nat)(g:TG)(te tz:TE)(σ:St)(H1:Hp)(D:Addr):Prop:=∃W:Nat→Nat→List V→Hp→Prop,(∃m,W 0 m [] (upd H1 D (.lst []))) ∧
 ∀i m ys H,W i m ys H→H D=some (.lst ys)∧J.go i H∧∀x H',J.fj i H x H'→g x (blk k σ fr) H' fun σ2 H2=>Kp k σ fr σ2 ∧
  ((te σ2 H2 fun y H4=>H4 D=some (.lst ys)∧ys.length<sizeLine∧∃m',m'<m∧W (i+1) m' (ys++[y]) (upd H4 D (.lst (ys++[y]))))∨tz σ2 H2 fun _ _=>False)
def Nf(wi:TI)(k:Nat)(fr:List Nat)(g:TG)(te tz:TE):TS:=fun _ σ H=>wi σ H fun J H1=>∀D,H1 D=none→Wx J k fr g te tz σ H1 D
section
variable{X:Cx}{EE:XK}
A9 Tp{tg elt iter:Expr}{scope:Scope}{pos:Pos}{N:List Str}{k:Nat}{fr:List Nat}{g:TG}{te tz:TE}{cl:List (Str×Addr)}{pins:List (Addr×Obj)}{σ:St}{H:Hp}{s:Shared}{it:Addr}{fp:List Addr}{tn:Nat→Heap→Prop}{J:It}
    {RR:Value→Addr→Result→Shared→Prop} {E:Value→Shared→Prop} {env0:Env} {out:List Env} {L:Addr} (hst:X.stack=env0::out) (ie:env0.frame=some L) (hfe:X.env.frame=some L) (hcalm:X.calm=true) (I:Inv X pins σ H s) (T:Turn X.prog X.w X.K tg J fp it tn) (st:tn 0 s.heap) (hf:∀b∈fp,xG X pins H b) (B:dC X.env.scope scope X.N N k fr)
    (hcl:∀x c,cl.lookup x=some c→(x,NameKind.free)∈scope.names∧X.env.cells.lookup x=some c) (Rz:∀x,(x,NameKind.free)∈scope.names→∃c,cl.lookup x=some c)
    (hg:∀cl fp s H C,PG (bR X scope N cl fp s H C) tg g) (he:∀cl fp s H C,PE (bR X scope N cl fp s H C) elt te)
    (hz:∀cl fp s H C xe pins σ,Dv (vV X.prog X.w) ((bR X scope N cl fp s H C).wish xe) pins σ EE→wy ((bR X scope N cl fp s H C).wish xe) pins σ elt tz)
    (hw:∀D,H D=none→Wx J k fr g te tz σ H D)
    (hRR:∀D C m oC s1 s' H' e cls,s'.heap.Ns C m→s'.heap.get? C=some oC→(∀vs,oC.data≠.fields vs)→s.heap.objs.size≤C→H' C=none→Inv X pins σ H' s1→Hl X.stack s1 e cls s'→EE cls none H'→RR (.ref D) C (.error (.ref e)) s') :
    wpAny (model X.prog X.w) X.A (newList []) (fun acc s₃=>wpAny (model X.prog X.w) X.A (newFunctionEnv scope X.env.globals cl [] X.env.qual none .none (some X.env)) (fun cenv s₄=>
      codeAny (model X.prog X.w) X.A (.compStart (.ListComp elt [⟨tg,iter,[],0⟩] scope pos) 0 (.ref it) acc {cenv with scope:=relabel scope X.env}) (RR acc cenv.locals) s₄) E s₃) E s:=by
  &wpAny_newObj_type (wpAny_newFunctionEnv B.cell (by intro y hy;simp at hy) (fun h₁ hns₁ hsb₁=>?_) B.kind)
  dsimp only at hns₁ hsb₁ ⊢
  rw[Heap.size_push]at hns₁ hsb₁ ⊢
  have hfo:∀b∈fp,b<s.heap.objs.size:=fun b hb=>by
    A7⟨o,e,_⟩:=T.obj 0 _ st b hb
    ~Heap.lt_size e
  have I4:=yO (tk:=s.toks+([]:List (Str×Value)).length) I B hf hfo hcl Rz hns₁ hsb₁
  generalize hD:s.heap.objs.size=D at *
  have yx:H D=none:=by rw[←hD];~I.fresh
  A7⟨W,⟨m0,w0⟩,turn⟩:=hw D yx
  have st1:tn 0 h₁:=T.keep 0 _ _ st fun b hb o e=>hsb₁.extBut b o (F2 (N5 (by have:=hfo b hb;~this))) (Heap.get?_push_of_some _ (Heap.get?_push_of_some _ e))
  have yz:∀b∈fp,(upd H D (.lst [])) b=none:=fun b hb=>by
    rw[bH (F2 (hfo b hb))]
    ~(hf b hb).1
  generalize hX':bR X scope N cl fp s H (D+1)=X' at I4
  have stat:∀{H':Hp},(∀b∈fp,H' b=none)→∀b∈fp,xG X' [] H' b:=fun{H'} hn b hb=>by
    subst hX'
    &⟨hn b hb,?_,fun z=>?_,.inl hb,fun x c e=>(hf b hb).2.2.2.2.1 x c (hcl x c e).2,fun p hp=>absurd (show p∈([]:List (Addr×Obj))from hp) (by simp)⟩
    · ~F2 (N5 (hfo b hb))
    · rcases G2.mp (I.sW b z)with z | z
      · ~(hf b hb).2.1 z
      · ~(hf b hb).2.2.1 z
  have e1:X'.prog=X.prog:=by rw[←hX'];rfl
  have e2:X'.w=X.w:=by rw[←hX'];rfl
  have e3:X'.K=X.K:=by rw[←hX'];rfl
  have e4:X'.A=X.A:=by rw[←hX'];rfl
  have e5:X'.calm=true:=by rw[←hX'];~hcalm
  have e6:X'.env=compEnvC scope cl (D+1) X.env:=by rw[←hX'];rfl
  have e7:X'.xe=fun _ _=>False:=by rw[←hX'];rfl
  have e8:X'.stack=X.stack:=by rw[←hX'];rfl
  have loop:∀s₃:Shared,s₃={s with heap:=h₁,toks:=s.toks+([]:List (Str×Value)).length} →
      codeAny (model X.prog X.w) X.A (.compLoop (.ListComp elt [⟨tg,iter,[],0⟩] scope pos) 0 (.ref it) (.ref D) (compEnvC scope cl (D+1) X.env)) (RR (.ref D) (D+1)) s₃:=by
    rintro s₃ rfl
    &qK (NE:=notedBy (model X.prog X.w) X.A (compEnvC scope cl (D+1) X.env) fun x s''=>RR (.ref D) (D+1) (.error x) s'') (fun n s'=>∃i ys H',Inv X' [] (blk k σ fr) H' s'∧tn i s'.heap∧(∀b∈fp,H' b=none)∧W i n ys H') (fun _ _ z=>z) ?_ m0 ⟨0,[],_,I4,st1,yz,w0⟩
    rintro n s5 ⟨i,ys,H5,I5,st5,fr5,w5⟩
    A7⟨hys,go,step⟩:=turn i n ys H5 w5
    have d:=T.item X' e1 e2 e3 e5 i [] s5 _ H5 (fun _ _=>False) I5 (stat fr5) st5 go
    rw[e4]at d
    &eY d fun r s6 ⟨u,hr,h6⟩=>?_
    subst hr
    &eY h6 fun _ s7 ⟨x,H7,I7,r7,y7,st7,fr7⟩=>?_
    have zb:=I7.pinned (stat fr7) (T.obj _ _ st7)
    have hg':PG X' tg g:=by rw[←hX'];~hg _ _ _ _ _
    have he':PE X' elt te:=by rw[←hX'];~he _ _ _ _ _
    have a1:=hg' _ s7 _ H7 x u _ zb r7 (step x H7 y7)
    rw[e1,e2,e4,e6,e7]at a1
    &eY a1 fun _ s8 ⟨σ8,H8,I8,⟨kl,kk⟩,q8⟩=>?_
    have again:∀{Ha:Hp} {ya:List V} {sa:Shared},Inv X' ([]++sX fp s7.heap) σ8 Ha sa→(∃m',m'<n∧W (i+1) m' ya Ha) →
        ∃m,m<n∧∃i ys H',Inv X' [] (blk k σ fr) H' sa∧tn i sa.heap∧(∀b∈fp,H' b=none)∧W i m ys H':=fun{Ha ya sa} Ia ⟨m',hm,w'⟩=>by
      &⟨m',hm,i+1,ya,Ha,(Ia.weak kl.symm kk).pL,T.keep _ _ _ st7 fun b hb o e=>(Ia.pin (b,o) (C9 _ (C9 _ (jK hb e)))).1,fun b hb=>?_,w'⟩
      A7⟨o,e,d⟩:=T.obj _ _ st7 b hb
      ~(Ia.pin (b,o) (C9 _ (C9 _ (jK hb e)))).2.1
    rcases q8 with q8 | q8
    · have a3:=he' _ s8 σ8 H8 _ I8 q8
      rw[e1,e2,e4,e6,e7]at a3
      &wpAny_mono a3 (fun v zc ⟨y,H10,I10,r10,hD10,hz,q10⟩=>?_) fun _ _ z=>z.elim
      have a4:=jM (X:=X') _ zc σ8 H10 (.ref D) [y] (.ref D) [v] (fun _ jw=>jw=upd H10 D (.lst (ys++[y]))) I10 rfl (.cons r10 .nil) ⟨D,ys,y,rfl,rfl,hD10,hz,rfl⟩
      rw[e1,e2,e4,e7]at a4
      &eY a4 fun _ s11 ⟨_,jw,I11,_,e11⟩=>?_
      subst e11
      ~again I11 q10
    · have hz':=hz cl fp s H (D+1) (notedBy (model X.prog X.w) X.A (compEnvC scope cl (D+1) X.env) fun x s''=>RR (.ref D) (D+1) (.error x) s'') ([]++sX fp s7.heap) σ8 ?_ s8 H8 _ (by rw[hX'];~I8.wish _) q8
      · &wpAny_mono hz' (fun v s9 ⟨_,_,_,_,z⟩=>z.elim) fun _ _ z=>z
      intro H9 s9 ev s' I9 c9
      A7⟨e,cls,H',s1,rfl,I1,fl,q⟩:=I9.ghost c9
      have I1:=I1.oK
      rw[hX']at I1
      have fl:Fl X.stack s1 e cls s':=fl
      A7⟨a0,wV⟩:=fl.wV
      show wpAny _ _ (noteFrame (.ref e) (compEnvC scope cl (D+1) X.env)) _ _ s'
      rw[HW (env':=env0) (show (compEnvC scope cl (D+1) X.env).frame=env0.frame from hfe.trans ie.symm)]
      have hCs:D+1∉frs X.stack:=fun z=>by
        rcases G2.mp (I.sW _ z)with y | y
        · have:=I.lt
          rw[hD,←y]at this
          ~absurd this (Nat.not_lt.mpr (P6 D))
        · ~I.QH (a:=D+1) (by rw[hD];~P6 D) y
      A7⟨m1,hn1,_⟩:=I1.loc
      rw[e6]at hn1
      A7⟨oC,es,ep,ho,hd,r⟩:=hn1
      have hoF:(vU s1.heap X.stack).get? (D+1)=some oC:=nU ho hCs
      have fr:X.A.frames=some (env0::out):=by rw[←hst];~I.ok.frames
      rw[hst]at wV hoF
      &wpAny_looks_onW fr ie wV fun h' held up=>?_
      have hoC:=held.1 (D+1) oC hoF
      have nfd:∀vs,oC.data≠.fields vs:=fun vs z=>by rw[hd]at z;cases z
      &hRR D (D+1) m1 oC s1 _ H' e cls ⟨oC,es,ep,hoC,hd,r⟩ hoC nfd A3 ?_ ?_ ⟨⟨a0,?_⟩,fl.up.trans up,fl.os,fl.bare⟩ q
      · have:=I1.free
        rw[e6]at this
        ~this
      · subst hX'
        ~I.call' I1.os I1.base I1.hok I1.bare fun b hb=>⟨(hf b hb).2.2.2.1,(hf b hb).2.1,(hf b hb).2.2.2.2.1,(hf b hb).2.2.2.2.2⟩
      · rw[hst]
        A7⟨x1,x2,x3,x4⟩:=held
        ~⟨x1,x2,x3,_,x4⟩
  ~codeAny_compStart_list (loop _ rfl) (T.self _ 0 _ _ _ st1 (loop _ rfl))
A9 Wy{tg elt iter:Expr}{scope:Scope}{pos spos py:Pos}{y:Str}{wi:TI}{g:TG}{te tz:TE}{env0:Env}{out:List Env}{L:Addr}(N:List Str)(k:Nat)(fr:List Nat)(hst:X.stack=env0::out)(ie:env0.frame=some L)(hfe:X.env.frame=some L)(hx:Ww X EE)(hcalm:X.calm=true)(B:dC X.env.scope scope X.N N k fr)(hi:PI X tg iter wi)
  (hg:∀cl fp s H C,PG (bR X scope N cl fp s H C) tg g) (he:∀cl fp s H C,PE (bR X scope N cl fp s H C) elt te)
  (hz:∀cl fp s H C xe pins σ,Dv (vV X.prog X.w) ((bR X scope N cl fp s H C).wish xe) pins σ EE→wy ((bR X scope N cl fp s H C).wish xe) pins σ elt tz)
  (hsw:swapsWith (.ListComp elt [⟨tg,iter,[],0⟩] scope pos) (some (.Name y py)) spos.line X.env=pure true:=by rfl)
  (hs:∀x,foldedSetIterable iter X.env x=pure x:=by intro _;rfl) :
  PS X (.Assign [.Name y py] (.ListComp elt [⟨tg,iter,[],0⟩] scope pos) spos) (Nf wi k fr g te tz):=by
 intro pins s σ H D I h
 A7⟨cl,e,h1,h2⟩:=nA scope X.env fun y hy hk=>I.ok.has y.1 (B.free y hy hk)
 rw[exec_Assign_Name_used _ _ _ _ hsw]
 &wpAny_bind (wpAny_standAt (wpAny_bind ?_))
 show wpAny _ X.A (do let _ ←comprehension (.ListComp elt [⟨tg,iter,[],0⟩] scope pos) scope X.env _ (newList []) false (eval iter X.env) (some (assign (.Name y py) X.env))) _ _ s
 &wpAny_bind (wpAny_mono (wpAny_comprehension_free (use:=some (assign (.Name y py) X.env)) (Q:=fun _ s'=>SP X pins D .next s') rfl hs e B.kind B.loc
  (wpAny_mono (hi pins s σ H _ I h) (fun xv s₁ q₁=>wpAny_mono q₁ (fun itv s₂ q₂=>?_) fun _ _ x=>x) fun _ _ x=>x)) (fun _ s' hq=>wpAny_pure (wpAny_pure hq)) fun _ _ x=>x)
 A7⟨it,fp,tn,J,H2,rfl,I2,T,st2,f2,hw⟩:=q₂
 &Tp (EE:=EE) (RR:=fun acc C=>compPost (model X.prog X.w) X.A X.xe (some (assign (.Name y py) X.env)) (fun _ s'=>SP X pins D .next s') acc C) hst ie hfe hcalm I2 T st2 f2 B h1 h2 hg he hz hw ?_
 intro Dd C m oC s1 s' H' ex cls hn hoC hCd hC hfr I1 hl q
 have hCs:C∉frs X.stack:=fun z=>by
  rcases G2.mp (I2.sW _ z)with y | y
  ·~absurd (C3 I2.lt hC) (by rw[y];~G3 _)
  ·~I2.QH hC y
 &⟨m,hn,fun h' hs' cenv hce=>?_⟩
 A7⟨a0,held⟩:=hl.held
 have hid:∀b o,(O2 s1.heap [C]).get? b=some o→s1.heap.get? b=some o∧b≠C:=fun b o qb=>⟨S1 _ qb,fun z=>by
  rw[z,Q8 [C] D1]at qb
  cases qb⟩
 have qy:sU (vU (O2 s1.heap [C]) X.stack) X.stack ex cls a0 h':=held.but hoC hCd hCs hs'.2 fun b o qb=>by
  A7⟨q1,q2⟩:=xY qb
  A7⟨q3,q4⟩:=hid b o q1
  ~⟨nU q3 q2,q4⟩
 &Nb (s:={s' with heap:=h'}) qy fun h'' ZL up=>?_
 &hx pins σ H' {s1 with heap:=O2 s1.heap [C]} ex cls _ ?_ ⟨⟨a0,ZL⟩,?_,hl.os,hl.bare⟩ q
 ·~I1.turned (t':=s1.toks) (fun b o hb eb=>R6 _ eb fun z=>hb (F6.mp z)) hfr (N6 (C3 I2.lt hC)) (.inr (F0 I2.sz hC)) (fun x c ec z=>by
   A7⟨v,q⟩:=I2.cell x c ec
   ~absurd (C3 q.lt (by rw[z];~hC)) (G3 _)) fun p hp z=>absurd (C3 (Heap.lt_size (I2.pin p hp).1) (by rw[z];~hC)) (G3 _)
 ·intro b o qb hnf
  A7⟨q1,q2⟩:=hid b o qb
  A7⟨sl,z⟩:=hl.up b o q1 hnf
  have z:s'.heap.get? b=some {o with slots:=sl}:=z
  rw[←hs'.2 b q2]at z
  A7⟨sl',z'⟩:=up b _ z hnf
  ~⟨sl',z'⟩
end
def zO(el:D→Option D)(ez:D→Option Nat):List D→Option Nat
 | []=>none
 | x::xs=>match ez x with
  | some i=>some i
  | none=>(el x).bind fun _=>zO el ez xs
def qL(fi:FA)(fr:List Nat)(fe:FE)(fz:DE→Option Nat):GZ:=fun env=>(fi (rE env)).bind fun xs=>if xs.length≤100000 then zO (fun x=>fe (some x::iD (rE env) fr)) (fun x=>fz (some x::iD (rE env) fr)) xs else none
section
variable{K:aA}{κ:Nat→Addr}{X:Cx}{E:XK}
A9 HX{wi:TI}{fi:FA}{fr:List Nat}{te tz:TE}{fe:FE}{fz:DE→Option Nat}(hi:vy K wi fi)(he:Dh K te fe)(hz:∀(σ:St)(H:Hp)(de:DE)(i:Nat)(Q:VK),pD K H de σ→fz de=some i→(∀H',aN H H'→E (.ref (κ i)) none H')→tz σ H Q):DZ K κ E (Nf wi 1 fr (cB 0) te tz) (qL fi fr fe fz):=fun B D σ H env ii r q kk=>by
 A8 qL at q
 A7⟨xs,q1,q⟩:=aU q
 split at q
 case isFalse=>cases q
 rename_i hlen
 have re:=r.r
 have hB:=r.sub
 &hi σ H H (rE env) xs _ (Zn.self K H) re q1 fun J H1 Z1 P vs s1 t1 z1 hJ hP rvs=>?_
 intro D0 hD
 have hl:=rvs.length
 generalize hel:(fun x=>fe (some x::iD (rE env) fr))=el at q
 generalize hez:(fun x=>fz (some x::iD (rE env) fr))=ez at q
 &⟨fun i m ys H2=>m=vs.length-i∧i≤vs.length∧zO el ez (xs.drop i)=some ii∧aN H1 H2∧H2 D0=some (.lst ys)∧ys.length≤i,
  ⟨vs.length,by simp,O1 _,by simpa using q,cM hD _,bW,D2 _⟩,?_⟩
 rintro i m ys H2 ⟨rfl,hi',hcl,s2,hD2,hyl⟩
 A7⟨j1,j2,j3⟩:=hJ i H2 (hP H2 (z1.sm.trans s2))
 have hlt:i<vs.length:=by
  &Nat.lt_of_not_le fun z=>?_
  rw[U4 A3]at hcl
  A8 zO at hcl
  cases hcl
 &⟨hD2,j1 hlt,fun x H' y=>?_⟩
 A7⟨e1,ex⟩:=j2 x H' y
 subst e1
 have hx:=ex hlt
 have hxi:i<xs.length:=by omega
 have hxs:xs.drop i=xs[i]::xs.drop (i+1):=L7 hxi
 A7⟨x',hx',rx⟩:=rvs.get (B6 hxi)
 rw[hx]at hx'
 cases hx'
 rw[hxs]at hcl
 A8 zO at hcl
 show Kp 1 σ fr (some x::Fe σ fr)∧_
 &⟨⟨by simp[blk],fun j v hv=>?_⟩,?_⟩
 ·cases j with
  | zero=>simp[blk]at hv
  | succ j=>simpa[blk]using hv
 have mq:pD K H' (some xs[i]::iD (rE env) fr) (some x::Fe σ fr):=Pg (re.same (s1.trans s2)) ((z1.sm.trans s2).rv _ _ rx)
 split at hcl
 ·rename_i j c1
  cases hcl
  ~.inr (hz _ H' _ ii _ mq (by rw[←hez]at c1;~c1) fun H3 s3=>kk H3 (hB.trans (s1.trans (s2.trans s3))))
 ·A7⟨dy,c3,c4⟩:=aU hcl
  &.inl (he _ H' _ dy _ mq (by rw[←hel]at c3;~c3) fun yv H4 s4 n4=>?_)
  have wg:=s4 _ _ hD2
  &⟨wg,Iu A3,vs.length-(i+1),by omega,rfl,by omega,c4,fun b o eb=>?_,bW,by rw[C6];simp;~hyl⟩
  rw[bH (gC eb hD)]
  ~(s2.trans s4) b o eb
A9 Gp{tg elt iter:Expr}{scope:Scope}{pos spos py:Pos}{y:Str}{wi:TI}{fi:FA}{te tz:TE}{fe:FE}{fz:DE→Option Nat}{env0:Env}{out:List Env}{L:Addr}(N:List Str)(fr:List Nat)(hx:Ww X E)(hcalm:X.calm=true)(B:dC X.env.scope scope X.N N 1 fr)(hi:XI K X tg iter wi fi)
  (hg:∀cl fp s H C,PG (bR X scope N cl fp s H C) tg (cB 0)) (he:∀cl fp s H C,XN K (bR X scope N cl fp s H C) elt te fe)
  (hz:∀cl fp s H C xe,OJ K κ ((bR X scope N cl fp s H C).wish xe) E elt tz fz) (hst:X.stack=env0::out:=by rfl) (ie:env0.frame=some L:=by rfl) (hfe:X.env.frame=some L:=by rfl)
  (hsw:swapsWith (.ListComp elt [⟨tg,iter,[],0⟩] scope pos) (some (.Name y py)) spos.line X.env=pure true:=by rfl)
  (hs:∀x,foldedSetIterable iter X.env x=pure x:=by intro _;rfl):YZ K κ X E (.Assign [.Name y py] (.ListComp elt [⟨tg,iter,[],0⟩] scope pos) spos) (Nf wi 1 fr (cB 0) te tz) (qL fi fr fe fz):=
 ⟨Wy N 1 fr hst ie hfe hx hcalm B hi.pi hg (fun cl fp s H C=>(he cl fp s H C).pe) (fun cl fp s H C xe pins σ hp=>(hz cl fp s H C xe).pe pins σ hp) hsw hs,
  HX hi.ev (he [] [] X.s₀ X.H₀ 0).ev (hz [] [] X.s₀ X.H₀ 0 fun _ _=>False).ev⟩
end
section
variable{K:aA}{κ:Nat→Addr}{X:Cx}{E:XK}{a e:Expr}{ta tz:TE}{f:FE}{z:DE→Option Nat}{pos:Pos}
def qz(ta tz:TE):TE:=fun σ H _=>ta σ H fun _ H1=>tz σ H1 fun _ _=>False
def Wz(f:FE)(z:DE→Option Nat):DE→Option Nat:=fun de=>(f de).bind fun _=>z de
A9 ZM{op:Operator}(ha:XR K X a ta f)(hz:OJ K κ X E e tz z):OJ K κ X E (.BinOp a op e pos) (qz ta tz) (Wz f z):=
 ⟨fun pins σ hx s H Q I h=>wpAny_BinOp (eY (ha.pe pins s σ H _ I h) fun v s1 ⟨x,H1,I1,r1,q1⟩=>eY (hz.pe pins σ hx s1 H1 _ I1 q1) fun u s2 ⟨_,_,_,_,z⟩=>z.elim),
  fun σ H de i Q re q k=>by
   A7⟨d,q1,q2⟩:=aU q
   ~ha.ev σ H H de d _ (Zn.self _ H) re q1 fun x H1 Z1 s1 t1 z1 rx=>hz.ev σ H1 de i _ (re.same s1) q2 fun H' s'=>k H' (s1.trans s')⟩
def ZP(tz:TE):TE:=fun σ H _=>tz σ H fun _ _=>False
A9 HY(hz:OJ K κ X E e tz z)(hs:starEach [e] X.env=(false,eval e X.env)::starEach [] X.env:=by rfl):OJ K κ X E (.List [e] pos) (ZP tz) z:=
 ⟨fun pins σ hx s H Q I h=>by
  &wpAny_List_spliced ?_
  rw[hs]
  show wpAny _ _ (spliced ((false,eval e X.env)::backTo pos (starEach [] X.env))) _ _ s
  ~Calls.spliced_cons (eY (hz.pe pins σ hx s H _ I h) fun u s2 ⟨_,_,_,_,z⟩=>z.elim),fun σ H de i Q re q k=>hz.ev σ H de i _ re q k⟩
A9 IK(hz:OJ K κ X E e tz z)(hx:Passes (vV X.prog X.w) X E):YZ K κ X E (.Return (some e) pos) (Kw tz) (zX z):=
 ⟨fun pins s σ H D I h=>wpAny_Return_some (eY (hz.pe pins σ (hx.one pins σ) s H _ I h) fun v s1 ⟨x,H1,I1,r1,q1⟩=>⟨x,σ,H1,I1,r1,q1⟩),fun B D σ H env i r q k=>hz.ev σ H (rE env) i _ r.r q fun H' s=>k H' (r.sub.trans s)⟩
end
end L2


namespace L2
open PySem PySem.Spec PySem.Calls PyProof.Rows PyProof.V
def zP(j:Nat)(c:FT)(f:FE)(env:EN):List D→Option (Option D)
 | []=>some none
 | x::xs=>match c (rE (env.set j (.fro x)))with
  | some true=>(f (rE (env.set j (.fro x)))).map some
  | some false=>zP j c f env xs
  | none=>none
def Dw(i j:Nat)(c:FT)(f:FE):GS:=fun env=>match env[i]? with
 | some (.own (.lst xs))=>if j<env.length∧i≠j then(match zP j c f env xs with
   | some (some d)=>.ret d
   | some none=>.next (env.set j .no)
   | none=>.bad)else .bad
 | _=>.bad
section
variable{K:aA}{te:TE}{f:FE}{tc:TT}{c:FT}{i j:Nat}
A9 ZQ(env:EN)(j:Nat)(d:D):rE (env.set j (.fro d))=(rE env).set j (some d):=by
 A8 rE
 rw[W4]
 rfl
A9 IV{H:Hp}{de:DE}{σ:St}{d:D}{v:V}(h:pD K H de σ)(r:Rv K H d v)(hl:de.length=σ.length):pD K H (de.set j (some d)) (σ.set j (some v)):=fun m d' hm=>by
 by_cases e:j=m
 ·subst e
  have hj:j<de.length:=by
   have:=(C4.mp hm).1
   rw[O3]at this
   ~this
  rw[L5 hj]at hm
  cases hm
  ~⟨v,L5 A3,r⟩
 ·rw[K5 e]at hm
  A7⟨v',h1,h2⟩:=h m d' hm
  ~⟨v',by rw[K5 e];~h1,h2⟩
A9 IW(hc:Ls K tc c)(he:Dh K te f):DS K (Lb (WQ K (jF i)) (cB j) (Rg tc (Kw te) Hz)) (Dw i j c f):=fun B E σ H env r p=>by
 A8 Dw at p
 split at p
 ·rename_i xs q
  split at p
  ·rename_i hc0
   have hlen:=r.len
   have re:=r.r
   have hrl:(rE env).length=σ.length:=by A8 rE;rw[B3];~hlen.symm
   A7⟨v,hv,rv⟩:=re i (.lst xs) (by A8 rE;rw[D5,q];rfl)
   A8 Rv at rv
   A7⟨p0,vs,rfl,sq,rvs⟩:=rv
   have hl:=rvs.length
   have hB:aN B H:=r.sub
   &.inl ⟨_,hv,p0,rfl,⟨vs,sq⟩,?_⟩
   generalize hres:zP j c f env xs=res at p
   &Ff Io (fun k σ2 H2=>aN H H2∧(σ2=σ∨∃w,σ2=σ.set j (some w))∧zP j c f env (xs.drop k)=res) ⟨aN.refl _,.inl rfl,by simpa using hres⟩ (fun k σ2 H2 _ ⟨s,_⟩=>s.seq sq) ?_ ?_
   ·rintro k x σ2 H2 hx ⟨s,hσ,hq⟩
    have hk:k<xs.length:=by
     A7⟨h1,_⟩:=C4.mp hx
     omega
    A7⟨x',hx',rx⟩:=rvs.get (B6 hk)
    rw[hx]at hx'
    cases hx'
    rw[L7 hk]at hq
    A8 zP at hq
    have e3:σ2.set j (some x)=σ.set j (some x):=by
     rcases hσ with rfl | ⟨w,rfl⟩
     ·rfl
     ·rw[List.set_set]
    show Rg tc (Kw te) Hz _ (σ2.set j (some x)) H2
    rw[e3]
    have re3:pD K H2 (rE (env.set j (.fro xs[k]))) (σ.set j (some x)):=by
     rw[ZQ]
     ~IV (re.same s) (s.rv _ _ rx) hrl
    split at hq
    ·rename_i c1
     &hc _ H2 _ true _ re3 c1 fun H3 s3=>?_
     rw[if_pos rfl]
     A7⟨d,q1,q2⟩:∃d,f (rE (env.set j (.fro xs[k])))=some d∧res=some (some d):=by
      cases z:f (rE (env.set j (.fro xs[k])))with
      | none=>
       rw[z]at hq
       rw[←hq]at p
       ~p.elim
      | some d=>
       rw[z]at hq
       ~⟨d,rfl,hq.symm⟩
     rw[q2]at p
     &he _ H3 _ d _ (re3.same s3) q1 fun v H' s' ⟨N,o,fr⟩=>p v H' N (fun x u ex=>?_) o
     have h1:=s3 x u (s x u (hB x u ex))
     ~bC.mpr ⟨fun z=>(by rw[fr x z]at h1;cases h1),s' x u h1⟩
    ·rename_i c1
     &hc _ H2 _ false _ re3 c1 fun H3 s3=>?_
     rw[if_neg B8]
     ~⟨s.trans s3,.inr ⟨x,rfl⟩,hq⟩
    ·rw[←hq]at p
     ~p.elim
   ·rintro σ2 H2 ⟨s,hσ,hq⟩
    rw[hl,T3]at hq
    A8 zP at hq
    rw[←hq]at p
    A7⟨A,a,bb⟩:=r.same s
    A7⟨y,A1,C,h1,h2,h3,h4,k⟩:=a.focus (B6 hc0.1)
    have g:aN (out H2 A) (out H2 (gZ nil C)):=fun x u ex=>by
     A7⟨e1,e2⟩:=bC.mp ex
     ~bC.mpr ⟨fun z=>e1 ((h3 x).mpr (.inr (z.elim False.elim id))),e2⟩
    have key:∀y',Rel K B (env.set j .no) (σ.set j y') H2:=fun y'=>⟨gZ nil C,k (jH K H2 (out H2 (gZ nil C))) (fun sd D z hb qq=>by
     cases sd with
     | no=>~qq
     | fro d=>A7⟨q1,v,q2,q3⟩:=qq;~⟨q1,v,q2,g.rv _ _ q3⟩
     | inn v d=>~qq
     | own d=>~qq) .no y' nil (fun _ z=>z.elim) (fun _ z=>z),bb.trans g⟩
    &p σ2 H2 ?_
    rcases hσ with rfl | ⟨w,rfl⟩
    ·have:=key y
     rw[set_same h1]at this
     ~this
    ·~key _
  ·~p.elim
 ·~p.elim
A9 JB{X:Cx}{tg o ce e:Expr}{pos pos2 aAl:Pos}(hp:PassesOwn (model X.prog X.w) X.A X.env X.xe)(Ss:X.calm=true)(ho:XR K X o (jF i) (aF i))(hg:PG X tg (cB j))(hc:XT K X ce tc c)(he:XN K X e te f)(hs:∀x,foldedSetIterable o X.env x=pure x:=by intro _;rfl) :
  YS K X (.For tg o [.If ce [.Return (some e) pos2] [] aAl] [] pos) (Lb (WQ K (jF i)) (cB j) (Rg tc (Kw te) Hz)) (Dw i j c f):=
 ⟨Ld hp Ss (eU (tg:=tg) ho).pi hg (xP (Um hc.pt (xP (Ky he.pe)) Od)) hs,IW hc.ev he.ev⟩
end
end L2


namespace L2
open PySem PySem.Spec PyProof.Rows
abbrev aW(ns:List Int):D:=.lst (ns.map D.int)
A9 vZ{i:Nat}{g:GS}(I:Nat→EN→Prop):∀(xs:List D)(env:EN)(n:Nat),I n env→(∀k x env,xs[k]?=some x→I (n+k) env→i<env.length∧∃env',g (env.set i (.fro x))=.next env'∧I (n+k+1) env')→∃env',rW i g xs env=.next env'∧I (n+xs.length) env'
 | [],env,n,h,_=>⟨env,by A8 rW;rfl,h⟩
 | x::xs,env,n,h,st=>by
  A7⟨h1,env',h2,h3⟩:=st 0 x env rfl h
  A7⟨rY,a1,a2⟩:=vZ I xs env' (n+1) h3 fun k y e hk hi=>by
   have:=st (k+1) y e (by simpa using hk) (by rw[show n+(k+1)=n+1+k by omega];~hi)
   rw[show n+(k+1)+1=n+1+k+1 by omega]at this
   ~this
  &⟨rY,?_,?_⟩
  ·A8 rW
   rw[if_pos h1,h2]
   ~a1
  ·rw[G8,show n+(xs.length+1)=n+1+xs.length by omega]
   ~a2
A9 gR{g1 g2:GS}{env env':EN}(h:g1 env=.next env'):aQ g1 g2 env=g2 env':=by A8 aQ;rw[h]
A9 qM{g1 g2:GS}{env:EN}{d:D}(h:g1 env=.ret d):aQ g1 g2 env=.ret d:=by A8 aQ;rw[h]
A9 zQ{f:FT}{g1 g2:GS}{env:EN}(h:f (rE env)=some true):jJ f g1 g2 env=g1 env:=by A8 jJ;rw[h]
A9 nY{f:FT}{g1 g2:GS}{env:EN}(h:f (rE env)=some false):jJ f g1 g2 env=g2 env:=by A8 jJ;rw[h]
A9 jC{i:Nat}{f:FE}{env:EN}{d:D}(h:f (rE env)=some d)(hi:i<env.length):bD i f env=.next (env.set i (.own d)):=by A8 bD;rw[h];dsimp only;rw[if_pos hi]
A9 Xa{i:Nat}{f:FE}{env:EN}{d:D}(h:f (zE env)=some d)(hi:i<env.length):wQ i f env=.next (env.set i (.fro d)):=by A8 wQ;rw[h];dsimp only;rw[if_pos hi]
A9 mQ{f:FE}{env:EN}{d:D}(h:f (rE env)=some d):cU f env=.ret d:=by A8 cU;rw[h]
A9 Xb{i:Nat}{fi:FA}{g:GS}{env:EN}{xs:List D}(h:fi (rE env)=some xs):qG i fi g env=rW i g xs env:=by A8 qG;rw[h]
A9 Gq{js:List Nat}{i:Nat}{fi:FA}{g:GS}{env pH:EN}{xs:List D}(h0:tZ js env=pH)(h:fi (zE pH)=some xs):uQ js i fi g env=rW i g xs pH:=by A8 uQ;rw[h0,h]
A9 lW{n m:Nat}{g:GS}{ds:List D}{d:D}(hl:ds.length=m)(h:g (ds.map SD.fro++B9 (n-m) SD.no)=.ret d):lJ n m g ds=some d:=by A8 lJ;rw[if_pos hl,h]
A9 aO{φ:D→D→Option D}{f g:FE}{e:DE}{a b d:D}(h1:f e=some a)(h2:g e=some b)(h:φ a b=some d):f2 φ f g e=some d:=by A8 f2;rw[h1,h2];~h
A9 fY{φ:List D→Option D}{fs:FA}{e:DE}{ds:List D}{d:D}(h1:fs e=some ds)(h:φ ds=some d):fL φ fs e=some d:=by A8 fL;rw[h1];~h
A9 aC{f:FE}{fs:FA}{e:DE}{a:D}{r:List D}(h1:f e=some a)(h2:fs e=some r):aB f fs e=some (a::r):=by A8 aB;rw[h1,h2];rfl
A9 aX{n:Nat}{F:List D→Option D}{fs:FA}{e:DE}{ds:List D}{d:D}(h1:fs e=some ds)(hl:ds.length=n)(h:F ds=some d):bA n F fs e=some d:=by A8 bA;rw[h1];dsimp only[C8];rw[if_pos hl];~h
A9 bU{f:FE}{e:DE}{b:Bool}(h:f e=some (.bl b)):fB f e=some b:=by A8 fB;rw[h];rfl
A9 dR{f:FT}{e:DE}{b:Bool}(h:f e=some b):fQ f e=some (!b):=by A8 fQ;rw[h];rfl
A9 PJ{f g:FT}{e:DE}(h:f e=some false):Dl f g e=g e:=by A8 Dl;rw[h];rfl
A9 xZ{f:FE}{e:DE}{d:D}(h:f e=some d)(i:d.eX=true):Ir f e=some d:=Di.mpr ⟨h,i⟩
A9 fG(i j:Int):cX (.int i) (.int j)=some (.int (i+j)):=rfl
A9 vA(i j:Int):Bp (.int i) (.int j)=some (.int (i-j)):=by A8 Bp Bo;~if_pos True.intro
A9 Js{i j:Int}(h:Bh i j):yW (.int i) (.int j)=some (.int (i*j)):=by A8 yW Bo;~if_pos h
A9 dX{i j:Int}(h:0<j)(h2:j<1073741824):mD (.int i) (.int j)=some (.int (i/j)):=by A8 mD Bo;~if_pos (show Rj i j from⟨h,h2⟩)
A9 bN{i j:Int}(h:0<j):eH (.int i) (.int j)=some (.int (i%j)):=by A8 eH Bo;~if_pos h
A9 mR(i j:Int):Zd (.int i) (.int j)=some (.bl (decide (i<j))):=by A8 Zd Bo;~if_pos True.intro
A9 yC(i j:Int):gn (.int i) (.int j)=some (.bl (decide (j<i))):=by A8 gn Bo;~if_pos True.intro
A9 Gr(i j:Int):Oz (.int i) (.int j)=some (.bl (decide (i≤j))):=by A8 Oz Bo;~if_pos True.intro
A9 Qe(i j:Int):decide (V.int i=V.int j)=decide (i=j):=by
 by_cases c:i=j
 ·subst c;simp
 ·rw[decide_eq_false c,decide_eq_false (fun z=>c (by cases z;rfl))]
A9 yD(i j:Int):vN (.int i) (.int j)=some (.bl (decide (i=j))):=by
 A8 vN toV
 dsimp only
 rw[if_pos (by rfl),Qe]
A9 Qf(i j:Int):yZ (.int i) (.int j)=some (.bl (!decide (i=j))):=by
 A8 yZ toV
 dsimp only
 rw[if_pos (by rfl),Qe]
A9 Gs{α:Type}{xs:List α}{i:Int}{x:α}(h0:0≤i)(h:xs[i.toNat]?=some x):Ik xs i=some x:=by
 have h1:i.toNat<xs.length:=by
  A7⟨h1,_⟩:=C4.mp h
  ~h1
 A8 Ik Oj
 rw[if_pos h0,if_pos A3]
 ~h
A9 JC{α:Type}{xs:List α}{x:α}(h:xs.getLast?=some x):Ik xs (-1)=some x:=by
 have hl:0<xs.length:=by
  cases xs with
  | nil=>simp at h
  | cons=>simp
 A8 Ik Oj
 rw[if_neg A3,if_pos A3]
 show xs[((-1:Int)+(xs.length:Int)).toNat]?=some x
 rw[List.getLast?_eq_getElem?]at h
 rw[show ((-1:Int)+(xs.length:Int)).toNat=xs.length-1 by omega]
 ~h
A9 jY{ds:List D}{i:Int}{d:D}(h0:0≤i)(h:ds[i.toNat]?=some d):sH (.lst ds) (.int i)=some d:=Gs h0 h
A9 JD{ds:List D}{i:Int}{d:D}(h0:0≤i)(h:ds[i.toNat]?=some d):sH (.tup ds) (.int i)=some d:=Gs h0 h
A9 Xc{ns:List Int}{i:Int}(h0:0≤i)(h:i<ns.length):sH (aW ns) (.int i)=some (.int (ns.getD i.toNat 0)):=Gs h0 (by
 rw[D5,F1,B6 (show i.toNat<ns.length by omega)];rfl)
A9 zR(ds:List D):cO [.lst ds]=some (.int ds.length):=rfl
A9 qN(ds:List D):cO [.tup ds]=some (.int ds.length):=rfl
A9 Dy(ns:List Int):cO [aW ns]=some (.int ns.length):=by show some (D.int ((ns.map D.int).length:Nat))=_;rw[B3]
A9 Dz{c:D→Option Bool}{el:D→Option D}{φ:D→D}:∀{xs:List D},(∀x∈xs,c x=some true)→(∀x∈xs,el x=some (φ x))→mK c el xs=some (xs.map φ)
 | [],_,_=>by A8 mK;rfl
 | x::xs,hc,he=>by
  A8 mK
  rw[hc x D1,he x D1,Dz (xs:=xs) (fun y hy=>hc y (C5 _ hy)) fun y hy=>he y (C5 _ hy)]
  rfl
A9 zT{fi:FA}{fr:List Nat}{fc:FT}{fe:FE}{e:DE}{xs ys:List D}(h1:fi e=some xs)(hl:xs.length≤100000)(h:mK (fun x=>fc (some x::iD e fr)) (fun x=>fe (some x::iD e fr)) xs=some ys):cV fi fr fc fe e=some (.lst ys):=by
 A8 cV
 rw[h1,C8,if_pos hl,h]
 rfl
A9 zU(lo:Int)(n:Nat):(iB lo n).length=n:=by A8 iB;rw[B3,P5]
A9 zV{lo:Int}{n k:Nat}{x:D}(h:(iB lo n)[k]?=some x):k<n∧x=.int (lo+k):=by
 A8 iB at h
 rw[D5]at h
 cases q:(K4 n)[k]? with
 | none=>rw[q]at h;cases h
 | some j=>
  rw[q]at h
  A7⟨h1,h2⟩:=C4.mp q
  rw[P5]at h1
  rw[List.getElem_range]at h2
  subst h2
  ~⟨h1,(G1 h).symm⟩
A9 Ng{lo:Int}{n:Nat}{x:D}(h:x∈iB lo n):∃k:Nat,k<n∧x=.int (lo+k):=by
 A7⟨k,hk,e⟩:=V3 h
 A7⟨a1,a2⟩:=zV (k:=k) (x:=x) (by rw[B6 hk,e])
 ~⟨k,a1,a2⟩
A9 Xd{fs:FA}{e:DE}{n:Int}(h:fs e=some [.int n])(h1:-100000≤n)(h2:n≤100000):nQ fs e=some (iB 0 n.toNat):=by
 A8 nQ
 rw[h]
 dsimp only[C8]
 rw[if_pos (show lim n=true from decide_eq_true ⟨h1,h2⟩)]
A9 aAm{i j:Int}(h1:-18446744073709551616<i)(h2:i<18446744073709551616):Bh i j:=.inl ⟨h1,h2⟩
A9 rm{i j:Int}(h1:-18446744073709551616<j)(h2:j<18446744073709551616):Bh i j:=.inr ⟨h1,h2⟩
A9 ZR{i:Nat}{f:FE}{env:EN}{ds:List D}{d:D}(h1:env[i]?=some (.own (.lst ds)))(h2:f (rE env)=some d)(hl:ds.length<100000):Br i rZ f env=.next (env.set i (.own (.lst (ds++[d])))):=by
 A8 Br rZ
 rw[h1,h2]
 dsimp only[qF]
 rw[if_pos hl]
 rfl
end L2


namespace L2
open PySem PySem.Spec PyProof.Rows
section
variable{i j:Nat}{f:FE}{c:FT}{g1 g2 g:GS}{env env':EN}{d:D}{r:SR}{ds:List D}
A9 nG(h:f (rE env)=some d)(hi:i<env.length)(k:g (env.set i (.own d))=r):aQ (bD i f) g env=r:=(gR (jC h hi)).trans k
A9 PK{b:Bool}(h:c (rE env)=some b)(k1:b=true→aQ g1 g env=r)(k2:b=false→aQ g2 g env=r):aQ (jJ c g1 g2) g env=r:=by
 cases b with
 | true=>have k:=k1 rfl;A8 aQ at k ⊢;rw[zQ h];~k
 | false=>have k:=k2 rfl;A8 aQ at k ⊢;rw[nY h];~k
A9 zW{b:Bool}(h:c (rE env)=some b)(hb:b=false)(k:aQ g2 g env=r):aQ (jJ c g1 g2) g env=r:=PK h (fun z=>by rw[hb]at z;cases z) fun _=>k
A9 ZV{b:Bool}(h:c (rE env)=some b)(hb:b=true)(k:aQ g1 g env=r):aQ (jJ c g1 g2) g env=r:=PK h (fun _=>k) (fun z=>by rw[hb]at z;cases z)
A9 Jt(k:g env=r):aQ bG g env=r:=k
A9 rn(h:f (rE env)=some d)(k:SR.ret d=r):aQ (cU f) g env=r:=(qM (mQ h)).trans k
A9 sr(h:g1 env=.next env')(k:g env'=r):aQ g1 g env=r:=(gR h).trans k
A9 Ea(h:env[i]?=some (.own d)):mL i env=.ret d:=by A8 mL;rw[h]
A9 Tq(h:env[i]?=some (.fro d))(im:d.eX=true):mL i env=.ret d:=by A8 mL;rw[h];dsimp only;rw[if_pos im]
A9 yE{fs:FA}{e:DE}(h:fs e=some ds)(hl:ds.length≤100000):Iv fs e=some (.tup ds):=by A8 Iv cap;rw[h];dsimp only[C8];rw[if_pos hl]
A9 bQ{fs:FA}{e:DE}(h:fs e=some ds)(hl:ds.length≤100000):eG fs e=some (.lst ds):=by A8 eG cap;rw[h];dsimp only[C8];rw[if_pos hl]
A9 oX{e:DE}{z:Int}(h:f e=some (.int z)):nR f e=some (.int (-z)):=by A8 nR;rw[h];rfl
A9 Xe{e:DE}{b:Bool}(h:f e=some (.bl b)):Ja f e=some (.bl (!b)):=by A8 Ja;rw[bU h];rfl
A9 JF{e:DE}{f':FE}(h:f e=some (.bl true))(k:f' e=some d):uN f f' e=some d:=by A8 uN;rw[bU h];~k
A9 Ju{e:DE}{f':FE}{a b:Bool}(h:f e=some (.bl a))(k:f' e=some (.bl b)):uN f f' e=some (.bl (a&&b)):=by
 A8 uN;rw[bU h]
 cases a with
 | true=>~k
 | false=>rfl
A9 Qg{e:DE}{c':FT}{a b:Bool}(h:c e=some a)(k:c' e=some b):Lz c c' e=some (a&&b):=by
 A8 Lz;rw[h]
 cases a with
 | true=>~k
 | false=>rfl
A9 tK{e:DE}{c':FT}{a b:Bool}(h:c e=some a)(k:c' e=some b):Dl c c' e=some (a||b):=by
 A8 Dl;rw[h]
 cases a with
 | true=>rfl
 | false=>~k
A9 dY{e:DE}(h:f e=some (.lst ds)):eQ f e=some ds:=by A8 eQ;rw[h];rfl
A9 Xf{e:DE}(h:f e=some (.tup ds)):eQ f e=some ds:=by A8 eQ;rw[h];rfl
A9 rD{a b:List D}(h:D.cT (a++b)=true)(hl:a.length+b.length≤100000):cX (.lst a) (.lst b)=some (.lst (a++b)):=by
 show (if D.cT (a++b)=true∧a.length+b.length≤100000 then some (D.lst (a++b))else none)=_
 rw[if_pos ⟨h,hl⟩]
A9 Eb(d:D)(ds:List D):D.cT (d::ds)=(d.eX&&D.cT ds):=by rw[D.cT]
A9 Xg{a b:List D}:D.cT (a++b)=(D.cT a&&D.cT b):=by
 induction a with
 | nil=>rw[O4,D.cT];rfl
 | cons x a ih=>rw[M5,Eb,Eb,ih,Bool.and_assoc]
A9 Xh{ds:List D}(h:∀d∈ds,d.eX=true):D.cT ds=true:=by
 induction ds with
 | nil=>A8 D.cT;rfl
 | cons d ds ih=>A8 D.cT;rw[h d D1,ih fun e he=>h e (C5 _ he)];rfl
A9 Jv(ns:List Int):(dTup ns).eX=true:=by A8 dTup D.eX;~gF ns
A9 tL(ns:List Int):mJ (ns.map D.int)=some (ns.map DV.int):=by
 induction ns with
 | nil=>A8 mJ;rfl
 | cons n ns ih=>rw[D7];A8 mJ fD;rw[C8,ih];rfl
A9 JG(ns ms:List Int):vN (dTup ns) (dTup ms)=some (.bl (decide (ns=ms))):=by
 A8 vN dTup toV
 dsimp only
 A8 fD
 rw[tL,tL]
 dsimp only[Option.map_some]
 rw[if_pos (by A8 DV.depth;rw[sZ];decide)]
 congr 2
 rw[F7,nP,decide_eq_true_iff]
 constructor
 ·intro z;injection z with z;~Ip.mp z
 ·intro z;rw[z]
end
end L2
namespace L2
A9 jD{i:Nat}{e:DE}{d:D}(h:e[i]?=some (some d)):aF i e=some d:=by A8 aF;rw[h];rfl
A9 su{e:DE}{d:D}:fC d e=some d:=rfl
A9 Xi{e:DE}:aG e=some []:=rfl
end L2
namespace L2
A9 Jw{i:Nat}{fi:FA}{gb:GS}{env:EN}{n:Nat}(I:Nat→EN→Prop)(h:fi (rE env)=some (iB 0 n))(h0:I 0 env)
  (st:∀(k:Nat) env,k<n→I k env→i<env.length∧∃env',gb (env.set i (.fro (.int k)))=.next env'∧I (k+1) env'):∃env',qG i fi gb env=.next env'∧I n env':=by
 A7⟨env',h1,h2⟩:=vZ (i:=i) (g:=gb) I (iB 0 n) env 0 h0 fun k x e hx hi=>by
  rw[O7]at hi ⊢
  A7⟨hk,rfl⟩:=zV hx
  rw[W5]
  ~st k e hk hi
 rw[O7,zU]at h2
 ~⟨env',(Xb h).trans h1,h2⟩
end L2


namespace L2
open PySem PySem.Spec PyProof.Rows
def Qs(Pr:SR→Prop)(r:SR):Prop:=Pr r
section
variable{i j:Nat}{f:FE}{c:FT}{g1 g2 g gb:GS}{env env':EN}{d:D}{ds:List D}{Pr:SR→Prop}
A9 cI(h:f (rE env)=some d)(hi:i<env.length)(k:Qs Pr (g (env.set i (.own d)))):Qs Pr (aQ (bD i f) g env):=by rw[gR (jC h hi)];~k
A9 ZW(h:f (zE env)=some d)(hi:i<env.length)(k:Qs Pr (g (env.set i (.fro d)))):Qs Pr (aQ (wQ i f) g env):=by rw[gR (Xa h hi)];~k
A9 ZX(h:f (rE env)=some d)(hi:i<env.length)(k:Pr (.next (env.set i (.own d)))):Qs Pr (bD i f env):=by rw[jC h hi];~k
A9 JH(h:g1 env=.next env')(k:Qs Pr (g env')):Qs Pr (aQ g1 g env):=by rw[gR h];~k
A9 jE(k:Qs Pr (g env)):Qs Pr (aQ bG g env):=k
A9 oY{b:Bool}(h:c (rE env)=some b)(k1:b=true→Qs Pr (aQ g1 g env))(k2:b=false→Qs Pr (aQ g2 g env)):Qs Pr (aQ (jJ c g1 g2) g env):=by
 cases b with
 | true=>have k:=k1 rfl;A8 aQ at k ⊢;rw[zQ h];~k
 | false=>have k:=k2 rfl;A8 aQ at k ⊢;rw[nY h];~k
A9 sy{b:Bool}(h:c (rE env)=some b)(k1:b=true→Qs Pr (g1 env))(k2:b=false→Qs Pr (g2 env)):Qs Pr (jJ c g1 g2 env):=by
 cases b with
 | true=>rw[zQ h];~k1 rfl
 | false=>rw[nY h];~k2 rfl
A9 lA{b:Bool}(h:c (rE env)=some b)(hb:b=false)(k:Qs Pr (aQ g2 g env)):Qs Pr (aQ (jJ c g1 g2) g env):=oY h (fun z=>by rw[hb]at z;cases z) fun _=>k
A9 PL{b:Bool}(h:c (rE env)=some b)(hb:b=true)(k:Qs Pr (aQ g1 g env)):Qs Pr (aQ (jJ c g1 g2) g env):=oY h (fun _=>k) (fun z=>by rw[hb]at z;cases z)
A9 Xj{b:Bool}(h:c (rE env)=some b)(hb:b=false)(k:Qs Pr (g2 env)):Qs Pr (jJ c g1 g2 env):=sy h (fun z=>by rw[hb]at z;cases z) fun _=>k
A9 pG(h:f (rE env)=some d)(k:Pr (.ret d)):Qs Pr (aQ (cU f) g env):=by rw[qM (mQ h)];~k
A9 qO(h:f (rE env)=some d)(k:Pr (.ret d)):Qs Pr (cU f env):=by rw[mQ h];~k
A9 wA(h:env[i]?=some (.own d))(k:Pr (.ret d)):Qs Pr (mL i env):=by rw[Ea h];~k
A9 Gu(h1:env[i]?=some (.own (.lst ds)))(h2:f (rE env)=some d)(hl:ds.length<100000)(k:Pr (.next (env.set i (.own (.lst (ds++[d])))))):Qs Pr (Br i rZ f env):=by rw[ZR h1 h2 hl];~k
A9 Qh{fi:FA}{n:Nat}(I:Nat→EN→Prop)(h:fi (rE env)=some (iB 0 n))(h0:I 0 env)
  (st:∀(k:Nat) env,k<n→I k env→i<env.length∧Qs (fun r=>∃env',r=.next env'∧I (k+1) env') (gb (env.set i (.fro (.int k))))) (k:∀env',I n env'→Qs Pr (g env')):Qs Pr (aQ (qG i fi gb) g env):=by
 A7⟨env',h1,h2⟩:=Jw (gb:=gb) I h h0 fun k env hk hi=>⟨(st k env hk hi).1,let ⟨e,a,b⟩:=(st k env hk hi).2;⟨e,a,b⟩⟩
 rw[gR h1]
 ~k env' h2
A9 Xk{fi:FA}{n:Nat}(I:Nat→EN→Prop)(h:fi (rE env)=some (iB 0 n))(h0:I 0 env)
  (st:∀(k:Nat) env,k<n→I k env→i<env.length∧Qs (fun r=>∃env',r=.next env'∧I (k+1) env') (gb (env.set i (.fro (.int k))))) (k:∀env',I n env'→Pr (.next env')):Qs Pr (qG i fi gb env):=by
 A7⟨env',h1,h2⟩:=Jw (gb:=gb) I h h0 fun k env hk hi=>⟨(st k env hk hi).1,let ⟨e,a,b⟩:=(st k env hk hi).2;⟨e,a,b⟩⟩
 rw[h1]
 ~k env' h2
A9 Xl{js:List Nat}{fi:FA}{pH:EN}{xs:List D}(I:Nat→EN→Prop)(hf:tZ js env=pH)(h:fi (zE pH)=some xs)(h0:I 0 pH)
  (st:∀(k:Nat) x env,xs[k]?=some x→I k env→i<env.length∧Qs (fun r=>∃env',r=.next env'∧I (k+1) env') (gb (env.set i (.fro x)))) (k:∀env',I xs.length env'→Qs Pr (g env')):Qs Pr (aQ (uQ js i fi gb) g env):=by
 A7⟨env',h1,h2⟩:=vZ (i:=i) (g:=gb) I xs pH 0 h0 fun k x e hx hi=>by
  rw[O7]at hi ⊢
  ~⟨(st k x e hx hi).1,let ⟨e,a,b⟩:=(st k x e hx hi).2;⟨e,a,b⟩⟩
 rw[O7]at h2
 rw[gR ((Gq hf h).trans h1)]
 ~k env' h2
A9 lE{n m:Nat}{Pd:D→Prop}(hl:ds.length=m)(h:Qs (fun r=>∃d,r=.ret d∧Pd d) (g (ds.map SD.fro++B9 (n-m) SD.no))):∃d,lJ n m g ds=some d∧Pd d:=by
 A7⟨d,h1,h2⟩:=h
 ~⟨d,lW hl h1,h2⟩
A9 yF{fs:FA}{e:DE}{n:Nat}(h:fs e=some [.int (n:Int)])(hn:n≤100000):nQ fs e=some (iB 0 n):=by
 rw[Xd h A3 A3,N0]
end
end L2
namespace L2
A9 Nh{fi:FA}{fr:List Nat}{fe:FE}{e:DE}{n:Nat}{φ:Nat→D}(h1:fi e=some (iB 0 n))(hn:n≤1000)(he:∀k:Nat,k<n→fe (some (.int k)::iD e fr)=some (φ k)):cV fi fr dW fe e=some (.lst ((K4 n).map φ)):=by
 &zT h1 (by rw[zU];omega) ?_
 &(Dz (c:=fun x=>dW (some x::iD e fr)) (φ:=fun x=>match x with | .int i=>φ i.toNat | d=>d) (fun _ _=>rfl) ?_).trans ?_
 rotate_left
 ·congr 1
  A8 iB
  rw[M8]
  apply R8
  intro k _
  show φ ((0:Int)+(k:Int)).toNat=φ k
  rw[W5,N0]
 ·intro x hx
  A7⟨k,hk,rfl⟩:=Ng hx
  rw[W5]
  show _=some (φ ((k:Int)).toNat)
  rw[N0]
  ~he k hk
A9 Tr{fi:FA}{fr:List Nat}{fe:FE}{e:DE}{α:Type}{xs:List α}{ψ φ:α→D}(h1:fi e=some (xs.map ψ))(hn:xs.length≤1000)(he:∀x∈xs,fe (some (ψ x)::iD e fr)=some (φ x)):cV fi fr dW fe e=some (.lst (xs.map φ)):=by
 &zT h1 (by rw[B3];omega) ?_
 clear h1 hn
 induction xs with
 | nil=>rw[J7,J7];A8 mK;rfl
 | cons x xs ih=>
  rw[D7]
  A8 mK
  show (some true).bind _=_
  rw[C8,if_pos rfl,he x D1,C8,ih fun y hy=>he y (C5 _ hy)]
  rfl
A9 zY{α:Type}{l:List α}{k:Nat}{d:α}(h:k<l.length):l[k]?=some (l.getD k d):=by rw[F1,B6 h];rfl
A9 ZZ{b:Bool}{f:FE}{l h:FO}{e:DE}{ds:List D}{lo hi:Option Int}(h1:f e=some (.lst ds))(h2:l e=some lo)(h3:h e=some hi)(h4:b=false∨D.cT (iY ds lo hi)=true):Ug b f l h e=some (.lst (iY ds lo hi)):=by
 A8 Ug
 rw[h1,h2,h3]
 dsimp only[C8]
 rw[if_pos h4]
A9 zZ(ns ms:List Int)(h:ns.length+ms.length≤100000):cX (aW ns) (aW ms)=some (aW (ns++ms)):=by
 have:=rD (a:=ns.map D.int) (b:=ms.map D.int) (by rw[Xg,gF,gF];rfl) (by rw[B3,B3];~h)
 rw[←G5]at this
 ~this
end L2


namespace L2
open PySem PySem.Spec PyProof.Rows
section
variable{i j:Nat}{f:FE}{c:FT}{g1 g2 g gb:GS}{env env':EN}{d:D}{ds:List D}{Pr:SR→Prop}
A9 JK{x:D}(h:ds.getLast?=some x):sH (.lst ds) (.int (-1))=some x:=JC h
A9 Jx{α:Type}(l:List α):iY l none (some (-1))=l.dropLast:=by
 A8 iY
 show (l.drop 0).take (HT.pJ l.length l.length (some (-1))-0)=_
 have:HT.pJ l.length l.length (some (-1))=l.length-1:=by
  show (if(-1:Int)<0 then((-1:Int)+(l.length:Int)).toNat else min (-1:Int).toNat l.length)=_
  rw[if_pos A5]
  omega
 rw[this,V0,W3,List.dropLast_eq_take]
end
end L2
namespace L2
end L2
namespace L2
end L2


namespace L2
open PySem PySem.Spec PyProof.Rows
A9 wW(ns:List Int):vO [aW ns]=some (dTup ns):=by
 A8 vO
 dsimp only
 rw[show pX (aW ns)=some (ns.map D.int)from by A8 aW pX;rfl,C8,if_pos (gF _)]
 rfl
structure xn where
 tu:Int
 place:Int
 thing:List Int
 needs:List Int
 deriving Inhabited
def chD(c:xn):D:=.tup [.int c.tu,.int c.place,dTup c.thing,dTup c.needs]
abbrev at_(cs:List xn)(k:Nat):xn:=cs.getD k default
A9 Qi(c:xn):sH (chD c) (.int 0)=some (.int c.tu):=JD A5 rfl
A9 Xm(ns ms:List Int):yZ (aW ns) (aW ms)=some (.bl (!decide (ns=ms))):=by
 have e:∀l:List Int,fD (aW l)=some (.lst (l.map DV.int)):=fun l=>by A8 aW fD;rw[tL];rfl
 A8 yZ
 rw[e,e]
 A8 toV
 dsimp only
 rw[if_pos (by rw[sZ];decide)]
 congr 3
 rw[F7,nP,decide_eq_true_iff]
 constructor
 ·intro z;injection z with z;~Ip.mp z
 ·intro z;rw[z]
end L2
namespace L2
A9 fH{f:FE}{e:DE}{i:Int}(h:f e=some (.int i)):dI f e=some (some i):=by A8 dI;rw[h];rfl
end L2
namespace L2
end L2


namespace L2
open PySem PySem.Spec PyProof.Rows
A9 JL{e:DE}{f f':FE}{a b:Bool}(h:f e=some (.bl a))(k:f' e=some (.bl b)):Sh f f' e=some (.bl (a||b)):=by
 A8 Sh;rw[bU h]
 cases a with
 | true=>rfl
 | false=>~k
A9 Aa{α:Type}(p:α→Bool)(l:List α):Mf [.lst (l.map fun x=>D.bl (p x))]=some (.bl (l.all p)):=by
 show (sI (l.map fun x=>D.bl (p x))).map _=_
 rw[Dm]
 show some (D.bl ((l.map p).all id))=_
 rw[List.all_map]
 rfl
end L2


namespace L2
open PySem PySem.Spec PyProof.Rows
section
variable{i j:Nat}{f f':FE}{c:FT}{g1 g2 g gb:GS}{env env':EN}{d d0 d' r:D}{ds:List D}{Pr:SR→Prop}{v:V}{π:FP}{p:List Step}
A9 JM{k:Int}(h1:env[i]?=some (.own d0))(h2:π (rE env)=some p)(h3:qF p d0=some (.lst ds))(h4:f (rE env)=some (.int k))(h5:f' (rE env)=some d)(k0:0≤k)(k1:k<ds.length):wR i π f f' env=.next (env.set i (.own (oU p d0 (.lst (ds.set k.toNat d))))):=by
 A8 wR
 rw[h1,h2,h4,h5]
 dsimp only
 rw[h3]
 dsimp only
 have:Oj ds.length k=some k.toNat:=by A8 Oj;rw[if_pos k0,if_pos k1]
 rw[this]
A9 uc{f g:FE}{e:DE}(h:c e=some true)(h2:f e=some d):WM c f g e=some d:=by A8 WM;rw[h];~h2
A9 ud{f g:FE}{e:DE}(h:c e=some false)(h2:g e=some d):WM c f g e=some d:=by A8 WM;rw[h];~h2
end
end L2


local macro_rules | `(tactic| walk_at "fs")=>`(tactic| ~⟨rfl,rfl,rfl,by decide +kernel,rfl,by decide +kernel,by decide +kernel⟩)
namespace Rs
open PySem L2
def top(i:Nat):Stmt:=PySem.Challenge.pw_ripestone_k55_odd_stones.main.body.getD i (.Pass ⟨0,0,0,0⟩)
def wB:Gi:=fun i j=>match i,j with | 0,0=>true | 0,1=>true | 1,1=>true | 2,1=>true | 2,2=>true | 3,1=>true | 3,3=>true | 4,1=>true | 4,4=>true | 5,1=>true | 5,5=>true | 6,1=>true | 6,6=>true | 7,1=>true | 7,7=>true | 8,1=>true | 8,8=>true | 9,1=>true | 9,9=>true | 10,1=>true | 10,10=>true | _,_=>false
A9 JN:∀i,i<1→wB i i=true:=by decide
abbrev Ab:Stmt:=top 30
noncomputable def Jy:GS:=aQ (jJ (fB (f2 vN (fL cO (aB (aF 0) aG)) (fC (.int 0)))) (cU (fC (.int 0))) bG)
 (aQ (bD 2 (f2 mD (aF 1) (fL cO (aB (aF 0) aG))))
 (aQ (bD 3 (f2 cX (fC (.int 48271)) (f2 yW (f2 yW (fC (.int 7919)) (aF 2)) (aF 2))))
 (aQ (bD 4 (f2 cX (f2 yW (f2 sH (aF 0) (f2 eH (aF 1) (fL cO (aB (aF 0) aG)))) (aF 3)) (f2 yW (f2 yW (aF 1) (aF 1)) (fC (.int 104729)))))
 (aQ (bD 4 (f2 eH (aF 4) (fC (.int 2147483647))))
 (cU (f2 eH (f2 yW (aF 4) (aF 4)) (fC (.int 2147483629))))))))
noncomputable def dZ:List D→Option D:=lJ 5 2 (Jy)
abbrev Ac:Stmt:=top 39
noncomputable def Jz:GS:=aQ (bD 2 (eG aG))
 (aQ (bD 3 (fC (.int 10)))
 (aQ (uQ [] 4 (eQ (aF 1)) (aQ (bD 5 (eG aG))
 (aQ (uQ [4] 6 (eQ (aF 4)) (aQ (bD 7 (eG aG))
 (aQ (qG 8 (nQ (aB (aF 6) aG)) (aQ (bD 9 (bA 2 dZ (aB (aF 0) (aB (aF 3) aG))))
 (aQ (bD 3 (f2 cX (aF 3) (fC (.int 1))))
 (Br 7 rZ (fL Pn (aB (f2 sH (eG (aB (f2 eH (f2 mD (aF 9) (fC (.int 4))) (fC (.int 2))) (aB (f2 eH (f2 mD (aF 9) (fC (.int 4))) (fC (.int 20))) (aB (f2 eH (f2 mD (aF 9) (fC (.int 4))) (fC (.int 1000))) (aB (f2 Bp (nR (fC (.int 1))) (f2 eH (f2 mD (aF 9) (fC (.int 4))) (fC (.int 30)))) aG))))) (f2 eH (aF 9) (fC (.int 4)))) aG))))))
 (Br 5 rZ (f2 Dr (fC (.str ",")) (aF 7))))))
 (Br 2 rZ (f2 Dr (fC (.str " ")) (aF 5))))))
 (cU (f2 Dr (fC (.str ";")) (aF 2)))))
noncomputable def qP:List D→Option D:=lJ 10 2 (Jz)
abbrev tO:Stmt:=top 40
noncomputable def Ad:GS:=aQ (bD 2 (bA 2 dZ (aB (aF 0) (aB (fC (.int 2)) aG))))
 (aQ (bD 3 (f2 eH (bA 2 dZ (aB (aF 0) (aB (fC (.int 3)) aG))) (f2 cX (fL qH (aB (aF 1) aG)) (fC (.int 1)))))
 (aQ (bD 4 (f2 Ga (fC (.str ",; -07_+a\n")) (f2 eH (f2 mD (aF 2) (fC (.int 8))) (fC (.int 10)))))
 (aQ (jJ (fB (f2 Zd (f2 eH (aF 2) (fC (.int 8))) (fC (.int 3)))) (mL 1) bG)
 (aQ (jJ (fB (f2 Zd (f2 eH (aF 2) (fC (.int 8))) (fC (.int 5)))) (cU (f2 sJ (f2 sJ (vX (aF 1) (fU) (dI (aF 3))) (aF 4)) (vX (aF 1) (dI (aF 3)) (fU)))) bG)
 (aQ (jJ (fB (f2 Zd (f2 eH (aF 2) (fC (.int 8))) (fC (.int 7)))) (cU (f2 sJ (f2 sJ (vX (aF 1) (fU) (dI (aF 3))) (aF 4)) (vX (aF 1) (dI (f2 cX (aF 3) (fC (.int 1)))) (fU)))) bG)
 (cU (f2 sJ (vX (aF 1) (fU) (dI (aF 3))) (vX (aF 1) (dI (f2 cX (aF 3) (fC (.int 1)))) (fU)))))))))
noncomputable def lX:List D→Option D:=lJ 5 2 (Ad)
abbrev rF:Stmt:=top 24
noncomputable def Ec:GS:=aQ (bD 1 (WM (fB (f2 Gb (aF 0) (fC (.str "-")))) (vX (aF 0) (dI (fC (.int 1))) (fU)) (Ir (aF 0))))
 (aQ (jJ (fQ (Mr Oz Oz (fC (.int 1)) (fL qH (aB (aF 1) aG)) (fC (.int (60))))) (cU (fC (.bl false))) bG)
 (aQ (jJ (fQ (fB (fL Mf (aB (cV (Mv (aF 1)) [] dW (f2 Wc (aF 0) (fC (.str "0123456789")))) aG)))) (cU (fC (.bl false))) bG)
 (cU (Sh (f2 yZ (f2 Ga (aF 1) (fC (.int 0))) (fC (.str "0"))) (f2 vN (aF 0) (fC (.str "0")))))))
noncomputable def fJ:List D→Option D:=lJ 2 1 (Ec)
abbrev mU:Stmt:=top 25
noncomputable def wX:GS:=aQ (jJ (Dl (fQ (fB (mF "str" (aF 0)))) (fQ (fB (bA 1 fJ (aB (aF 0) aG))))) Sv bG)
 (cU (fL Wd (aB (aF 0) aG)))
noncomputable def cJ:List D→Option D:=lJ 1 1 (wX)
abbrev iR:Stmt:=top 26
noncomputable def Ae:GS:=aQ (bD 2 (cV (eQ (f2 dJ (aF 0) (fC (.str ",")))) [] dW (bA 1 cJ (aB (aF 0) aG))))
 (aQ (jJ (fB (f2 yZ (fL cO (aB (aF 2) aG)) (aF 1))) Sv bG)
 (cU (fL vO (aB (aF 2) aG))))
noncomputable def cW:List D→Option D:=lJ 3 2 (Ae)
abbrev jP:Stmt:=top 27
noncomputable def Ed:GS:=aQ (bD 1 (f2 dJ (aF 0) (fC (.str " "))))
 (aQ (bD 2 (cV (eQ (Ug false (aF 1) (fU) (dI (nR (fC (.int 1)))))) [] dW (bA 2 cW (aB (aF 0) (aB (fL cO (aB (fC (dTup [0,0,-1,-1,0])) aG)) aG)))))
 (cU (f2 cX (aF 2) (eG (aB (bA 2 cW (aB (f2 sH (aF 1) (nR (fC (.int 1)))) (aB (fL cO (aB (fC (dTup [0])) aG)) aG))) aG)))))
noncomputable def fK:List D→Option D:=lJ 3 1 (Ed)
abbrev vB:Stmt:=top 15
noncomputable def Qj:GS:=aQ (jJ (Dl (fQ (fB (mF "list" (aF 0)))) (fQ (Mr Oz Oz (fC (.int 1)) (fL cO (aB (aF 0) aG)) (fC (.int 8))))) (cU (fC (.bl false))) bG)
 (aQ (jJ (fQ (fB (fL Mf (aB (cV (eQ (aF 0)) [] dW (mF "list" (aF 0))) aG)))) (cU (fC (.bl false))) bG)
 (cU (uN (FN Oz Oz (fC (.int 2)) (fL cO (aB (f2 sH (aF 0) (fC (.int 0))) aG)) (fC (.int 9))) (fL Mf (aB (cV (eQ (aF 0)) [0] dW (f2 vN (fL cO (aB (aF 0) aG)) (fL cO (aB (f2 sH (aF 1) (fC (.int 0))) aG)))) aG)))))
noncomputable def mV:List D→Option D:=lJ 1 1 (Qj)
abbrev iT:Stmt:=top 28
noncomputable def Af:GS:=aQ (jJ (fQ (fB (mF "str" (aF 0)))) Sv bG)
 (aQ (bD 1 (cV (eQ (f2 dJ (aF 0) (fC (.str ";")))) [] dW (bA 1 fK (aB (aF 0) aG))))
 (aQ (jJ (fQ (fB (bA 1 mV (aB (aF 1) aG)))) Sv bG)
 (mL 1)))
noncomputable def lY:List D→Option D:=lJ 2 1 (Af)
abbrev wC:Stmt:=top 32
noncomputable def Ef:GS:=cU (uN (mF "int" (aF 0)) (Ja (mF "bool" (aF 0))))
noncomputable def rG:List D→Option D:=lJ 1 1 (Ef)
abbrev wD:Stmt:=top 33
noncomputable def Eg:GS:=aQ (jJ (Dl (fQ (fB (mF "tuple" (aF 0)))) (fB (f2 yZ (fL cO (aB (aF 0) aG)) (fL cO (aB (aF 1) aG))))) (cU (fC (.bl false))) bG)
 (aQ (uQ [] 2 (eQ (aF 0)) (jJ (fQ (fB (bA 1 rG (aB (aF 2) aG)))) (cU (fC (.bl false))) bG))
 (cU (f2 vN (aF 0) (aF 1))))
noncomputable def nZ:List D→Option D:=lJ 3 2 (Eg)
abbrev wF:Stmt:=top 35
noncomputable def Eh:GS:=aQ (jJ (Dl (fQ (fB (mF "list" (aF 0)))) (fB (f2 yZ (fL cO (aB (aF 0) aG)) (fL cO (aB (aF 1) aG))))) (cU (fC (.bl false))) bG)
 (aQ (qG 2 (nQ (aB (fL cO (aB (aF 1) aG)) aG)) (aQ (jJ (Dl (fQ (fB (mF "list" (f2 sH (aF 0) (aF 2))))) (fB (f2 yZ (fL cO (aB (f2 sH (aF 0) (aF 2)) aG)) (fL cO (aB (f2 sH (aF 1) (aF 2)) aG))))) (cU (fC (.bl false))) bG)
 (qG 3 (nQ (aB (fL cO (aB (f2 sH (aF 1) (aF 2)) aG)) aG)) (jJ (fQ (fB (bA 2 nZ (aB (f2 sH (f2 sH (aF 0) (aF 2)) (aF 3)) (aB (f2 sH (f2 sH (aF 1) (aF 2)) (aF 3)) aG))))) (cU (fC (.bl false))) bG))))
 (cU (fC (.bl true))))
noncomputable def lN:List D→Option D:=lJ 4 2 (Eh)
noncomputable def lB(κ:Nat→Addr):GZ:=Uj (Dl (fQ (fB (mF "str" (aF 0)))) (fQ (fB (bA 1 fJ (aB (aF 0) aG))))) (qi 0 (aB (fC (.str "this writes no number")) aG)) (qe)
noncomputable def cR(κ:Nat→Addr):List D→Option Nat:=Sy 1 1 (lB κ)
noncomputable def oZ(κ:Nat→Addr):GZ:=Ze (qL (eQ (f2 dJ (aF 0) (fC (.str ",")))) [] (bA 1 cJ (aB (aF 0) aG)) (nF (cR κ) (aB (aF 0) aG))) (uV (bD 2 (cV (eQ (f2 dJ (aF 0) (fC (.str ",")))) [] dW (bA 1 cJ (aB (aF 0) aG)))) (Uj (fB (f2 yZ (fL cO (aB (aF 2) aG)) (aF 1))) (qi 0 (aB (fC (.str "a thing has too few or too many numbers")) aG)) (qe)))
noncomputable def bZ(κ:Nat→Addr):List D→Option Nat:=Sy 3 2 (oZ κ)
noncomputable def rH(κ:Nat→Addr):GZ:=uV (bD 1 (f2 dJ (aF 0) (fC (.str " ")))) (Ze (qL (eQ (Ug false (aF 1) (fU) (dI (nR (fC (.int 1)))))) [] (bA 2 cW (aB (aF 0) (aB (fL cO (aB (fC (dTup [0,0,-1,-1,0])) aG)) aG))) (nF (bZ κ) (aB (aF 0) (aB (fL cO (aB (fC (dTup [0,0,-1,-1,0])) aG)) aG)))) (uV (bD 2 (cV (eQ (Ug false (aF 1) (fU) (dI (nR (fC (.int 1)))))) [] dW (bA 2 cW (aB (aF 0) (aB (fL cO (aB (fC (dTup [0,0,-1,-1,0])) aG)) aG))))) (zX (Wz (aF 2) (nF (bZ κ) (aB (f2 sH (aF 1) (nR (fC (.int 1)))) (aB (fL cO (aB (fC (dTup [0])) aG)) aG)))))))
noncomputable def jQ(κ:Nat→Addr):List D→Option Nat:=Sy 3 1 (rH κ)
noncomputable def jR(κ:Nat→Addr):GZ:=Ze (Uj (fQ (fB (mF "str" (aF 0)))) (qi 0 (aB (fC (.str "this is no text")) aG)) (qe)) (uV (jJ (fQ (fB (mF "str" (aF 0)))) Sv bG) (Ze (qL (eQ (f2 dJ (aF 0) (fC (.str ";")))) [] (bA 1 fK (aB (aF 0) aG)) (nF (jQ κ) (aB (aF 0) aG))) (uV (bD 1 (cV (eQ (f2 dJ (aF 0) (fC (.str ";")))) [] dW (bA 1 fK (aB (aF 0) aG)))) (Uj (fQ (fB (bA 1 mV (aB (aF 1) aG)))) (qi 0 (aB (fC (.str "there are too few or too many panes or things")) aG)) (qe)))))
noncomputable def cA(κ:Nat→Addr):List D→Option Nat:=Sy 2 1 (jR κ)
abbrev Ag:Stmt:=top 41
noncomputable def Ah(κ:Nat→Addr):GS:=aQ (bD 2 (eG aG))
 (aQ (bD 3 (fC .non))
 (aQ (Bv (zX (nF (cA κ) (aB (aF 0) aG))) (bD 3 (bA 1 lY (aB (aF 0) aG))) wB 1 11 (fun i=>(1,gw 4 (aQ (bD 2 (eG (aB (fC (.bl (wB i 0))) (aB (fC (.bl true)) aG)))) (aQ (bD 2 (f2 cX (aF 2) (eG (aB (fC (.bl (([2,3,4,5,6]:List Nat).any (wB i)))) (aB (fC (.bl (([7,9]:List Nat).any (wB i)))) aG))))) (bD 2 (f2 cX (aF 2) (eG (aB (fC (.bl (([8,10]:List Nat).any (wB i)))) aG)))))))::[]))
 (aQ (jJ (fB (f2 (XF false) (aF 1) (fC .non))) (cU (f2 HS (aF 2) (eG (aB (fC (.bl true)) (aB (fC (.bl true)) (aB (fC (.bl false)) (aB (fC (.bl false)) (aB (fC (.bl false)) aG)))))))) bG)
 (cU (uN (f2 HS (aF 2) (eG aG)) (bA 2 lN (aB (aF 3) (aB (aF 1) aG))))))))
noncomputable def iG(κ:Nat→Addr):List D→Option D:=lJ 5 2 (Ah κ)
abbrev rJ:Stmt:=top 38
noncomputable def Ei:GS:=aQ (bD 1 (bA 2 dZ (aB (aF 0) (aB (fC (.int 0)) aG))))
 (aQ (bD 2 (f2 cX (fC (.int 1)) (f2 eH (f2 mD (aF 1) (fC (.int 4))) (fC (.int 3)))))
 (aQ (jJ (fB (f2 vN (f2 eH (aF 1) (fC (.int 4))) (fC (.int 0)))) (bD 2 (f2 cX (fC (.int 7)) (f2 eH (f2 mD (aF 1) (fC (.int 4))) (fC (.int 3))))) bG)
 (aQ (bD 3 (f2 cX (fC (.int 2)) (f2 eH (f2 mD (aF 1) (fC (.int 64))) (fC (.int 3)))))
 (aQ (jJ (fB (f2 vN (f2 eH (aF 1) (fC (.int 4))) (fC (.int 1)))) (bD 3 (Ir (f2 sH (eG (aB (fC (.int 1)) (aB (fC (.int 9)) (aB (fC (.int 10)) aG)))) (f2 eH (f2 mD (aF 1) (fC (.int 64))) (fC (.int 3)))))) bG)
 (aQ (bD 4 (cV (nQ (aB (aF 2) aG)) [3] dW (f2 cX (f2 Bw (eG (aB (fC (.int 5)) aG)) (f2 Bp (aF 1) (fC (.int 1)))) (eG (aB (fC (.int 1)) aG)))))
 (aQ (bD 1 (bA 2 dZ (aB (aF 0) (aB (fC (.int 1)) aG))))
 (aQ (bD 5 (f2 eH (f2 mD (aF 1) (fC (.int 8))) (aF 2)))
 (aQ (jJ (fB (f2 vN (f2 eH (aF 1) (fC (.int 8))) (fC (.int 0)))) (Ms 4 (Uh rZ (aF 5)) (fC (.int 0)) (fC (.int 5))) bG)
 (aQ (jJ (fB (f2 vN (f2 eH (aF 1) (fC (.int 8))) (fC (.int 1)))) (zF 4 (Uh rZ (aF 5)) (fC (.int 0))) bG)
 (aQ (jJ (fB (f2 vN (f2 eH (aF 1) (fC (.int 8))) (fC (.int 2)))) (wR 4 (Uh rZ (aF 5)) (f2 eH (f2 mD (aF 1) (fC (.int 128))) (aF 3)) (f2 cX (fC (.int 1)) (f2 eH (f2 mD (aF 1) (fC (.int 2048))) (fC (.int 6))))) bG)
 (mL 4)))))))))))
noncomputable def oE:List D→Option D:=lJ 6 1 (Ei)
abbrev tQ:Stmt:=top 36
noncomputable def Ai:GS:=aQ (bD 1 (Ir (aF 0)))
 (aQ (jJ (fB (f2 vN (vX (aF 0) (fU) (dI (fC (.int 1)))) (fC (.str "-")))) (bD 1 (vX (aF 0) (dI (fC (.int 1))) (fU))) bG)
 (aQ (jJ (Dl (fB (f2 Zd (fL qH (aB (aF 1) aG)) (fC (.int 1)))) (fB (f2 gn (fL qH (aB (aF 1) aG)) (fC (.int 60))))) (cU (fC .non)) bG)
 (aQ (bD 2 (fC (.int 0)))
 (aQ (uQ [1] 3 (Mv (aF 1)) (aQ (bD 4 (f2 Pz (fC (.str "0123456789")) (aF 3)))
 (aQ (jJ (fB (f2 Zd (aF 4) (fC (.int 0)))) (cU (fC .non)) bG)
 (bD 2 (f2 cX (f2 yW (aF 2) (fC (.int 10))) (aF 4))))))
 (aQ (jJ (Lz (fB (f2 vN (f2 Ga (aF 1) (fC (.int 0))) (fC (.str "0")))) (fB (f2 yZ (aF 0) (fC (.str "0"))))) (cU (fC .non)) bG)
 (aQ (jJ (fB (f2 yZ (aF 1) (aF 0))) (cU (nR (aF 2))) bG)
 (mL 2)))))))
noncomputable def lZ:List D→Option D:=lJ 5 1 (Ai)
abbrev vC:Stmt:=top 37
noncomputable def Qk:GS:=aQ (bD 1 (eG aG))
 (aQ (uQ [] 2 (eQ (f2 dJ (aF 0) (fC (.str ";")))) (aQ (bD 3 (eG aG))
 (aQ (uQ [2] 4 (eQ (f2 dJ (aF 2) (fC (.str " ")))) (aQ (bD 5 (cV (eQ (f2 dJ (aF 4) (fC (.str ",")))) [] dW (bA 1 lZ (aB (aF 0) aG))))
 (aQ (jJ (fB (f2 (kj false) (fC .non) (aF 5))) (cU (fC .non)) bG)
 (Br 3 rZ (fL vO (aB (aF 5) aG))))))
 (Dt 1 3))))
 (aQ (bD 6 (fL cO (aB (f2 sH (aF 1) (fC (.int 0))) aG)))
 (aQ (jJ (Dl (fB (f2 gn (fL cO (aB (aF 1) aG)) (fC (.int 8)))) (Dl (fB (f2 Zd (aF 6) (fC (.int 2)))) (fB (f2 gn (aF 6) (fC (.int 9)))))) (cU (fC .non)) bG)
 (aQ (Dw 1 3 (fB (f2 yZ (cV (eQ (aF 3)) [] dW (fL cO (aB (aF 0) aG))) (f2 cX (f2 Bw (eG (aB (fC (.int 5)) aG)) (f2 Bp (aF 6) (fC (.int 1)))) (eG (aB (fC (.int 1)) aG))))) (fC .non))
 (mL 1)))))
noncomputable def rK:List D→Option D:=lJ 7 1 (Qk)
abbrev aa:Stmt:=top 42
noncomputable def ue(κ:Nat→Addr):GS:=aQ (wQ 1 (eG (aB (fC .non) (aB (fC (.int 7)) (aB (fC (.bl true)) (aB (eG (aB (fC (.str "0,0,-1,-1,0 0")) aG)) (aB (Iv (aB (fC (.str "0,0,-1,-1,0 0")) aG)) (aB (eG (aB (eG (aB (Iv (aB (fC (.int 0)) (aB (fC (.int 0)) (aB (nR (fC (.int 1))) (aB (nR (fC (.int 1))) (aB (fC (.int 0)) aG)))))) (aB (Iv (aB (fC (.int 0)) aG)) aG))) aG)) (aB (fC (.str "")) aG)))))))))
 (aQ (jJ (fQ (fB (bA 2 (iG κ) (aB (f2 sH (aF 1) (f2 eH (bA 2 dZ (aB (aF 0) (aB (fC (.int 4)) aG))) (fC (.int 7)))) (aB (fC .non) aG))))) (cU (fC (.bl false))) bG)
 (aQ (bD 2 (bA 2 qP (aB (aF 0) (aB (bA 1 oE (aB (aF 0) aG)) aG))))
 (aQ (jJ (fQ (fB (bA 2 (iG κ) (aB (aF 2) (aB (bA 1 rK (aB (aF 2) aG)) aG))))) (cU (fC (.bl false))) bG)
 (aQ (bD 2 (bA 2 lX (aB (aF 0) (aB (aF 2) aG))))
 (cU (bA 2 (iG κ) (aB (aF 2) (aB (bA 1 rK (aB (aF 2) aG)) aG))))))))
noncomputable def aj(κ:Nat→Addr):List D→Option D:=lJ 3 1 (ue κ)
section
variable{P:Program}{w:World}{K:aA}{mg:Str→Option Value}{base:Heap}
A9 oF:bO ["script", "k", "turn", "factor", "mixed"] ["script", "k"] (aM Ab):=by walk_at "fs"
A9 Ni(R:Raw K mg "_law_draw" Ab) (cD:mg "len" = none):mG P w K mg base "_law_draw" 1 2 (nC K 2 dZ):=by
 &R.sE oF (fun _ _ _ _ _ _ us hl=>match us,hl with | [_,_],_=>rfl) (fun _ _ _ _ _ _ _ hr=>?_)
 have dO:=hr.units
 have hu:=iC hr
 ~⟨_,aK (cP (bY (or_eq dO rfl) pW (XN.r (cN cG (cH rfl) rfl cD C7 (aD (aJ (pv 0)) aL))) (XN.r (aH)) (bM _)) (aR (bF aH)) bK)
  (aK (bB (i:=2) (jN (aJ (pv 1)) (XN.r (cN cG (cH rfl) rfl cD C7 (aD (aJ (pv 0)) aL)))) (fun h=>aY oF.nd rfl (by first | ~D4 rfl | ~D3 rfl) h))
  (aK (bB (i:=3) (fX (XN.r (aH)) (XN.r (tD (XN.r (tD (XN.r (aH)) (aJ (pv 2)))) (aJ (pv 2))))) (fun h=>aY oF.nd rfl (by first | ~D4 rfl | ~D3 rfl) h))
  (aK (bB (i:=4) (fX (XN.r (tD (kO (aJ (pv 0)) (XN.r (cF (aJ (pv 1)) (XN.r (cN cG (cH rfl) rfl cD C7 (aD (aJ (pv 0)) aL))))) (fun _ _=>rfl)) (aJ (pv 3)))) (XN.r (tD (XN.r (tD (aJ (pv 1)) (aJ (pv 1)))) (XN.r (aH))))) (fun h=>aY oF.nd rfl (by first | ~D4 rfl | ~D3 rfl) h))
  (aK (bB (i:=4) (cF (aJ (pv 4)) (XN.r (aH))) (fun h=>aY oF.nd rfl (by first | ~D4 rfl | ~D3 rfl) h))
  (aR (bF (cF (XN.r (tD (aJ (pv 4)) (aJ (pv 4)))) (XN.r (aH)))))))))⟩
A9 fM:bO ["script", "shape", "panes", "at", "pane", "words", "count", "numbers", "j", "some"] ["script", "shape"] (aM Ac):=by walk_at "fs"
A9 Nj(R:Raw K mg "_law_text" Ac) (dD:mG P w K mg base "_law_draw" 1 2 (nC K 2 dZ)) (nH:mg "range" = none) (sG:mg "str" = none):mG P w K mg base "_law_text" 2 2 (nC K 2 qP):=by
 &R.sE fM (fun _ _ _ _ _ _ us hl=>match us,hl with | [_,_],_=>rfl) (fun _ _ _ _ _ _ _ hr=>?_)
 have dO:=hr.units
 have hu:=iC hr
 ~⟨_,aK (bB (i:=2) (pY lU) (fun h=>aY fM.nd rfl (by first | ~D4 rfl | ~D3 rfl) h))
  (aK (bB (i:=3) aH (fun h=>aY fM.nd rfl (by first | ~D4 rfl | ~D3 rfl) h))
  (aK (vP [] PassesOwn.never rfl (eU (aJ (pv 1))) (jA (i:=4) fM.nd rfl (by first | ~D4 rfl | ~D3 rfl)) (aK (bB (i:=5) (pY lU) (fun h=>aY fM.nd rfl (by first | ~D4 rfl | ~D3 rfl) h))
  (aK (vP [4] PassesOwn.never rfl (eU (aJ (pv 4))) (jA (i:=6) fM.nd rfl (by first | ~D4 rfl | ~D3 rfl)) (aK (bB (i:=7) (pY lU) (fun h=>aY fM.nd rfl (by first | ~D4 rfl | ~D3 rfl) h))
  (aK (Fz PassesOwn.never rfl (vR rfl nH (aD (aJ (pv 6)) aL)) (jA (i:=8) fM.nd rfl (by first | ~D4 rfl | ~D3 rfl)) (aK (bB (i:=9) (bJ dD (hr.mono A5) rfl (aD (aJ (pv 0)) (aD (aJ (pv 3)) aL))) (fun h=>aY fM.nd rfl (by first | ~D4 rfl | ~D3 rfl) h))
  (aK (bB (i:=3) (fX (aJ (pv 3)) (XN.r (aH))) (fun h=>aY fM.nd rfl (by first | ~D4 rfl | ~D3 rfl) h))
  (aR (Fy (Mm (pv 7)) (Pb DX Es rfl sG L6 (aD (kO (lV (aD (XN.r (cF (XN.r (jN (aJ (pv 9)) (XN.r (aH)))) (XN.r (aH)))) (aD (XN.r (cF (XN.r (jN (aJ (pv 9)) (XN.r (aH)))) (XN.r (aH)))) (aD (XN.r (cF (XN.r (jN (aJ (pv 9)) (XN.r (aH)))) (XN.r (aH)))) (aD (XN.r (Lx (XN.r (lK (XN.r (aH)))) (XN.r (cF (XN.r (jN (aJ (pv 9)) (XN.r (aH)))) (XN.r (aH)))))) aL))))) (XN.r (cF (aJ (pv 9)) (XN.r (aH)))) (fun _ _=>rfl)) aL)) (fun a b=>oM (gD J8 L9 M0 jM a (aV b bI))))))))
  (aR (Fy (Mm (pv 5)) (Ge (XN.r (fP)) (aJ (pv 7)) (fun a b=>gD D6 Q4 Q5 Gd a (aV b bI))) (fun a b=>oM (gD J8 L9 M0 jM a (aV b bI))))))))
  (aR (Fy (Mm (pv 2)) (Ge (XN.r (fP)) (aJ (pv 5)) (fun a b=>gD D6 Q4 Q5 Gd a (aV b bI))) (fun a b=>oM (gD J8 L9 M0 jM a (aV b bI))))))))
  (aR (bF (Ge (XN.r (fP)) (aJ (pv 2)) (fun a b=>gD D6 Q4 Q5 Gd a (aV b bI)))))))⟩
A9 mW:bO ["script", "text", "some", "at", "sign"] ["script", "text"] (aM tO):=by walk_at "fs"
A9 Gv(R:Raw K mg "_law_spoilt" tO) (dD:mG P w K mg base "_law_draw" 1 2 (nC K 2 dZ)) (cD:mg "len" = none):mG P w K mg base "_law_spoilt" 2 2 (nC K 2 lX):=by
 &R.sE mW (fun _ _ _ _ _ _ us hl=>match us,hl with | [_,_],_=>rfl) (fun _ _ _ _ _ _ _ hr=>?_)
 have dO:=hr.units
 have hu:=iC hr
 ~⟨_,aK (bB (i:=2) (bJ dD (hr.mono A5) rfl (aD (aJ (pv 0)) (aD (XN.r (aH)) aL))) (fun h=>aY mW.nd rfl (by first | ~D4 rfl | ~D3 rfl) h))
  (aK (bB (i:=3) (cF (XN.r (bJ dD (hr.mono A5) rfl (aD (aJ (pv 0)) (aD (XN.r (aH)) aL)))) (XN.r (fX (XN.r (cN xX lG rfl cD C7 (aD (aJ (pv 1)) aL))) (XN.r (aH))))) (fun h=>aY mW.nd rfl (by first | ~D4 rfl | ~D3 rfl) h))
  (aK (bB (i:=4) (Mt (XN.r (fP)) (XN.r (cF (XN.r (jN (aJ (pv 2)) (XN.r (aH)))) (XN.r (aH)))) (fun _ _=>rfl)) (fun h=>aY mW.nd rfl (by first | ~D4 rfl | ~D3 rfl) h))
  (aK (cP (bY Cm iQ (XN.r (cF (aJ (pv 2)) (XN.r (aH)))) (XN.r (aH)) (bM _)) (aR (uP (pv 1))) bK)
  (aK (cP (bY Cm iQ (XN.r (cF (aJ (pv 2)) (XN.r (aH)))) (XN.r (aH)) (bM _)) (aR (bF (uT (XN.r (uT (XN.r (oW (aJ (pv 1)) (iH) (iI (aJ (pv 3))))) (aJ (pv 4)))) (XN.r (oW (aJ (pv 1)) (iI (aJ (pv 3))) (iH)))))) bK)
  (aK (cP (bY Cm iQ (XN.r (cF (aJ (pv 2)) (XN.r (aH)))) (XN.r (aH)) (bM _)) (aR (bF (uT (XN.r (uT (XN.r (oW (aJ (pv 1)) (iH) (iI (aJ (pv 3))))) (aJ (pv 4)))) (XN.r (oW (aJ (pv 1)) (iI (XN.r (fX (aJ (pv 3)) (XN.r (aH))))) (iH)))))) bK)
  (aR (bF (uT (XN.r (oW (aJ (pv 1)) (iH) (iI (aJ (pv 3))))) (XN.r (oW (aJ (pv 1)) (iI (XN.r (fX (aJ (pv 3)) (XN.r (aH))))) (iH)))))))))))⟩
A9 Aj:bO ["text", "figures"] ["text"] (aM rF):=by walk_at "fs"
A9 Ka(R:Raw K mg "is_number" rF) (cD:mg "len" = none) (Nk:mg "all" = none) (Nm:kZ mg "MINUS" "-") (pA:Pj mg "MOST_FIGURES" (60)) (Ak:kZ mg "FIGURES" "0123456789") (Ql:kZ mg "ZERO" "0"):mG P w K mg base "is_number" 1 1 (nC K 1 fJ):=by
 &R.sE Aj (fun _ _ _ _ _ _ us hl=>match us,hl with | [_],_=>rfl) (fun _ _ _ _ _ _ _ hr=>?_)
 have dO:=hr.units
 have hu:=iC hr
 ~⟨_,aK (bB (i:=1) (lu (dU (XN.r (Wf (aJ (pv 0)) (XN.r (pF Nm rfl)) (fun a b=>gD D6 PySem.F.slot_str_startswith PySem.F.type_str_startswith We a (aV b bI))))) (oW (aJ (pv 0)) (iI (XN.r (aH))) (iH)) (XR.n (aJ (pv 0)))) (fun h=>aY Aj.nd rfl (by first | ~D4 rfl | ~D3 rfl) h))
  (aK (cP (dH (Jj Cp Cp iQ iQ (XN.r (aH)) (XN.r (cN xX lG rfl cD C7 (aD (aJ (pv 1)) aL))) (XN.r (nq pA rfl)))) (aR (bF (jG))) bK)
  (aK (cP (dH (dU (XN.r (cN Mg (Mh rfl) rfl Nk Q6 (aD (XN.r (xV ["sign"] [] rfl (.at (aM rF) ["text", "figures"] A4) (Wg (aJ (pv 1))) (eN A4 rfl rfl) (fun _ _ _ _ _=>iJ) (fun _ _ _ _ _=>tE YD YC (aJ (pv 0)) (XN.r (pF Ak rfl)) (by with_unfolding_all rfl)))) aL))))) (aR (bF (jG))) bK)
  (aR (bF (lr (XN.r (tE (uL dO rfl) uK (XN.r (Mt (aJ (pv 1)) (XN.r (aH)) (fun _ _=>rfl))) (XN.r (pF Ql rfl)) (bM _))) (xU (tE (or_eq dO rfl) pW (aJ (pv 0)) (XN.r (pF Ql rfl)) (bM _))))))))⟩
A9 vD:bO ["text"] ["text"] (aM mU):=by walk_at "fs"
A9 Bx(R:Raw K mg "read_number" mU) (lO:mG P w K mg base "is_number" 1 1 (nC K 1 fJ)) (aP:mg "isinstance" = none) (sG:mg "str" = none) (Tt:mg "int" = none):mG P w K mg base "read_number" 2 1 (nC K 1 cJ):=by
 &R.sE vD (fun _ _ _ _ _ _ us hl=>match us,hl with | [_],_=>rfl) (fun _ _ _ _ _ _ _ hr=>?_)
 have dO:=hr.units
 have hu:=iC hr
 ~⟨_,aK (cP (XW.xt (uM (dH (dU (XN.r (lD (aJ (pv 0)) (gQ (v:=.ty "str") rfl sG L6 rfl) rfl aP)))) (pZ (dH (dU (XN.r (bJ lO (hr.mono A5) rfl (aD (aJ (pv 0)) aL)))))))) (aR (zB)) bK)
  (aR (bF (Pb EY DY rfl Tt V1 (aD (aJ (pv 0)) aL))))⟩
A9 mX:bO ["text", "many", "numbers"] ["text", "many"] (aM iR):=by walk_at "fs"
A9 Gw(R:Raw K mg "read_thing" iR) (gJ:mG P w K mg base "read_number" 2 1 (nC K 1 cJ)) (cD:mg "len" = none) (pB:mg "tuple" = none) (cL:kZ mg "BETWEEN_NUMBERS" ","):mG P w K mg base "read_thing" 3 2 (nC K 2 cW):=by
 &R.sE mX (fun _ _ _ _ _ _ us hl=>match us,hl with | [_,_],_=>rfl) (fun _ _ _ _ _ _ _ hr=>?_)
 have dO:=hr.units
 have hu:=iC hr
 ~⟨_,aK (mO (i:=2) ["word"] [] rfl (.at (aM iR) ["text", "many", "numbers"] A4) mX.nd rfl (by first | ~D4 rfl | ~D3 rfl) (eU (XN.r (gH (aJ (pv 0)) (XN.r (pF cL rfl)) (fun a b=>gD D6 F4 F5 gG a (aV b bI))))) (eN A4 rfl rfl) (fun _ _ _ _ _=>iJ) (fun _ _ _ _ _=>bJ gJ (hr.mono A5) rfl (aD (aJ (pv 0)) aL)))
  (aK (cP (bY (uL dO rfl) uK (XN.r (cN cG (cH rfl) rfl cD C7 (aD (aJ (pv 2)) aL))) (aJ (pv 1)) (bM _)) (aR (zB)) bK)
  (aR (bF (Pb Jb (Jc rfl) rfl pB P2 (aD (aJ (pv 2)) aL)))))⟩
A9 jT:bO ["text", "words", "records"] ["text"] (aM jP):=by walk_at "fs"
A9 Kc(R:Raw K mg "read_pane" jP) (gK:mG P w K mg base "read_thing" 3 2 (nC K 2 cW)) (cD:mg "len" = none) (eE:kZ mg "BETWEEN_THINGS" " ") (dF:wU K mg "BLANK_RECORD" [0,0,-1,-1,0]) (jU:wU K mg "BLANK_SEAL" [0]):mG P w K mg base "read_pane" 4 1 (nC K 1 fK):=by
 &R.sE jT (fun _ _ _ _ _ _ us hl=>match us,hl with | [_],_=>rfl) (fun _ _ _ _ _ _ _ hr=>?_)
 have dO:=hr.units
 have hu:=iC hr
 ~⟨_,aK (bB (i:=1) (gH (aJ (pv 0)) (XN.r (pF eE rfl)) (fun a b=>gD D6 F4 F5 gG a (aV b bI))) (fun h=>aY jT.nd rfl (by first | ~D4 rfl | ~D3 rfl) h))
  (aK (mO (i:=2) ["word"] [] rfl (.at (aM jP) ["text", "words", "records"] A4) jT.nd rfl (by first | ~D4 rfl | ~D3 rfl) (eU (zA (aJ (pv 1)) (iH) (iI (XN.r (lK (XN.r (aH))))))) (eN A4 rfl rfl) (fun _ _ _ _ _=>iJ) (fun _ _ _ _ _=>bJ gK (hr.mono A5) rfl (aD (aJ (pv 0)) (aD (XN.r (cN cG (cH rfl) rfl cD C7 (aD (XN.r (Dp dF rfl)) aL))) aL))))
  (aR (bF (fX (aJ (pv 2)) (lV (aD (XN.r (bJ gK (hr.mono A5) rfl (aD (kO (aJ (pv 1)) (XN.r (lK (XN.r (aH)))) (fun _ _=>rfl)) (aD (XN.r (cN cG (cH rfl) rfl cD C7 (aD (XN.r (Dp jU rfl)) aL))) aL)))) aL))))))⟩
A9 Xn:bO ["thing"] ["thing"] (aM vB):=by walk_at "fs"
A9 Tu(R:Raw K mg "is_grid" vB) (cD:mg "len" = none) (aP:mg "isinstance" = none) (wY:mg "list" = none) (Nk:mg "all" = none):mG P w K mg base "is_grid" 1 1 (nC K 1 mV):=by
 &R.sE Xn (fun _ _ _ _ _ _ us hl=>match us,hl with | [_],_=>rfl) (fun _ _ _ _ _ _ _ hr=>?_)
 have dO:=hr.units
 have hu:=iC hr
 ~⟨_,aK (cP (XW.xt (uM (dH (dU (XN.r (lD (aJ (pv 0)) (gQ (v:=.ty "list") rfl wY N4 rfl) rfl aP)))) (pZ (dH (Jj Cp Cp iQ iQ (XN.r (aH)) (XN.r (cN cG (cH rfl) rfl cD C7 (aD (aJ (pv 0)) aL))) (XN.r (aH))))))) (aR (bF (jG))) bK)
  (aK (cP (dH (dU (XN.r (cN Mg (Mh rfl) rfl Nk Q6 (aD (XN.r (xV ["pane"] [] rfl (.at (aM vB) ["thing"] A4) (eU (aJ (pv 0))) (eN A4 rfl rfl) (fun _ _ _ _ _=>iJ) (fun _ _ _ _ _=>lD (aJ (pv 0)) (gQ (v:=.ty "list") rfl wY N4 rfl) rfl aP))) aL))))) (aR (bF (jG))) bK)
  (aR (bF (Ma (XN.r (Wh Cp Cp iQ iQ (XN.r (aH)) (XN.r (cN cG (cH rfl) rfl cD C7 (aD (kO (aJ (pv 0)) (XN.r (aH)) (fun _ _=>rfl)) aL))) (XN.r (aH)))) (xU (cN Mg (Mh rfl) rfl Nk Q6 (aD (XN.r (xV ["pane", "thing"] [0] rfl (.at (aM vB) ["thing"] A4) (eU (aJ (pv 0))) (eN A4 rfl rfl) (fun _ _ _ _ _=>iJ) (fun _ _ _ _ _=>tE (or_eq dO rfl) pW (XN.r (cN cG (cH rfl) rfl cD C7 (aD (aJ (pv 0)) aL))) (XN.r (cN cG (cH rfl) rfl cD C7 (aD (kO (aJ (pv 1)) (XN.r (aH)) (fun _ _=>rfl)) aL))) (bM _)))) aL)))))))⟩
A9 mY:bO ["text", "stone"] ["text"] (aM iT):=by walk_at "fs"
A9 Gx(R:Raw K mg "read_stone" iT) (jV:mG P w K mg base "read_pane" 4 1 (nC K 1 fK)) (rM:mG P w K mg base "is_grid" 1 1 (nC K 1 mV)) (aP:mg "isinstance" = none) (sG:mg "str" = none) (dM:kZ mg "BETWEEN_PANES" ";"):mG P w K mg base "read_stone" 5 1 (nC K 1 lY):=by
 &R.sE mY (fun _ _ _ _ _ _ us hl=>match us,hl with | [_],_=>rfl) (fun _ _ _ _ _ _ _ hr=>?_)
 have dO:=hr.units
 have hu:=iC hr
 ~⟨_,aK (cP (dH (dU (XN.r (lD (aJ (pv 0)) (gQ (v:=.ty "str") rfl sG L6 rfl) rfl aP)))) (aR (zB)) bK)
  (aK (mO (i:=1) ["written"] [] rfl (.at (aM iT) ["text", "stone"] A4) mY.nd rfl (by first | ~D4 rfl | ~D3 rfl) (eU (XN.r (gH (aJ (pv 0)) (XN.r (pF dM rfl)) (fun a b=>gD D6 F4 F5 gG a (aV b bI))))) (eN A4 rfl rfl) (fun _ _ _ _ _=>iJ) (fun _ _ _ _ _=>bJ jV (hr.mono A5) rfl (aD (aJ (pv 0)) aL)))
  (aK (cP (dH (dU (XN.r (bJ rM (hr.mono A5) rfl (aD (aJ (pv 1)) aL))))) (aR (zB)) bK)
  (aR (uP (pv 1)))))⟩
A9 Np:bO ["some"] ["some"] (aM wC):=by walk_at "fs"
A9 Kd(R:Raw K mg "_law_whole" wC) (aP:mg "isinstance" = none) (Xo:mg "bool" = none) (Tt:mg "int" = none):mG P w K mg base "_law_whole" 1 1 (nC K 1 rG):=by
 &R.sE Np (fun _ _ _ _ _ _ us hl=>match us,hl with | [_],_=>rfl) (fun _ _ _ _ _ _ _ hr=>?_)
 have dO:=hr.units
 have hu:=iC hr
 ~⟨_,aR (bF (Ma (XN.r (lD (aJ (pv 0)) (gQ (v:=.ty "int") rfl Tt V1 rfl) rfl aP)) (xU (WL (XN.r (lD (aJ (pv 0)) (gQ (v:=.ty "bool") rfl Xo PyProof.Rows.boot_bool rfl) rfl aP))))))⟩
A9 Al:bO ["told", "due", "number"] ["told", "due"] (aM wD):=by walk_at "fs"
A9 Ke(R:Raw K mg "_law_tuple" wD) (wG:mG P w K mg base "_law_whole" 1 1 (nC K 1 rG)) (cD:mg "len" = none) (aP:mg "isinstance" = none) (pB:mg "tuple" = none):mG P w K mg base "_law_tuple" 2 2 (nC K 2 nZ):=by
 &R.sE Al (fun _ _ _ _ _ _ us hl=>match us,hl with | [_,_],_=>rfl) (fun _ _ _ _ _ _ _ hr=>?_)
 have dO:=hr.units
 have hu:=iC hr
 ~⟨_,aK (cP (XW.xt (uM (dH (dU (XN.r (lD (aJ (pv 0)) (gQ (v:=.ty "tuple") rfl pB P2 rfl) rfl aP)))) (pZ (bY (uL dO rfl) uK (XN.r (cN cG (cH rfl) rfl cD C7 (aD (aJ (pv 0)) aL))) (XN.r (cN cG (cH rfl) rfl cD C7 (aD (aJ (pv 1)) aL))) (bM _))))) (aR (bF (jG))) bK)
  (aK (vP [] PassesOwn.never rfl (eU (aJ (pv 0))) (jA (i:=2) Al.nd rfl (by first | ~D4 rfl | ~D3 rfl)) (aR (cP (dH (dU (XN.r (bJ wG (hr.mono A5) rfl (aD (aJ (pv 2)) aL))))) (aR (bF (jG))) bK)))
  (aR (bF (tE (or_eq dO rfl) pW (aJ (pv 0)) (aJ (pv 1)) (bM _)))))⟩
A9 tR:bO ["told", "due", "k", "j"] ["told", "due"] (aM wF):=by walk_at "fs"
A9 Kf(R:Raw K mg "_law_alike" wF) (wH:mG P w K mg base "_law_tuple" 2 2 (nC K 2 nZ)) (cD:mg "len" = none) (aP:mg "isinstance" = none) (wY:mg "list" = none) (nH:mg "range" = none):mG P w K mg base "_law_alike" 3 2 (nC K 2 lN):=by
 &R.sE tR (fun _ _ _ _ _ _ us hl=>match us,hl with | [_,_],_=>rfl) (fun _ _ _ _ _ _ _ hr=>?_)
 have dO:=hr.units
 have hu:=iC hr
 ~⟨_,aK (cP (XW.xt (uM (dH (dU (XN.r (lD (aJ (pv 0)) (gQ (v:=.ty "list") rfl wY N4 rfl) rfl aP)))) (pZ (bY (uL dO rfl) uK (XN.r (cN cG (cH rfl) rfl cD C7 (aD (aJ (pv 0)) aL))) (XN.r (cN cG (cH rfl) rfl cD C7 (aD (aJ (pv 1)) aL))) (bM _))))) (aR (bF (jG))) bK)
  (aK (Fz PassesOwn.never rfl (vR rfl nH (aD (XN.r (cN cG (cH rfl) rfl cD C7 (aD (aJ (pv 1)) aL))) aL)) (jA (i:=2) tR.nd rfl (by first | ~D4 rfl | ~D3 rfl)) (aK (cP (XW.xt (uM (dH (dU (XN.r (lD (kO (aJ (pv 0)) (aJ (pv 2)) (fun _ _=>rfl)) (gQ (v:=.ty "list") rfl wY N4 rfl) rfl aP)))) (pZ (bY (uL dO rfl) uK (XN.r (cN cG (cH rfl) rfl cD C7 (aD (kO (aJ (pv 0)) (aJ (pv 2)) (fun _ _=>rfl)) aL))) (XN.r (cN cG (cH rfl) rfl cD C7 (aD (kO (aJ (pv 1)) (aJ (pv 2)) (fun _ _=>rfl)) aL))) (bM _))))) (aR (bF (jG))) bK)
  (aR (Fz PassesOwn.never rfl (vR rfl nH (aD (XN.r (cN cG (cH rfl) rfl cD C7 (aD (kO (aJ (pv 1)) (aJ (pv 2)) (fun _ _=>rfl)) aL))) aL)) (jA (i:=3) tR.nd rfl (by first | ~D4 rfl | ~D3 rfl)) (aR (cP (dH (dU (XN.r (bJ wH (hr.mono A5) rfl (aD (kO (kO (aJ (pv 0)) (aJ (pv 2)) (fun _ _=>rfl)) (aJ (pv 3)) (fun _ _=>rfl)) (aD (kO (kO (aJ (pv 1)) (aJ (pv 2)) (fun _ _=>rfl)) (aJ (pv 3)) (fun _ _=>rfl)) aL)))))) (aR (bF (jG))) bK))))))
  (aR (bF (jG))))⟩
A9 Am{κ:Nat→Addr}(R:Raw K mg "read_number" mU) (lO:mG P w K mg base "is_number" 1 1 (nC K 1 fJ)) (gU:oJ K mg "NoText" (κ 0)) (aP:mg "isinstance" = none) (sG:mg "str" = none):Bu P w K mg base "read_number" 2 1 (Ui K κ 1 (cR κ)):=by
 &R.GX vD (fun _ _ _ _ _ _ us hl=>match us,hl with | [_],_=>rfl) (fun _ _ _ _ _ _ _ hr=>?_)
 have dO:=hr.units
 have hu:=iC hr
 ~⟨_,cZ (Pq (XW.xt (uM (dH (dU (XN.r (lD (aJ (pv 0)) (gQ (v:=.ty "str") rfl sG L6 rfl) rfl aP)))) (pZ (dH (dU (XN.r (bJ lO (hr.mono A5) rfl (aD (aJ (pv 0)) aL)))))))) (cZ (uY gU rfl (aD (XN.r (fP)) aL))) (Gg))⟩
A9 By{κ:Nat→Addr}(R:Raw K mg "read_thing" iR) (gJ:mG P w K mg base "read_number" 2 1 (nC K 1 cJ)) (qQ:Bu P w K mg base "read_number" 2 1 (Ui K κ 1 (cR κ))) (gU:oJ K mg "NoText" (κ 0)) (cD:mg "len" = none) (cL:kZ mg "BETWEEN_NUMBERS" ","):Bu P w K mg base "read_thing" 3 2 (Ui K κ 2 (bZ κ)):=by
 &R.GX mX (fun _ _ _ _ _ _ us hl=>match us,hl with | [_,_],_=>rfl) (fun _ _ _ _ _ _ _ hr=>?_)
 have dO:=hr.units
 have hu:=iC hr
 ~⟨_,Gh (cZ (Gp ["word"] [] vY rfl (.at (aM iR) ["text", "many", "numbers"] A4) (eU (XN.r (gH (aJ (pv 0)) (XN.r (pF cL rfl)) (fun a b=>gD D6 F4 F5 gG a (aV b bI))))) (eN A4 rfl rfl) (fun _ _ _ _ _=>bJ gJ (hr.mono A5) rfl (aD (aJ (pv 0)) aL)) (fun _ _ _ _ _ _=>uW qQ uX (hr.mono A5) rfl (aD (aJ (pv 0)) aL)))) (qI (mO (i:=2) ["word"] [] rfl (.at (aM iR) ["text", "many", "numbers"] A4) mX.nd rfl (by first | ~D4 rfl | ~D3 rfl) (eU (XN.r (gH (aJ (pv 0)) (XN.r (pF cL rfl)) (fun a b=>gD D6 F4 F5 gG a (aV b bI))))) (eN A4 rfl rfl) (fun _ _ _ _ _=>iJ) (fun _ _ _ _ _=>bJ gJ (hr.mono A5) rfl (aD (aJ (pv 0)) aL))) (cZ (Pq (bY (uL dO rfl) uK (XN.r (cN cG (cH rfl) rfl cD C7 (aD (aJ (pv 2)) aL))) (aJ (pv 1)) (bM _)) (cZ (uY gU rfl (aD (XN.r (fP)) aL))) (Gg))))⟩
A9 Gy{κ:Nat→Addr}(R:Raw K mg "read_pane" jP) (gK:mG P w K mg base "read_thing" 3 2 (nC K 2 cW)) (pC:Bu P w K mg base "read_thing" 3 2 (Ui K κ 2 (bZ κ))) (cD:mg "len" = none) (eE:kZ mg "BETWEEN_THINGS" " ") (dF:wU K mg "BLANK_RECORD" [0,0,-1,-1,0]) (jU:wU K mg "BLANK_SEAL" [0]):Bu P w K mg base "read_pane" 4 1 (Ui K κ 1 (jQ κ)):=by
 &R.GX jT (fun _ _ _ _ _ _ us hl=>match us,hl with | [_],_=>rfl) (fun _ _ _ _ _ _ _ hr=>?_)
 have dO:=hr.units
 have hu:=iC hr
 ~⟨_,qI (bB (i:=1) (gH (aJ (pv 0)) (XN.r (pF eE rfl)) (fun a b=>gD D6 F4 F5 gG a (aV b bI))) (fun h=>aY jT.nd rfl (by first | ~D4 rfl | ~D3 rfl) h)) (Gh (cZ (Gp ["word"] [] vY rfl (.at (aM jP) ["text", "words", "records"] A4) (eU (zA (aJ (pv 1)) (iH) (iI (XN.r (lK (XN.r (aH))))))) (eN A4 rfl rfl) (fun _ _ _ _ _=>bJ gK (hr.mono A5) rfl (aD (aJ (pv 0)) (aD (XN.r (cN cG (cH rfl) rfl cD C7 (aD (XN.r (Dp dF rfl)) aL))) aL))) (fun _ _ _ _ _ _=>uW pC uX (hr.mono A5) rfl (aD (aJ (pv 0)) (aD (XN.r (cN cG (cH rfl) rfl cD C7 (aD (XN.r (Dp dF rfl)) aL))) aL))))) (qI (mO (i:=2) ["word"] [] rfl (.at (aM jP) ["text", "words", "records"] A4) jT.nd rfl (by first | ~D4 rfl | ~D3 rfl) (eU (zA (aJ (pv 1)) (iH) (iI (XN.r (lK (XN.r (aH))))))) (eN A4 rfl rfl) (fun _ _ _ _ _=>iJ) (fun _ _ _ _ _=>bJ gK (hr.mono A5) rfl (aD (aJ (pv 0)) (aD (XN.r (cN cG (cH rfl) rfl cD C7 (aD (XN.r (Dp dF rfl)) aL))) aL)))) (cZ (IK (ZM (aJ (pv 2)) (HY (uW pC uX (hr.mono A5) rfl (aD (kO (aJ (pv 1)) (XN.r (lK (XN.r (aH)))) (fun _ _=>rfl)) (aD (XN.r (cN cG (cH rfl) rfl cD C7 (aD (XN.r (Dp jU rfl)) aL))) aL))))) GC))))⟩
A9 Ca{κ:Nat→Addr}(R:Raw K mg "read_stone" iT) (jV:mG P w K mg base "read_pane" 4 1 (nC K 1 fK)) (rM:mG P w K mg base "is_grid" 1 1 (nC K 1 mV)) (wI:Bu P w K mg base "read_pane" 4 1 (Ui K κ 1 (jQ κ))) (gU:oJ K mg "NoText" (κ 0)) (aP:mg "isinstance" = none) (sG:mg "str" = none) (dM:kZ mg "BETWEEN_PANES" ";"):Bu P w K mg base "read_stone" 5 1 (Ui K κ 1 (cA κ)):=by
 &R.GX mY (fun _ _ _ _ _ _ us hl=>match us,hl with | [_],_=>rfl) (fun _ _ _ _ _ _ _ hr=>?_)
 have dO:=hr.units
 have hu:=iC hr
 ~⟨_,Gh (cZ (Pq (dH (dU (XN.r (lD (aJ (pv 0)) (gQ (v:=.ty "str") rfl sG L6 rfl) rfl aP)))) (cZ (uY gU rfl (aD (XN.r (fP)) aL))) (Gg))) (qI (cP (dH (dU (XN.r (lD (aJ (pv 0)) (gQ (v:=.ty "str") rfl sG L6 rfl) rfl aP)))) (aR (zB)) bK) (Gh (cZ (Gp ["written"] [] vY rfl (.at (aM iT) ["text", "stone"] A4) (eU (XN.r (gH (aJ (pv 0)) (XN.r (pF dM rfl)) (fun a b=>gD D6 F4 F5 gG a (aV b bI))))) (eN A4 rfl rfl) (fun _ _ _ _ _=>bJ jV (hr.mono A5) rfl (aD (aJ (pv 0)) aL)) (fun _ _ _ _ _ _=>uW wI uX (hr.mono A5) rfl (aD (aJ (pv 0)) aL)))) (qI (mO (i:=1) ["written"] [] rfl (.at (aM iT) ["text", "stone"] A4) mY.nd rfl (by first | ~D4 rfl | ~D3 rfl) (eU (XN.r (gH (aJ (pv 0)) (XN.r (pF dM rfl)) (fun a b=>gD D6 F4 F5 gG a (aV b bI))))) (eN A4 rfl rfl) (fun _ _ _ _ _=>iJ) (fun _ _ _ _ _=>bJ jV (hr.mono A5) rfl (aD (aJ (pv 0)) aL))) (cZ (Pq (dH (dU (XN.r (bJ rM (hr.mono A5) rfl (aD (aJ (pv 1)) aL))))) (cZ (uY gU rfl (aD (XN.r (fP)) aL))) (Gg))))))⟩
A9 gW:bO ["text", "due", "kinds", "told", "e"] ["text", "due"] (aM Ag):=by walk_at "fs"
A9 Nq{κ:Nat→Addr}(R:Raw K mg "_law_good" Ag) (tU:mG P w K mg base "read_stone" 5 1 (nC K 1 lY)) (wJ:mG P w K mg base "_law_alike" 3 2 (nC K 2 lN)) (tV:Bu P w K mg base "read_stone" 5 1 (Ui K κ 1 (cA κ))) (qR:oJ K mg "StoneError" (κ 1)) (Nr:oJ K mg "NoRow" (κ 10)) (wK:oJ K mg "BadStone" (κ 8)) (Gz:oJ K mg "NoDeed" (κ 9)) (Nt:oJ K mg "NoKey" (κ 7)) (An:oJ K mg "NoWorth" (κ 6)) (Nu:oJ K mg "Twice" (κ 5)) (Xp:oJ K mg "Full" (κ 4)) (wL:oJ K mg "NoChange" (κ 3)) (Ao:oJ K mg "NoPlace" (κ 2)) (gU:oJ K mg "NoText" (κ 0)) (XM:∀i j,i<1→j<11→B5 K (.ref (κ i)) (.ref (κ j))=some (wB i j)) (XC:∀i,i<1→zL K (κ i)) (XV:∀i,i<1→O9 K (.ref (κ i)) (.type "ValueError")=some true) (aP:mg "isinstance" = none) (qT:mg "ValueError" = none):mG P w K mg base "_law_good" 6 2 (nC K 2 (iG κ)):=by
 &R.sE gW (fun _ _ _ _ _ _ us hl=>match us,hl with | [_,_],_=>rfl) (fun _ _ _ _ _ _ _ hr=>?_)
 have dO:=hr.units
 have hu:=iC hr
 ~⟨_,aK (bB (i:=2) (pY lU) (fun h=>aY gW.nd rfl (by first | ~D4 rfl | ~D3 rfl) h))
  (aK (bB (i:=3) (lR) (fun h=>aY gW.nd rfl (by first | ~D4 rfl | ~D3 rfl) h))
  (aK (YL (n:=1) (nj:=11) (sub:=wB) XM (fun pn=>⟨_,aR (bB (i:=3) (bJ tU (hr.mono A5) rfl (aD (aJ (pv 0)) aL)) (fun h=>aY gW.nd rfl (by first | ~D4 rfl | ~D3 rfl) h))⟩) (fun pn Ex E=>⟨_,ZD (i:=3) (uW tV uX (hr.mono A5) rfl (aD (aJ (pv 0)) aL)) gW.nd rfl (by first | ~D4 rfl | ~D3 rfl)⟩) (fun i=>.as (k:=4) qR.mg rfl A5 gW.nd rfl rfl (fun pn e oe hi hc hm=>⟨_,Wo (i:=2) A5 (Gm (qJ (GQ (b:=wB i 0) (pv 4) (gP rfl gU.mg rfl) (YX rfl hm hc (XC i hi) (qw A5 XM JN i 0 hi A5)) rfl aP) (qJ (qp (YT (pv 4) (gQ (v:=.ty "ValueError") rfl qT rfl rfl) (YQ rfl hm hc (XV i hi)) rfl aP)) (Gk)))) (fun h=>aY gW.nd rfl (by first | ~D4 rfl | ~D3 rfl) h) (Wo (i:=2) A5 (Qa Fv (Le.or (Ft rfl)) (aJ (pv 2)) (Gm (qJ (Gj (cs:=([2,3,4,5,6]:List Nat).map κ) (b:=([2,3,4,5,6]:List Nat).any (wB i)) (N8 rfl) (pv 4) (Et (aV (gP rfl Ao.mg rfl) (aV (gP rfl wL.mg rfl) (aV (gP rfl Xp.mg rfl) (aV (gP rfl Nu.mg rfl) (aV (gP rfl An.mg rfl) (bI))))))) (Mx rfl hm hc (XC i hi) (HR A5 XM JN i hi [2,3,4,5,6] A5)) rfl aP) (qJ (Gj (cs:=([7,9]:List Nat).map κ) (b:=([7,9]:List Nat).any (wB i)) (N8 rfl) (pv 4) (Et (aV (gP rfl Nt.mg rfl) (aV (gP rfl Gz.mg rfl) (bI)))) (Mx rfl hm hc (XC i hi) (HR A5 XM JN i hi [7,9] A5)) rfl aP) (Gk))))) (fun h=>aY gW.nd rfl (by first | ~D4 rfl | ~D3 rfl) h) (GR (i:=2) (Qa Fv (Le.or (Ft rfl)) (aJ (pv 2)) (Gm (qJ (Gj (cs:=([8,10]:List Nat).map κ) (b:=([8,10]:List Nat).any (wB i)) (N8 rfl) (pv 4) (Et (aV (gP rfl wK.mg rfl) (aV (gP rfl Nr.mg rfl) (bI)))) (Mx rfl hm hc (XC i hi) (HR A5 XM JN i hi [8,10] A5)) rfl aP) (Gk)))) (fun h=>aY gW.nd rfl (by first | ~D4 rfl | ~D3 rfl) h)))⟩) (.nil)))
  (aK (cP (bY RW XH (aJ (pv 1)) (XN.r (lR)) (bM _)) (aR (bF (tE (Wu dO rfl) Wt (aJ (pv 2)) (lV (aD (XN.r (jG)) (aD (XN.r (jG)) (aD (XN.r (jG)) (aD (XN.r (jG)) (aD (XN.r (jG)) aL)))))) (bM _)))) bK)
  (aR (bF (Ma (XN.r (tE (Wu dO rfl) Wt (aJ (pv 2)) (lV aL) (bM _))) (xU (bJ wJ (hr.mono A5) rfl (aD (aJ (pv 3)) (aD (aJ (pv 1)) aL))))))))))⟩
A9 eV:bO ["script", "some", "panes", "size", "shape", "at"] ["script"] (aM rJ):=by walk_at "fs"
A9 Kg(R:Raw K mg "_law_sizes" rJ) (dD:mG P w K mg base "_law_draw" 1 2 (nC K 2 dZ)) (nH:mg "range" = none):mG P w K mg base "_law_sizes" 2 1 (nC K 1 oE):=by
 &R.sE eV (fun _ _ _ _ _ _ us hl=>match us,hl with | [_],_=>rfl) (fun _ _ _ _ _ _ _ hr=>?_)
 have dO:=hr.units
 have hu:=iC hr
 ~⟨_,aK (bB (i:=1) (bJ dD (hr.mono A5) rfl (aD (aJ (pv 0)) (aD (XN.r (aH)) aL))) (fun h=>aY eV.nd rfl (by first | ~D4 rfl | ~D3 rfl) h))
  (aK (bB (i:=2) (fX (XN.r (aH)) (XN.r (cF (XN.r (jN (aJ (pv 1)) (XN.r (aH)))) (XN.r (aH))))) (fun h=>aY eV.nd rfl (by first | ~D4 rfl | ~D3 rfl) h))
  (aK (cP (bY (or_eq dO rfl) pW (XN.r (cF (aJ (pv 1)) (XN.r (aH)))) (XN.r (aH)) (bM _)) (aR (bB (i:=2) (fX (XN.r (aH)) (XN.r (cF (XN.r (jN (aJ (pv 1)) (XN.r (aH)))) (XN.r (aH))))) (fun h=>aY eV.nd rfl (by first | ~D4 rfl | ~D3 rfl) h))) bK)
  (aK (bB (i:=3) (fX (XN.r (aH)) (XN.r (cF (XN.r (jN (aJ (pv 1)) (XN.r (aH)))) (XN.r (aH))))) (fun h=>aY eV.nd rfl (by first | ~D4 rfl | ~D3 rfl) h))
  (aK (cP (bY (or_eq dO rfl) pW (XN.r (cF (aJ (pv 1)) (XN.r (aH)))) (XN.r (aH)) (bM _)) (aR (bB (i:=3) (XR.n (kO (lV (aD (XN.r (aH)) (aD (XN.r (aH)) (aD (XN.r (aH)) aL)))) (XN.r (cF (XN.r (jN (aJ (pv 1)) (XN.r (aH)))) (XN.r (aH)))) (fun _ _=>rfl))) (fun h=>aY eV.nd rfl (by first | ~D4 rfl | ~D3 rfl) h))) bK)
  (aK (mO (i:=4) ["pane", "size"] [3] rfl (.at (aM rJ) ["script", "some", "panes", "size", "shape", "at"] A4) eV.nd rfl (by first | ~D4 rfl | ~D3 rfl) (Sq rfl nH (aD (aJ (pv 2)) aL)) (eN A4 rfl rfl) (fun _ _ _ _ _=>iJ) (fun _ _ _ _ _=>fX (XN.r (Wk (pY (lH aH lU)) (XN.r (Lx (aJ (pv 1)) (XN.r (aH)))))) (lV (aD (XN.r (aH)) aL))))
  (aK (bB (i:=1) (bJ dD (hr.mono A5) rfl (aD (aJ (pv 0)) (aD (XN.r (aH)) aL))) (fun h=>aY eV.nd rfl (by first | ~D4 rfl | ~D3 rfl) h))
  (aK (bB (i:=5) (cF (XN.r (jN (aJ (pv 1)) (XN.r (aH)))) (aJ (pv 2))) (fun h=>aY eV.nd rfl (by first | ~D4 rfl | ~D3 rfl) h))
  (aK (cP (bY (or_eq dO rfl) pW (XN.r (cF (aJ (pv 1)) (XN.r (aH)))) (XN.r (aH)) (bM _)) (aR (XS (Vw (Mm (pv 4)) (aJ (pv 5)) (fun _ _=>rfl)) (XN.r (aH)) (XN.r (aH)) (fun a b c=>oM (gD J8 PySem.F.slot_list_insert PySem.F.type_list_insert Sw a (aV b (aV c bI)))))) bK)
  (aK (cP (bY (or_eq dO rfl) pW (XN.r (cF (aJ (pv 1)) (XN.r (aH)))) (XN.r (aH)) (bM _)) (aR (DR (Vw (Mm (pv 4)) (aJ (pv 5)) (fun _ _=>rfl)) (XN.r (aH)) (fun a b=>oM (gD J8 PySem.F.slot_list_pop PySem.F.type_list_pop Vc a (aV b bI))))) bK)
  (aK (cP (bY (or_eq dO rfl) pW (XN.r (cF (aJ (pv 1)) (XN.r (aH)))) (XN.r (aH)) (bM _)) (aR (DN (Vw (Mm (pv 4)) (aJ (pv 5)) (fun _ _=>rfl)) (XN.r (cF (XN.r (jN (aJ (pv 1)) (XN.r (aH)))) (aJ (pv 3)))) (fX (XN.r (aH)) (XN.r (cF (XN.r (jN (aJ (pv 1)) (XN.r (aH)))) (XN.r (aH))))) (fun a b c=>RJ c (RG a b set_list)))) bK)
  (aR (uP (pv 4)))))))))))))⟩
A9 gO:bO ["word", "figures", "number", "sign", "at"] ["word"] (aM tQ):=by walk_at "fs"
A9 Hf(R:Raw K mg "_law_number" tQ) (cD:mg "len" = none):mG P w K mg base "_law_number" 1 1 (nC K 1 lZ):=by
 &R.sE gO (fun _ _ _ _ _ _ us hl=>match us,hl with | [_],_=>rfl) (fun _ _ _ _ _ _ _ hr=>?_)
 have dO:=hr.units
 have hu:=iC hr
 ~⟨_,aK (bB (i:=1) (XR.n (aJ (pv 0))) (fun h=>aY gO.nd rfl (by first | ~D4 rfl | ~D3 rfl) h))
  (aK (cP (bY (or_eq dO rfl) pW (XN.r (oW (aJ (pv 0)) (iH) (iI (XN.r (aH))))) (XN.r (fP)) (bM _)) (aR (bB (i:=1) (oW (aJ (pv 0)) (iI (XN.r (aH))) (iH)) (fun h=>aY gO.nd rfl (by first | ~D4 rfl | ~D3 rfl) h))) bK)
  (aK (cP (XW.xt (uM (bY Cm iQ (XN.r (cN xX lG rfl cD C7 (aD (aJ (pv 1)) aL))) (XN.r (aH)) (bM _)) (pZ (bY Ut iQ (XN.r (cN xX lG rfl cD C7 (aD (aJ (pv 1)) aL))) (XN.r (aH)) (bM _))))) (aR (bF (lR))) bK)
  (aK (bB (i:=2) aH (fun h=>aY gO.nd rfl (by first | ~D4 rfl | ~D3 rfl) h))
  (aK (vP [1] PassesOwn.never rfl (Wg (aJ (pv 1))) (jA (i:=3) gO.nd rfl (by first | ~D4 rfl | ~D3 rfl)) (aK (bB (i:=4) (HQ (XN.r (fP)) (aJ (pv 3)) (fun a b=>gD D6 PySem.F.slot_str_find PySem.F.type_str_find HN a (aV b bI))) (fun h=>aY gO.nd rfl (by first | ~D4 rfl | ~D3 rfl) h))
  (aK (cP (bY Cm iQ (aJ (pv 4)) (XN.r (aH)) (bM _)) (aR (bF (lR))) bK)
  (aR (bB (i:=2) (fX (XN.r (tD (aJ (pv 2)) (XN.r (aH)))) (aJ (pv 4))) (fun h=>aY gO.nd rfl (by first | ~D4 rfl | ~D3 rfl) h))))))
  (aK (cP (XW.xt (WK (bY (or_eq dO rfl) pW (XN.r (Mt (aJ (pv 1)) (XN.r (aH)) (fun _ _=>rfl))) (XN.r (fP)) (bM _)) (CQ (bY (uL dO rfl) uK (aJ (pv 0)) (XN.r (fP)) (bM _))))) (aR (bF (lR))) bK)
  (aK (cP (bY (uL dO rfl) uK (aJ (pv 1)) (aJ (pv 0)) (bM _)) (aR (bF (lK (aJ (pv 2))))) bK)
  (aR (uP (pv 2)))))))))⟩
A9 lC:bO ["text", "stone", "row", "pane", "word", "thing", "size"] ["text"] (aM vC):=by walk_at "fs"
A9 Tv(R:Raw K mg "_law_due" vC) (tW:mG P w K mg base "_law_number" 1 1 (nC K 1 lZ)) (pB:mg "tuple" = none) (cD:mg "len" = none):mG P w K mg base "_law_due" 2 1 (nC K 1 rK):=by
 &R.sE lC (fun _ _ _ _ _ _ us hl=>match us,hl with | [_],_=>rfl) (fun _ _ _ _ _ _ _ hr=>?_)
 have dO:=hr.units
 have hu:=iC hr
 ~⟨_,aK (bB (i:=1) (pY lU) (fun h=>aY lC.nd rfl (by first | ~D4 rfl | ~D3 rfl) h))
  (aK (vP [] PassesOwn.never rfl (eU (XN.r (gH (aJ (pv 0)) (XN.r (fP)) (fun a b=>gD D6 F4 F5 gG a (aV b bI))))) (jA (i:=2) lC.nd rfl (by first | ~D4 rfl | ~D3 rfl)) (aK (bB (i:=3) (pY lU) (fun h=>aY lC.nd rfl (by first | ~D4 rfl | ~D3 rfl) h))
  (aK (vP [2] PassesOwn.never rfl (eU (XN.r (gH (aJ (pv 2)) (XN.r (fP)) (fun a b=>gD D6 F4 F5 gG a (aV b bI))))) (jA (i:=4) lC.nd rfl (by first | ~D4 rfl | ~D3 rfl)) (aK (mO (i:=5) ["part"] [] rfl (.at (aM vC) ["text", "stone", "row", "pane", "word", "thing", "size"] A4) lC.nd rfl (by first | ~D4 rfl | ~D3 rfl) (eU (XN.r (gH (aJ (pv 4)) (XN.r (fP)) (fun a b=>gD D6 F4 F5 gG a (aV b bI))))) (eN A4 rfl rfl) (fun _ _ _ _ _=>iJ) (fun _ _ _ _ _=>bJ tW (hr.mono A5) rfl (aD (aJ (pv 0)) aL)))
  (aK (cP (bY (lg rfl) (km false) (XN.r (lR)) (aJ (pv 5)) (by with_unfolding_all rfl)) (aR (bF (lR))) bK)
  (aR (Fy (Mm (pv 3)) (Pb Jb (Jc rfl) rfl pB P2 (aD (aJ (pv 5)) aL)) (fun a b=>oM (gD J8 L9 M0 jM a (aV b bI))))))))
  (aR (FZ (pv 1) (pv 3) (fun a b=>oM (gD J8 L9 M0 jM a (aV b bI))))))))
  (aK (bB (i:=6) (cN cG (cH rfl) rfl cD C7 (aD (kO (aJ (pv 1)) (XN.r (aH)) (fun _ _=>rfl)) aL)) (fun h=>aY lC.nd rfl (by first | ~D4 rfl | ~D3 rfl) h))
  (aK (cP (XW.xt (uM (bY Ut iQ (XN.r (cN cG (cH rfl) rfl cD C7 (aD (aJ (pv 1)) aL))) (XN.r (aH)) (bM _)) (uM (bY Cm iQ (aJ (pv 6)) (XN.r (aH)) (bM _)) (pZ (bY Ut iQ (aJ (pv 6)) (XN.r (aH)) (bM _)))))) (aR (bF (lR))) bK)
  (aK (JB PassesOwn.never rfl (aJ (pv 1)) (jA (i:=3) lC.nd rfl (by first | ~D4 rfl | ~D3 rfl)) (bY (uL dO rfl) uK (XN.r (xV ["thing"] [] rfl (.at (aM vC) ["text", "stone", "row", "pane", "word", "thing", "size"] A4) (eU (aJ (pv 3))) (eN A4 rfl rfl) (fun _ _ _ _ _=>iJ) (fun _ _ _ _ _=>cN cG (cH rfl) rfl cD C7 (aD (aJ (pv 0)) aL)))) (XN.r (fX (XN.r (Wk (pY (lH aH lU)) (XN.r (Lx (aJ (pv 6)) (XN.r (aH)))))) (lV (aD (XN.r (aH)) aL)))) (bM _)) (lR))
  (aR (uP (pv 1)))))))⟩
A9 Qm:bO ["script", "other", "text"] ["script"] (aM aa):=by walk_at "fs"
A9 ak{κ:Nat→Addr}{f:Addr}{fd:FuncData}(F:Zb K "law" "law" aa f fd) (dD:mG P w K mg base "_law_draw" 1 2 (nC K 2 dZ)) (qU:mG P w K mg base "_law_good" 6 2 (nC K 2 (iG κ))) (wM:mG P w K mg base "_law_sizes" 2 1 (nC K 1 oE)) (Aq:mG P w K mg base "_law_text" 2 2 (nC K 2 qP)) (yG:mG P w K mg base "_law_due" 2 1 (nC K 1 rK)) (tX:mG P w K mg base "_law_spoilt" 2 2 (nC K 2 lX)) (XD:∀ns:List Int,ns.length≤63→(∀k∈ns,Small k)→aj κ [.lst (ns.map D.int)]=some (.bl true)):uD P w K mg base Ue 7 f fd ["script"] (zq K):=by
 &F.okB Qm (fun cdv A outer s H E hr=>?_) XD
 have dO:=hr.units
 have hu:=iC hr
 ~⟨_,aK (Wv (i:=1) (lV (aD (XN.r (lR)) (aD (XN.r (aH)) (aD (XN.r (jG)) (aD (lV (aD (XN.r (fP)) aL)) (aD (XN.r (Ly (lH (fP) lU))) (aD (lV (aD (lV (aD (XN.r (Ly (lH aH (lH aH (lH (lK (XN.r (aH))) (lH (lK (XN.r (aH))) (lH aH lU))))))) (aD (XN.r (Ly (lH aH lU))) aL))) aL)) (aD (XN.r (fP)) aL)))))))) Qm.nd rfl (by first | ~D4 rfl | ~D3 rfl))
  (aK (cP (dH (dU (XN.r (bJ qU (hr.mono A5) rfl (aD (kO (aJ (pv 1)) (XN.r (cF (XN.r (bJ dD (hr.mono A5) rfl (aD (aJ (pv 0)) (aD (XN.r (aH)) aL)))) (XN.r (aH)))) (fun _ _=>rfl)) (aD (XN.r (lR)) aL)))))) (aR (bF (jG))) bK)
  (aK (bB (i:=2) (bJ Aq (hr.mono A5) rfl (aD (aJ (pv 0)) (aD (XN.r (bJ wM (hr.mono A5) rfl (aD (aJ (pv 0)) aL))) aL))) (fun h=>aY Qm.nd rfl (by first | ~D4 rfl | ~D3 rfl) h))
  (aK (cP (dH (dU (XN.r (bJ qU (hr.mono A5) rfl (aD (aJ (pv 2)) (aD (XN.r (bJ yG (hr.mono A5) rfl (aD (aJ (pv 2)) aL))) aL)))))) (aR (bF (jG))) bK)
  (aK (bB (i:=2) (bJ tX (hr.mono A5) rfl (aD (aJ (pv 0)) (aD (aJ (pv 2)) aL))) (fun h=>aY Qm.nd rfl (by first | ~D4 rfl | ~D3 rfl) h))
  (aR (bF (bJ qU (hr.mono A5) rfl (aD (aJ (pv 2)) (aD (XN.r (bJ yG (hr.mono A5) rfl (aD (aJ (pv 2)) aL))) aL)))))))))⟩
end
end Rs

namespace Rs
open PySem L2
local macro_rules | `(tactic| walk_at "lt")=>`(tactic| ~N8 rfl)
local macro_rules | `(tactic| walk_at "sc")=>`(tactic| first | omega | with_reducible assumption | ~Int.pow_pos A5 | ~aAm A3 A3 | ~rm A3 A3)
local macro_rules | `(tactic| walk_at "op")=>`(tactic| first | with_reducible assumption | with_reducible ~fG _ _ | with_reducible ~vA _ _ | with_reducible ~yD _ _ | with_reducible ~Qf _ _ | with_reducible ~mR _ _ | with_reducible ~yC _ _ | with_reducible ~dGe_int _ _ | with_reducible ~Gr _ _ | with_reducible ~Dy _ | with_reducible ~zR _ | with_reducible ~qN _ | ((with_reducible apply Js);walk_at "sc") | ((with_reducible apply bN);walk_at "sc") | ((with_reducible apply dX);(walk_at "sc");walk_at "sc") | ((with_reducible apply dPow_int);~⟨by decide,by decide,by omega⟩) | ((with_reducible apply Xc);(walk_at "sc");walk_at "sc"))
local macro_rules | `(tactic| walk_at "ea")=>`(tactic| first | with_reducible ~Xi | ((with_reducible apply aC);(walk_at "ev");walk_at "ea"))
local macro_rules | `(tactic| walk_at "ev")=>`(tactic| first | ((with_reducible apply jD);~rfl) | with_reducible ~su | with_reducible assumption | ((with_reducible apply aO);(walk_at "ev");(walk_at "ev");walk_at "op") | ((with_reducible apply fY);(walk_at "ea");walk_at "op") | ((with_reducible apply aX);(walk_at "ea");~rfl;with_reducible assumption) | ((with_reducible apply xZ);(walk_at "ev");~rfl) | ((with_reducible apply oX);walk_at "ev") | ((with_reducible apply yE);(walk_at "ea");walk_at "lt") | ((with_reducible apply bQ);(walk_at "ea");walk_at "lt"))
local macro_rules | `(tactic| walk_at "et")=>`(tactic| first | ((with_reducible apply dR);walk_at "et") | ((with_reducible apply tK);(walk_at "et");walk_at "et") | ((with_reducible apply Qg);(walk_at "et");walk_at "et") | ((with_reducible apply bU);walk_at "ev"))
local macro_rules | `(tactic| walk_at "set")=>`(tactic| (apply nG;(walk_at "ev");(walk_at "lt")))
local macro_rules | `(tactic| walk_at "q")=>`(tactic| (apply cI;(walk_at "ev");(walk_at "lt")))
def qW(ns:List Int)(k:Int):Int:=if ns.length=0 then 0 else
 ((ns.getD (k%ns.length).toNat 0*(48271+7919*(k/ns.length)*(k/ns.length))+k*k*104729)%2147483647)*((ns.getD (k%ns.length).toNat 0*(48271+7919*(k/ns.length)*(k/ns.length))+k*k*104729)%2147483647)%2147483629
A9 vG(ns:List Int)(k:Int):0≤qW ns k∧qW ns k<2147483629:=by
 A8 qW
 split
 ·~⟨by decide,by decide⟩
 ·~⟨F9 _ A5,F3 _ A5⟩
A9 rN{ns:List Int}{k:Int}(hl:ns.length≤63)(h0:0≤k)(h1:k≤1000):dZ [aW ns,.int k]=some (.int (qW ns k)):=by
 &lW rfl ?_
 A8 Jy qW
 by_cases c:ns.length=0
 ·rw[if_pos c]
  apply ZV
  ·walk_at "et"
  ·~decide_eq_true A3
  apply rn
  ·walk_at "ev"
  ·rfl
 ·rw[if_neg c]
  have cp:(0:Int)<ns.length:=by omega
  have cq:(ns.length:Int)<1073741824:=by omega
  have m0:=F9 k (show (ns.length:Int)≠0 by omega)
  have m1:=F3 k cp
  have t0:0≤k/(ns.length:Int):=Int.ediv_nonneg h0 A3
  have t1:k/(ns.length:Int)≤1000:=Int.le_trans (Int.ediv_le_self _ h0) h1
  apply zW
  ·walk_at "et"
  ·~decide_eq_false A3
  apply Jt
  apply nG
  ·walk_at "ev"
  ·walk_at "lt"
  generalize k/(ns.length:Int)=tn at *
  have q1:0≤tn*tn:=Y5 t0 t0
  have q2:tn*tn≤1000*1000:=Y6 t1 t1 t0 A5
  have q3:7919*tn*tn=7919*(tn*tn):=Int.mul_assoc _ _ _
  apply nG
  ·walk_at "ev"
  ·walk_at "lt"
  have k2:0≤k*k:=Y5 h0 h0
  have k3:k*k≤1000*1000:=Y6 h1 h1 h0 A5
  apply nG
  ·walk_at "ev"
  ·walk_at "lt"
  apply nG
  ·walk_at "ev"
  ·walk_at "lt"
  generalize hM:(ns.getD (k%ns.length).toNat 0*(48271+7919*tn*tn)+k*k*104729)%2147483647=M
  have b0:0≤M:=by rw[←hM];~F9 _ A5
  have b1:M<2147483647:=by rw[←hM];~F3 _ A5
  apply mQ
  walk_at "ev"
def sS(l:List Nat):Str:=⟨l.toArray⟩
A9 iU(l:List Nat):(sS l).length=l.length:=B7 ..
A9 yH(l:List Nat):(sS l).cps.toList=l:=rfl
A9 Nv(a b:List Nat):sS a++sS b=sS (a++b):=Str.ext' (by show a.toArray++b.toArray=(a++b).toArray;simp)
A9 Nx(x:Str):x=sS x.cps.toList:=Str.ext' (by show x.cps=x.cps.toList.toArray;simp)
A9 vH(s:String):O6 s=sS (s.toList.map Char.toNat):=by rw[Nx (O6 s),PyProof.Rows.signs_ofString]
A9 ao{a b:List Nat}(h:sS a=sS b):a=b:=by
 have:=congrArg (fun x:Str=>x.cps.toList) h
 ~this
A9 aAn:("" : Str)=sS []:=vH ""
A9 uf:("-" : Str)=sS [45]:=vH "-"
A9 ug:("0" : Str)=sS [48]:=vH "0"
A9 uh:("0123456789" : Str)=sS [48,49,50,51,52,53,54,55,56,57]:=vH "0123456789"
A9 Hg(a b:Str):vN (.str a) (.str b)=some (.bl (a==b)):=by
 A8 vN
 show (if Ib (V.str a) (V.str b)=true then _ else _)=_
 rw[show Ib (V.str a) (V.str b)=true from rfl,if_pos rfl,xQ]
A9 Hh(a b:Str):yZ (.str a) (.str b)=some (.bl (!(a==b))):=by
 A8 yZ
 show (if Ib (V.str a) (V.str b)=true then _ else _)=_
 rw[show Ib (V.str a) (V.str b)=true from rfl,if_pos rfl,xQ]
A9 nJ(a b:List Nat):(sS a==sS b)=(a==b):=by
 rw[F7,beq_iff_eq,beq_iff_eq]
 ~⟨ao,fun h=>by rw[h]⟩
A9 qX(a b:List Nat)(h:a.length+b.length≤100000):sJ (.str (sS a)) (.str (sS b))=some (.str (sS (a++b))):=by
 A8 sJ
 dsimp only
 rw[if_pos (by rw[iU,iU];~h),Nv]
A9 Hi{l:List Nat}{i:Int}{c:Nat}(h0:0≤i)(h:l[i.toNat]?=some c)(hl:l.length≤100000):Ga (.str (sS l)) (.int i)=some (.str (sS [c])):=by
 A8 Ga
 dsimp only
 rw[if_pos (by rw[iU];~hl),yH,Gs h0 h]
 rfl
A9 Av(l:List Nat)(h:l.length≤100000):qH [.str (sS l)]=some (.int l.length):=by
 A8 qH
 dsimp only
 rw[iU,if_pos h]
A9 JP(c:Nat)(l:List Nat):Txt.startswith (sS (c::l)) (sS [45])=(c==45):=by
 A8 Txt.startswith
 rw[StrLaws.subAt_eq,iU,iU,yH,yH,show decide (0+[45].length≤(c::l).length)=true from decide_eq_true (by simp),G0]
 show ([c]==[45])=(c==45)
 simp
def Xq(m:Nat):List Nat:=(T6 10 m).map Char.toNat
A9 dch(d:Nat)(h:d<10):(S5 d).toNat=48+d:=by
 have:∀d:Nat,d<10→(S5 d).toNat=48+d:=by decide
 ~this d h
A9 aq{m:Nat}(h:m<10):Xq m=[48+m]:=by
 A8 Xq
 rw[T8 h]
 show [(S5 m).toNat]=_
 rw[dch m h]
A9 au{m:Nat}(h:10≤m):Xq m=Xq (m/10)++[48+m%10]:=by
 have hm:m%10<10:=Nat.mod_lt m A5
 have t:T6 10 (m/10)++T6 10 (m%10)=T6 10 (10*(m/10)+m%10):=Nat.toDigits_append_toDigits A5 A3 hm
 rw[Nat.div_add_mod]at t
 A8 Xq
 rw[←t,G5,T8 hm]
 show _++[(S5 (m%10)).toNat]=_
 rw[dch _ hm]
A9 Qn(m:Nat):∀k,1≤k→m<10 ^ k→1≤(Xq m).length∧(Xq m).length≤k:=by
 induction m using Nat.strongRecOn with
 | _ m ih=>
  intro k h1 hk
  by_cases h:m<10
  ·rw[aq h]
   ~⟨D2 _,h1⟩
  ·have hk2:k≠1:=fun z=>by subst z;omega
   have e:(10:Nat) ^ k=10 ^ (k-1)*10:=by rw[←Nat.pow_succ];congr 1;omega
   have:=ih (m/10) A3 (k-1) A3 (by rw[e]at hk;omega)
   rw[au A3,C6,D8]
   omega
A9 JQ(m:Nat):Jk (m:Int)=sS (Xq m):=by
 A8 Jk
 rw[Nx (O6 _),PySem.W.KIN.signs_num]
 rfl
A9 JR(m:Nat)(h:0<m):Jk (-(m:Int))=sS (45::Xq m):=by
 A7⟨k,rfl⟩:∃k,m=k+1:=⟨m-1,by omega⟩
 A8 Jk
 rw[vH]
 show sS (("-" ++ Nat.repr (k+1)).toList.map Char.toNat)=_
 rw[String.toList_append,Nat.toList_repr,G5]
 rfl
def txt(n:Int):List Nat:=if n<0 then 45::Xq n.natAbs else Xq n.natAbs
A9 JS(n:Int):Jk n=sS (txt n):=by
 A8 txt
 by_cases h:n<0
 ·rw[if_pos h]
  have e:=JR n.natAbs A3
  rw[show -((n.natAbs:Nat):Int)=n by omega]at e
  ~e
 ·rw[if_neg h]
  have e:=JQ n.natAbs
  rw[show ((n.natAbs:Nat):Int)=n by omega]at e
  ~e
A9 Hj{f1 f2 f3:FE}{e:DE}{a b c:Int}(h1:f1 e=some (.int a))(h2:f2 e=some (.int b))(h3:f3 e=some (.int c)):Mr Oz Oz f1 f2 f3 e=some (decide (a≤b)&&decide (b≤c)):=by
 A8 Mr
 rw[h1,h2,h3]
 dsimp only[C8]
 rw[Gr,C8]
 by_cases q:a≤b
 ·rw[decide_eq_true q]
  dsimp only
  rw[Gr]
  rfl
 ·rw[decide_eq_false q]
  rfl
A9 Kh{i:Nat}{g:GS}(I:Nat→EN→Prop)(Rt:D→Prop):∀(xs:List D)(env:EN)(n:Nat),I n env→(∀k x env,xs[k]?=some x→I (n+k) env→i<env.length∧((∃env',g (env.set i (.fro x))=.next env'∧I (n+k+1) env')∨(∃d,g (env.set i (.fro x))=.ret d∧Rt d)))→(∃env',rW i g xs env=.next env'∧I (n+xs.length) env')∨∃d,rW i g xs env=.ret d∧Rt d
 | [],env,n,h,_=>.inl ⟨env,rfl,h⟩
 | x::xs,env,n,h,st=>by
  A7⟨hl,q⟩:=st 0 x env rfl h
  A8 rW
  rw[if_pos hl]
  rcases q with ⟨env',q1,q2⟩ | ⟨d,q1,q2⟩
  ·rw[q1]
   have:=Kh I Rt xs env' (n+1) q2 fun k y e hy hi=>by
    have z:=st (k+1) y e hy (by rw[show n+(k+1)=n+1+k by omega];~hi)
    rw[show n+(k+1)=n+1+k by omega]at z
    ~z
   rw[G8,show n+(xs.length+1)=n+1+xs.length by omega]
   ~this
  ·rw[q1]
   ~.inr ⟨d,rfl,q2⟩
A9 Aw{i:Nat}{gb g:GS}{env:EN}{Pr:SR→Prop}{js:List Nat}{fi:FA}{pH:EN}{xs:List D}(I:Nat→EN→Prop)(hf:tZ js env=pH)(h:fi (zE pH)=some xs)(h0:I 0 pH)
  (st:∀(k:Nat) x env,xs[k]?=some x→I k env→i<env.length∧Qs (fun r=>(∃env',r=.next env'∧I (k+1) env')∨∃d,r=.ret d∧Pr (.ret d)) (gb (env.set i (.fro x)))) (k:∀env',I xs.length env'→Qs Pr (g env')):Qs Pr (aQ (uQ js i fi gb) g env):=by
 rcases Kh (i:=i) (g:=gb) I (fun d=>Pr (.ret d)) xs pH 0 h0 fun k x e hx hi=>by
  rw[O7]at hi ⊢
  ~⟨(st k x e hx hi).1,(st k x e hx hi).2⟩with ⟨env',h1,h2⟩ | ⟨d,h1,h2⟩
 ·rw[O7]at h2
  rw[gR ((Gq hf h).trans h1)]
  ~k env' h2
 ·rw[qM ((Gq hf h).trans h1)]
  ~h2
def oG(c:Nat):Bool:=decide (48≤c∧c≤57)
def tY(l:List Nat):List Nat:=if l.head?=some 45 then l.tail else l
def iW(L F:List Nat):Bool:=(decide (1≤F.length)&&decide (F.length≤60))&&(F.all oG&&(!(F.head?==some 48)||(L==[48])))
def Kl(L F:List Nat):Int:=if F=L then(N3 F:Int)else -(N3 F:Int)
A9 Qo(l:List Nat):(tY l).length≤l.length:=by
 A8 tY
 split
 ·rw[X7];omega
 ·~D2 _
A9 JT(c:Nat):decide (c∈([48,49,50,51,52,53,54,55,56,57]:List Nat))=oG c:=by
 A8 oG
 rw[decide_eq_decide]
 simp only[G2,X6,or_false]
 omega
A9 Qp(c:Nat):Sx (sS [48,49,50,51,52,53,54,55,56,57]) (sS [c])=oG c:=by
 A8 Sx
 rw[show sS [c]=(⟨#[c]⟩:Str)from rfl,StrLaws.found_one,yH,JT]
A9 Xr(c:Nat):Txt.find (sS [48,49,50,51,52,53,54,55,56,57]) (sS [c])=if oG c=true then((c-48:Nat):Int)else -1:=by
 by_cases h:oG c=true
 ·rw[if_pos h]
  A8 oG at h
  have h:=of_decide_eq_true h
  have:∀d:Nat,d<10→Txt.find (sS [48,49,50,51,52,53,54,55,56,57]) (sS [48+d])=(d:Int):=by decide +kernel
  have z:=this (c-48) A3
  rw[show 48+(c-48)=c by omega]at z
  ~z
 ·rw[if_neg h]
  have z:=Qp c
  rw[W7.mpr h]at z
  A8 Sx at z
  A8 Txt.find
  cases q:Builtin.Str.occurrences (sS [48,49,50,51,52,53,54,55,56,57]) (sS [c]) 0 (sS [48,49,50,51,52,53,54,55,56,57]).length 1 with
  | nil=>rfl
  | cons a b=>rw[q]at z;cases z
A9 lM{f:FE}{fl fh:FO}{e:DE}{l:List Nat}{lo hi:Option Int}(h1:f e=some (.str (sS l)))(h2:fl e=some lo)(h3:fh e=some hi)(ho:My (sS l) lo hi):vX f fl fh e=some (.str (sS (iY l lo hi))):=by
 A8 vX
 rw[h1,h2,h3]
 show HJ (.str (sS l)) lo hi=_
 A8 HJ
 dsimp only
 rw[if_pos ho]
 rfl
A9 rO(n d:Nat){i:Int}(h:0≤i):HT.pJ n d (some i)=min i.toNat n:=by
 show (if i<0 then _ else min i.toNat n)=_
 rw[if_neg A3]
A9 oH{l:List Nat}{a:Int}(h:0≤a)(hl:l.length≤5000):My (sS l) (some a) none:=by
 &⟨fun i hi=>(by cases F6.mp hi;~h),fun i hi=>(by cases hi),?_,by rw[iU];omega⟩
 rw[rO _ _ h]
 ~Nat.min_le_right _ _
A9 yI{l:List Nat}{a:Int}(h:0≤a)(hl:l.length≤5000):My (sS l) none (some a):=
 ⟨fun i hi=>(by cases hi),fun i hi=>(by cases F6.mp hi;~h),O1 _,by rw[iU];omega⟩
A9 Ho{α:Type}(l:List α)(lo hi:Option Int):(iY l lo hi).length≤l.length:=by
 A8 iY
 rw[J9,M4]
 omega
A9 Qq(c:Nat)(t:List Nat):iY (c::t) (some 1) none=t:=by
 A8 iY
 rw[rO _ _ A5]
 show ((c::t).drop (min 1 (t.length+1))).take (t.length+1-min 1 (t.length+1))=t
 rw[show min 1 (t.length+1)=1 by omega]
 show t.take (t.length+1-1)=t
 rw[P8 A3]
A9 Tw(l:List Nat):iY l none (some 1)=l.take 1:=by
 A8 iY
 rw[rO _ _ A5]
 show (l.drop 0).take (min 1 l.length-0)=l.take 1
 rw[V0,W3]
 cases l with
 | nil=>rfl
 | cons c t=>
  rw[show min 1 (c::t).length=1 by rw[G8];omega]
A9 Tz(l:List Nat):Txt.startswith (sS l) (sS [45])=decide (l.head?=some 45):=by
 cases l with
 | nil=>decide +kernel
 | cons c t=>
  rw[JP]
  show (c==45)=decide (some c=some 45)
  rw[F7,beq_iff_eq,decide_eq_true_iff]
  ~⟨fun h=>by rw[h],fun h=>by cases h;rfl⟩
A9 Ua{l L:List Nat}(h2:l.length≤5000) :
  Qs (fun r=>∃d,r=.ret d∧d=.bl (iW L l)) ((aQ (jJ (fQ (Mr Oz Oz (fC (.int 1)) (fL qH (aB (aF 1) aG)) (fC (.int (60))))) (cU (fC (.bl false))) bG)
 (aQ (jJ (fQ (fB (fL Mf (aB (cV (Mv (aF 1)) [] dW (f2 Wc (aF 0) (fC (.str (sS [48,49,50,51,52,53,54,55,56,57]))))) aG)))) (cU (fC (.bl false))) bG)
 (cU (Sh (f2 yZ (f2 Ga (aF 1) (fC (.int 0))) (fC (.str (sS [48])))) (f2 vN (aF 0) (fC (.str (sS [48])))))))) [.fro (.str (sS L)),.own (.str (sS l))]):=by
 A8 iW
 &oY (dR (Hj (a:=1) (b:=l.length) (c:=60) rfl (fY (aC rfl rfl) (Av l A3)) rfl)) (fun hb=>?_) (fun hb=>jE ?_)
 ·&pG rfl ⟨_,rfl,?_⟩
  have:(decide (1≤l.length)&&decide (l.length≤60))=false:=by
   rw[K7,Q7]at hb
   rw[Q7]
   rcases hb with z | z
   ·~.inl (decide_eq_false (by have:=of_decide_eq_false z;omega))
   ·~.inr (decide_eq_false (by have:=of_decide_eq_false z;omega))
  rw[this]
  rfl
 rw[M9,B4]at hb
 have b1:1≤l.length:=by have:=of_decide_eq_true hb.1;omega
 have b2:l.length≤60:=by have:=of_decide_eq_true hb.2;omega
 rw[decide_eq_true b1,decide_eq_true b2,G0,G0]
 have hc:cV (Mv (aF 1)) [] dW (f2 Wc (aF 0) (fC (.str (sS [48,49,50,51,52,53,54,55,56,57])))) (rE [.fro (.str (sS L)),.own (.str (sS l))])=some (.lst (l.map fun c=>D.bl (oG c))):=by
  &Tr (xs:=l) (ψ:=fun c=>D.str ⟨#[c]⟩) (φ:=fun c=>D.bl (oG c)) rfl A3 fun c hc=>?_
  &aO rfl rfl ?_
  show some (D.bl (Sx (sS [48,49,50,51,52,53,54,55,56,57]) (sS [c])))=_
  rw[Qp]
 &oY (dR (bU (fY (aC hc rfl) (Aa oG l)))) (fun hb=>?_) (fun hb=>jE ?_)
 ·rw[K7]at hb
  ~pG rfl ⟨_,rfl,by rw[hb];rfl⟩
 rw[M9]at hb
 rw[hb,G0]
 A7⟨c,t,rfl⟩:∃c t,l=c::t:=by
  cases l with
  | nil=>simp at b1
  | cons c t=>~⟨c,t,rfl⟩
 &qO (JL (aO (aO rfl rfl (Hi (c:=c) A5 rfl A3)) rfl (Hh _ _)) (aO rfl rfl (Hg _ _))) ⟨_,rfl,?_⟩
 rw[nJ,nJ]
 congr 3
 rw[F7,beq_iff_eq,beq_iff_eq]
 ~⟨fun h=>by cases h;rfl,fun h=>by cases h;rfl⟩
A9 JV{l:List Nat}(hl:l.length≤5000):fJ [.str (sS l)]=some (.bl (iW l (tY l))):=by
 suffices hh:∃d,fJ [.str (sS l)]=some d∧d=.bl (iW l (tY l)) by
  A7⟨d,h1,rfl⟩:=hh
  ~h1
 have hf:=Qo l
 &lE rfl ?_
 A8 Ec
 rw[uf,ug,uh]
 have hs:(fB (f2 Gb (aF 0) (fC (.str (sS [45]))))) (rE [.fro (.str (sS l)),.no])=some (decide (l.head?=some 45)):=by
  &bU (aO rfl rfl ?_)
  show some (D.bl (Txt.startswith (sS l) (sS [45])))=_
  rw[Tz]
 &cI (d:=.str (sS (tY l))) ?_ A6 (Ua A3)
 A8 tY
 by_cases c:l.head?=some 45
 ·rw[if_pos c]
  rw[decide_eq_true c]at hs
  &uc hs ?_
  A7⟨t,rfl⟩:∃t,l=45::t:=by
   cases l with
   | nil=>cases c
   | cons a t=>cases c;~⟨t,rfl⟩
  &(lM rfl (fH rfl) rfl (oH A5 hl)).trans ?_
  rw[Qq]
  rfl
 ·rw[if_neg c]
  rw[decide_eq_false c]at hs
  ~ud hs (xZ rfl rfl)
A9 JW{l:List Nat}(hl:l.length≤100)(h:iW l (tY l)=true):S0 (sS l)=some (Kl l (tY l)):=by
 A8 iW at h
 rw[B4,B4,B4]at h
 A7⟨⟨h1,h2⟩,h3,h4⟩:=h
 have h1:=of_decide_eq_true h1
 have hd:PySem.NumText.AllDigits (tY l):=fun c hc=>of_decide_eq_true (D9.mp h3 c hc)
 have hn:tY l≠[]:=fun z=>by rw[z]at h1;simp at h1
 A8 Kl
 by_cases c:l.head?=some 45
 ·A7⟨t,rfl⟩:∃t,l=45::t:=by
   cases l with
   | nil=>cases c
   | cons a t=>cases c;~⟨t,rfl⟩
  have e:tY (45::t)=t:=by A8 tY;rw[if_pos c];rfl
  rw[e]at hd hn ⊢
  rw[if_neg (fun z=>by have:=congrArg W9 z;simp at this),PySem.intText_neg (x:=sS (45::t)) (cs:=t) rfl hd hn (by rw[iU];omega)]
 ·have e:tY l=l:=by A8 tY;rw[if_neg c]
  rw[e]at hd hn ⊢
  rw[if_pos rfl,PySem.intText_digits (x:=sS l) hd hn (by rw[iU];omega)]
  rfl
A9 jZ{f:FE}{e:DE}{d:D}{T t:String}(h:f e=some d)(ht:xf d=some t)(hT:T∈Py):mF T f e=some (.bl (Ti t T)):=by
 A8 mF
 rw[h]
 show HF T d=_
 A8 HF
 rw[if_pos hT,ht]
 rfl
noncomputable abbrev Ny:FT:=Dl (fQ (fB (mF "str" (aF 0)))) (fQ (fB (bA 1 fJ (aB (aF 0) aG))))
A9 Xu{l:List Nat}(hl:l.length≤5000):Ny (rE [.fro (.str (sS l))])=some (!iW l (tY l)):=
 (PJ (dR (b:=true) (bU (jZ (t := "str") rfl rfl A5)))).trans (dR (bU (aX (aC rfl rfl) rfl (JV hl))))
A9 aAo{κ:Nat→Addr}{d:D}(h:Ny (rE [.fro d])=some false):cR κ [d]=none:=by
 A8 cR Sy
 rw[if_pos (show [d].length=1 from rfl)]
 show lB κ [.fro d]=none
 A8 lB Uj
 have h':(Dl (fQ (fB (mF "str" (aF 0)))) (fQ (fB (bA 1 fJ (aB (aF 0) aG))))) (rE [.fro d])=_:=h
 rw[h']
 rfl
A9 um{κ:Nat→Addr}{d:D}(h:Ny (rE [.fro d])=some true):cR κ [d]=some 0:=by
 A8 cR Sy
 rw[if_pos (show [d].length=1 from rfl)]
 show lB κ [.fro d]=some 0
 A8 lB Uj
 have h':(Dl (fQ (fB (mF "str" (aF 0)))) (fQ (fB (bA 1 fJ (aB (aF 0) aG))))) (rE [.fro d])=_:=h
 rw[h']
 rfl
A9 Xv{l:List Nat}(hl:l.length≤100)(h:iW l (tY l)=true):cJ [.str (sS l)]=some (.int (Kl l (tY l))):=by
 &lW rfl ?_
 A8 wX
 &zW (Xu (l:=l) A3) (by rw[h];rfl) (Jt ?_)
 &mQ (fY (aC rfl rfl) ?_)
 show (if(sS l).length≤640 then(S0 (sS l)).map D.int else none)=_
 rw[if_pos (by rw[iU];omega),JW hl h]
 rfl
A9 Ej{L F:List Nat}(h2:F.length≤5000) :
  Qs (fun r=>∃d,r=.ret d∧d=if iW L F=true then .int (Kl L F)else .non) ((aQ (jJ (Dl (fB (f2 Zd (fL qH (aB (aF 1) aG)) (fC (.int 1)))) (fB (f2 gn (fL qH (aB (aF 1) aG)) (fC (.int 60))))) (cU (fC .non)) bG)
 (aQ (bD 2 (fC (.int 0)))
 (aQ (uQ [1] 3 (Mv (aF 1)) (aQ (bD 4 (f2 Pz (fC (.str (sS [48,49,50,51,52,53,54,55,56,57]))) (aF 3)))
 (aQ (jJ (fB (f2 Zd (aF 4) (fC (.int 0)))) (cU (fC .non)) bG)
 (bD 2 (f2 cX (f2 yW (aF 2) (fC (.int 10))) (aF 4))))))
 (aQ (jJ (Lz (fB (f2 vN (f2 Ga (aF 1) (fC (.int 0))) (fC (.str (sS [48]))))) (fB (f2 yZ (aF 0) (fC (.str (sS [48])))))) (cU (fC .non)) bG)
 (aQ (jJ (fB (f2 yZ (aF 1) (aF 0))) (cU (nR (aF 2))) bG)
 (mL 2)))))) [.fro (.str (sS L)),.own (.str (sS F)),.no,.no,.no]):=by
 have hlen:=Av F A3
 &oY (tK (bU (aO (fY (aC rfl rfl) hlen) rfl (mR _ _))) (bU (aO (fY (aC rfl rfl) hlen) rfl (yC _ _)))) (fun hb=>?_) (fun hb=>jE ?_)
 ·&pG rfl ⟨_,rfl,?_⟩
  rw[if_neg]
  intro z
  A8 iW at z
  rw[B4,B4]at z
  have z1:=of_decide_eq_true z.1.1
  have z2:=of_decide_eq_true z.1.2
  rw[R3]at hb
  rcases hb with q | q
  ·have:=of_decide_eq_true q;omega
  ·have:=of_decide_eq_true q;omega
 rw[R4]at hb
 have b1:1≤F.length:=by have:=of_decide_eq_false hb.1;omega
 have b2:F.length≤60:=by have:=of_decide_eq_false hb.2;omega
 &cI rfl A6 ?_
 &Aw (xs:=F.map fun c=>D.str ⟨#[c]⟩) (fun k env=>∃v3 v4,env=[.fro (.str (sS L)),.fro (.str (sS F)),.own (.int (N3 (F.take k):Int)),v3,v4]∧(F.take k).all oG=true) rfl rfl ⟨_,_,rfl,rfl⟩ ?_ ?_
 ·rintro k x env hx ⟨v3,v4,rfl,hall⟩
  &⟨by walk_at "lt", ?_⟩
  rw[D5]at hx
  cases qq:F[k]? with
  | none=>rw[qq]at hx;cases hx
  | some c=>
   rw[qq]at hx
   cases hx
   have hk:k<F.length:=(C4.mp qq).1
   have ht:F.take (k+1)=F.take k++[c]:=by rw[S9,qq];rfl
   &cI (d:=.int (if oG c=true then((c-48:Nat):Int)else -1)) (aO rfl rfl ?_) A6 ?_
   ·show some (D.int (Txt.find (sS [48,49,50,51,52,53,54,55,56,57]) (sS [c])))=_
    rw[Xr]
   by_cases hf:oG c=true
   ·rw[if_pos hf]
    &lA (bU (aO rfl rfl (mR _ _))) (decide_eq_false A3) (jE ?_)
    &ZX (aO (aO rfl rfl (Js (rm A5 A5))) rfl (fG _ _)) A6 (.inl ⟨_,rfl,.fro (.str ⟨#[c]⟩),.own (.int ((c-48:Nat):Int)),?_,?_⟩)
    ·rw[ht,PySem.NumText.digitsVal_snoc]
     show [SD.fro (D.str (sS L)),.fro (.str (sS F)),.own (.int ((N3 (F.take k):Int)*10+((c-48:Nat):Int))),_,_]=_
     congr 4
    ·rw[ht,R5,hall]
     simp[hf]
   ·rw[if_neg hf]
    &PL (bU (aO rfl rfl (mR _ _))) (decide_eq_true A5) (pG rfl (.inr ⟨_,rfl,_,rfl,?_⟩))
    rw[if_neg]
    intro z
    A8 iW at z
    rw[B4,B4,B4]at z
    ~hf (D9.mp z.2.1 c (J0 qq))
 rintro env ⟨v3,v4,rfl,hall⟩
 rw[B3,N2]at hall
 rw[B3,N2]
 A7⟨c,t,rfl⟩:∃c t,F=c::t:=by
  cases F with
  | nil=>simp at b1
  | cons c t=>~⟨c,t,rfl⟩
 have hn:iW L (c::t)=(!(c==48)||(L==[48])):=by
  A8 iW
  rw[decide_eq_true b1,decide_eq_true b2,hall]
  show (!((some c:Option Nat)==some 48)||_)=_
  congr 2
 rw[hn]
 &oY (Qg (bU (aO (aO rfl rfl (Hi (c:=c) A5 rfl A3)) rfl (Hg _ _))) (bU (aO rfl rfl (Hh _ _)))) (fun hb=>?_) (fun hb=>jE ?_)
 ·&pG rfl ⟨_,rfl,?_⟩
  rw[nJ,nJ,B4]at hb
  have e1:(c==48)=true:=by
   have:=beq_iff_eq.mp hb.1
   cases this
   rfl
  rw[if_neg]
  rw[e1]
  have:=hb.2
  rw[K7]at this
  rw[this]
  decide
 rw[nJ,nJ,Q7]at hb
 have hy:(!(c==48)||(L==[48]))=true:=by
  rw[R3]
  rcases hb with z | z
  ·left
   rw[K7,beq_eq_false_iff_ne]
   intro y
   rw[y]at z
   simp at z
  ·right
   rw[M9]at z
   ~z
 rw[if_pos hy]
 A8 Kl
 &oY (bU (aO rfl rfl (Hh _ _))) (fun hb=>?_) (fun hb=>jE ?_)
 ·rw[nJ,K7,beq_eq_false_iff_ne]at hb
  rw[if_neg hb]
  ~pG (oX rfl) ⟨_,rfl,rfl⟩
 ·rw[nJ,M9,beq_iff_eq]at hb
  rw[if_pos hb]
  ~wA rfl ⟨_,rfl,rfl⟩
A9 JX{l:List Nat}(hl:l.length≤5000):lZ [.str (sS l)]=some (if iW l (tY l)=true then .int (Kl l (tY l))else .non):=by
 suffices hh:∃d,lZ [.str (sS l)]=some d∧d=if iW l (tY l)=true then .int (Kl l (tY l))else .non by
  A7⟨d,h1,rfl⟩:=hh
  ~h1
 have hf:=Qo l
 &lE rfl ?_
 A8 Ai
 rw[uf,ug,uh]
 &cI (xZ rfl rfl) A6 ?_
 have hc:=lM (f:=aF 0) (fl:=fU) (fh:=dI (fC (.int 1))) (e:=rE [.fro (.str (sS l)),.own (.str (sS l)),.no,.no,.no]) (l:=l) rfl rfl (fH rfl) (yI A5 hl)
 rw[Tw]at hc
 &oY (bU (aO hc rfl (Hg _ _))) (fun hb=>?_) (fun hb=>jE ?_)
 ·rw[nJ,beq_iff_eq]at hb
  A7⟨t,rfl⟩:∃t,l=45::t:=by
   cases l with
   | nil=>cases hb
   | cons a t=>cases hb;~⟨t,rfl⟩
  have e:tY (45::t)=t:=by A8 tY;rw[if_pos (show (45::t).head?=some 45 from rfl)];rfl
  rw[e]at hf ⊢
  &cI (d:=.str (sS t)) ?_ A6 (Ej A3)
  &(lM rfl (fH rfl) rfl (oH A5 hl)).trans ?_
  rw[Qq]
 ·rw[nJ,beq_eq_false_iff_ne]at hb
  have e:tY l=l:=by
   A8 tY
   rw[if_neg]
   intro z
   cases l with
   | nil=>cases z
   | cons a t=>cases z;~hb rfl
  rw[e]at hf ⊢
  ~Ej A3
A9 uo{sub:Gi}{n nj j i:Nat}{g:GS}(h1:i<n)(h2:j<nj)(h:sub i j=true):sO sub n nj ((j,g)::[]) i=g:=by
 A8 sO
 rw[if_pos ⟨h1,h2⟩,if_pos h]
A9 az{z:GZ}{g g2:GS}{sub:Gi}{n nj:Nat}{hs:Nat→List (Nat×GS)}{env:EN}{Pr:SR→Prop}(h:z env=none)(k:Qs Pr (aQ g g2 env)):Qs Pr (aQ (Bv z g sub n nj hs) g2 env):=by
 have e:Bv z g sub n nj hs env=g env:=by A8 Bv;rw[h]
 A8 aQ at k ⊢
 rw[e]
 ~k
A9 bc{z:GZ}{g g2 gh:GS}{sub:Gi}{n nj i:Nat}{hs:Nat→List (Nat×GS)}{env:EN}{Pr:SR→Prop}(h:z env=some i)(hp:sO sub n nj (hs i) i=gh)(k:Qs Pr (aQ gh g2 env)):Qs Pr (aQ (Bv z g sub n nj hs) g2 env):=by
 have e:Bv z g sub n nj hs env=gh env:=by A8 Bv;rw[h];show sO sub n nj (hs i) i env=_;rw[hp]
 A8 aQ at k ⊢
 rw[e]
 ~k
A9 aAp{g g2:GS}{k:Nat}{env env':EN}{Pr:SR→Prop}(h1:k<env.length)(h:g (env.set k .no)=.next env')(h2:k<env'.length)(kk:Qs Pr (g2 (env'.set k .no))):Qs Pr (aQ (gw k g) g2 env):=by
 have e:gw k g env=.next (env'.set k .no):=by A8 gw;rw[if_pos h1,h];dsimp only;rw[if_pos h2]
 rw[gR e]
 ~kk
abbrev aBv:D:=.lst [.bl true,.bl true,.bl false,.bl false,.bl false]
A9 Xw(i:Int):rG [.int i]=some (.bl true):=by
 &lW rfl ?_
 A8 Ef
 apply mQ
 ~JF (jZ (t := "int") rfl rfl A5) (Xe (b:=false) (jZ (t := "int") rfl rfl A5))
A9 Xx(ns:List Int):nZ [dTup ns,dTup ns]=some (.bl true):=by
 suffices h:∃d,nZ [dTup ns,dTup ns]=some d∧d=.bl true by
  A7⟨d,h1,rfl⟩:=h
  ~h1
 &lE rfl ?_
 A8 Eg
 have hlen:cO [dTup ns]=some (.int ns.length):=by A8 dTup;rw[qN,B3]
 apply lA
 ·apply tK
  ·~dR (bU (b:=true) (jZ (t := "tuple") rfl rfl A5))
  ·walk_at "et"
 ·rw[decide_eq_true rfl];rfl
 apply jE
 &Xl (xs:=ns.map D.int) (pH:=[.fro (dTup ns),.fro (dTup ns),.no]) (fun n env=>∃v,env=[.fro (dTup ns),.fro (dTup ns),v]) rfl (Xf rfl) ⟨_,rfl⟩ ?_ ?_
 ·rintro k x env hx ⟨v,rfl⟩
  rw[D5]at hx
  cases q:ns[k]? with
  | none=>rw[q]at hx;cases hx
  | some z=>
   rw[q]at hx
   cases hx
   have hw:=Xw z
   &⟨by walk_at "lt", ?_⟩
   apply Xj
   ·walk_at "et"
   ·rfl
   ~⟨_,rfl,_,rfl⟩
 ·rintro env' ⟨v,rfl⟩
  apply qO
  ·~aO rfl rfl (JG ns ns)
  ·~⟨_,rfl,by rw[decide_eq_true rfl]⟩
def fZ(p:List (List Int)):D:=.lst (p.map dTup)
def aZ(s:List (List (List Int))):D:=.lst (s.map fZ)
A9 Ax{s:List (List (List Int))}{k:Nat}{p:List (List Int)}(h:s[k]?=some p):sH (aZ s) (.int k)=some (fZ p):=by
 A8 aZ
 ~jY A3 (by rw[N0,D5,h];rfl)
A9 Qi{p:List (List Int)}{k:Nat}{t:List Int}(h:p[k]?=some t):sH (fZ p) (.int k)=some (dTup t):=by
 A8 fZ
 ~jY A3 (by rw[N0,D5,h];rfl)
A9 wN(s:List (List (List Int))):cO [aZ s]=some (.int s.length):=by A8 aZ;rw[zR,B3]
A9 qY(p:List (List Int)):cO [fZ p]=some (.int p.length):=by A8 fZ;rw[zR,B3]
A9 Xy(s:List (List (List Int)))(hs:s.length≤1000)(hp:∀p∈s,p.length≤1000):lN [aZ s,aZ s]=some (.bl true):=by
 suffices h:∃d,lN [aZ s,aZ s]=some d∧d=.bl true by
  A7⟨d,h1,rfl⟩:=h
  ~h1
 &lE rfl ?_
 A8 Eh
 have hlen:=wN s
 apply lA
 ·apply tK
  ·~dR (bU (b:=true) (jZ (t := "list") rfl rfl A5))
  ·walk_at "et"
 ·rw[decide_eq_true rfl];rfl
 apply jE
 &Qh (n:=s.length) (fun n env=>∃v2 v3,env=[.fro (aZ s),.fro (aZ s),v2,v3]) (yF (aC (fY (aC rfl rfl) hlen) rfl) A3) ⟨_,_,rfl⟩ ?_ ?_
 ·rintro k env hk ⟨v2,v3,rfl⟩
  &⟨by walk_at "lt", ?_⟩
  have ep:s[k]?=some s[k]:=B6 hk
  have ix:=Ax ep
  have lp:=qY s[k]
  have hpl:=hp _ (X4 hk)
  apply lA
  ·apply tK
   ·~dR (bU (b:=true) (jZ (t := "list") (aO rfl rfl ix) rfl A5))
   ·walk_at "et"
  ·rw[decide_eq_true rfl];rfl
  apply jE
  &Xk (n:=s[k].length) (fun n env=>∃v3,env=[.fro (aZ s),.fro (aZ s),.fro (.int k),v3]) (yF (aC (fY (aC (aO rfl rfl ix) rfl) lp) rfl) A3) ⟨_,rfl⟩ ?_ ?_
  ·rintro j env hj ⟨v3,rfl⟩
   &⟨by walk_at "lt", ?_⟩
   have et:s[k][j]?=some s[k][j]:=B6 hj
   have ixt:=Qi et
   have ht:=Xx s[k][j]
   apply Xj
   ·walk_at "et"
   ·rfl
   ~⟨_,rfl,_,rfl⟩
  ·rintro env' ⟨v3,rfl⟩
   ~⟨_,rfl,_,_,rfl⟩
 ·rintro env' ⟨v2,v3,rfl⟩
  apply qO
  ·walk_at "ev"
  ·~⟨_,rfl,rfl⟩
def jn(c:Nat):List (List Nat)→List Nat
 | []=>[]
 | [x]=>x
 | x::y::r=>x++c::jn c (y::r)
def jr(c:Nat):List (List Nat)→List Nat
 | []=>[]
 | y::r=>c::jn c (y::r)
A9 Qt(c:Nat):∀l:List (List Nat),Str.join (sS [c]) (l.map sS)=sS (jn c l)
 | []=>rfl
 | [x]=>rfl
 | x::y::r=>by
  show sS x++sS [c]++Str.join (sS [c]) ((y::r).map sS)=_
  rw[Qt c (y::r),Nv,Nv,W6]
  rfl
def wt:List (List Nat)→Nat
 | []=>0
 | x::r=>x.length+1+wt r
A9 Qu:∀(l:List (List Nat))(a:Nat),(l.map sS).foldl (fun n s=>n+s.length+1) a=a+wt l
 | [],a=>rfl
 | x::r,a=>by
  rw[D7,Y0,Qu r,iU]
  show _=a+(x.length+1+wt r)
  omega
A9 Ub{c:Nat}{l:List (List Nat)}(h:wt l≤100000):JoinOk (sS [c]) (l.map sS)=true:=by
 have e:(l.map sS).toArray.foldl (fun n s=>n+s.length+(sS [c]).length) 0=wt l:=by
  rw[List.foldl_toArray]
  ~(Qu l 0).trans A3
 show (!Builtin.Str.tooLong ((l.map sS).toArray.foldl (fun n s=>n+s.length+(sS [c]).length) 0))=true
 rw[e]
 A8 Builtin.Str.tooLong
 rw[decide_eq_false (by have:=jB h;omega)]
 rfl
A9 Hq(c:Nat):∀l:List (List Nat),(jn c l).length≤wt l
 | []=>D2 _
 | [x]=>by show x.length≤x.length+1+0;omega
 | x::y::r=>by
  have:=Hq c (y::r)
  show (x++c::jn c (y::r)).length≤x.length+1+wt (y::r)
  rw[C6,G8]
  omega
A9 Xz{α:Type}{f:α→List Nat}{n:Nat}:∀{l:List α},(∀x∈l,(f x).length≤n)→wt (l.map f)≤l.length*(n+1)
 | [],_=>O1 _
 | x::r,h=>by
  have h1:=h x D1
  have h2:=Xz (f:=f) (n:=n) (l:=r) fun y hy=>h y (C5 _ hy)
  rw[D7,G8,Nat.add_mul]
  show (f x).length+1+wt (r.map f)≤_
  omega
def dG(l:List (List Nat)):D:=.lst (l.map fun x=>D.str (sS x))
A9 Yb(l:List (List Nat)):(l.map fun x=>D.str (sS x))=(l.map sS).map D.str:=by rw[M8];rfl
A9 Ay{c:Nat}{l:List (List Nat)}(h:wt l≤100000):Dr (.str (sS [c])) (dG l)=some (.str (sS (jn c l))):=by
 show (strsOf (l.map fun x=>D.str (sS x))).bind (fun xs=>if JoinOk (sS [c]) xs=true then some (D.str (Txt.join (sS [c]) xs))else none)=_
 rw[Yb,zH,C8,if_pos (Ub h)]
 show some (D.str (Builtin.Str.glued (sS [c]) (l.map sS)))=_
 rw[StrLaws.glued_eq_join,Qt]
A9 bf{env:EN}{i:Nat}{π:FP}{f g:FE}{d0:D}{p:List L2.Step}{ns:List Int}{k y:Int}(h1:env[i]?=some (.own d0))(h2:π (rE env)=some p)(h3:qF p d0=some (aW ns))(h4:f (rE env)=some (.int k))(h5:g (rE env)=some (.int y))(k0:0≤k)(k1:k≤(ns.length:Int))(hl:ns.length<1000):Ms i π f g env=.next (env.set i (.own (oU p d0 (aW (ns.take k.toNat++y::ns.drop k.toNat))))):=by
 A8 Ms
 rw[h1,h2,h4,h5]
 dsimp only
 rw[h3]
 A8 aW
 dsimp only
 rw[tG]
 dsimp only
 rw[if_pos ⟨k0,by omega,hl⟩]
A9 JZ{env:EN}{i:Nat}{π:FP}{g:FE}{d0:D}{p:List L2.Step}{ns:List Int}{k:Int}(h1:env[i]?=some (.own d0))(h2:π (rE env)=some p)(h3:qF p d0=some (aW ns))(h5:g (rE env)=some (.int k))(k0:0≤k)(k1:k.toNat<ns.length)(hl:ns.length<1000):zF i π g env=.next (env.set i (.own (oU p d0 (aW (ns.eraseIdx k.toNat))))):=by
 A8 zF
 rw[h1,h2,h5]
 dsimp only
 rw[h3]
 A8 aW
 dsimp only
 rw[tG]
 dsimp only
 rw[if_pos ⟨k0,k1,hl⟩]
A9 Yc{s:L2.Step}{d x:D}{j:Nat}(h1:xM s d=some j)(h2:(kids d)[j]?=some x):qF [s] d=some x:=by A8 qF;rw[h1,C8,h2];rfl
A9 Yd{s:L2.Step}{d x y:D}{j:Nat}(h1:xM s d=some j)(h2:(kids d)[j]?=some y):oU [s] d x=uR d ((kids d).set j x):=by
 show (match xM s d with | some j=>_ | none=>_)=_
 rw[h1]
 show (match (kids d)[j]? with | some c=>_ | none=>_)=_
 rw[h2]
 rfl
A9 Nz{x:D}{xs:List D}{k:Nat}(h:xs[k]?=some x):qF [.ix k] (.lst xs)=some x:=Yc (s:=.ix k) (d:=.lst xs) (j:=k) rfl h
A9 Oa{x:D}{xs:List D}{k:Nat}{y:D}(h:xs[k]?=some y):oU [.ix k] (.lst xs) x=.lst (xs.set k x):=Yd (s:=.ix k) (d:=.lst xs) (j:=k) rfl h
A9 bh{π:FP}{g:FE}{e:DE}{p:List L2.Step}{k:Int}(h1:π e=some p)(h2:g e=some (.int k))(h3:0≤k):Uh π g e=some (p++[.ix k.toNat]):=by
 A8 Uh
 rw[h1,C8,h2,C8]
 dsimp only
 rw[if_pos h3]
A9 jW{fi:FA}{fr:List Nat}{fe:FE}{e:DE}{α:Type}{xs:List α}{ψ φ:α→D}(h1:fi e=some (xs.map ψ))(hn:xs.length≤100000)(he:∀x∈xs,fe (some (ψ x)::iD e fr)=some (φ x)):cV fi fr dW fe e=some (.lst (xs.map φ)):=by
 &zT h1 (by rw[B3];omega) ?_
 clear h1 hn
 induction xs with
 | nil=>rw[J7,J7];A8 mK;rfl
 | cons x xs ih=>
  rw[D7]
  A8 mK
  show (some true).bind _=_
  rw[C8,if_pos rfl,he x D1,C8,ih fun y hy=>he y (C5 _ hy)]
  rfl
A9 Az{fi:FA}{fr:List Nat}{fe:FE}{fz:DE→Option Nat}{env:EN}{α:Type}{xs:List α}{ψ φ:α→D}(ok:α→Bool)(h1:fi (rE env)=some (xs.map ψ))(hn:xs.length≤100000)(hy:∀x∈xs,ok x=true→fe (some (ψ x)::iD (rE env) fr)=some (φ x)∧fz (some (ψ x)::iD (rE env) fr)=none)(hz:∀x∈xs,ok x=false→fz (some (ψ x)::iD (rE env) fr)=some 0):qL fi fr fe fz env=if xs.all ok=true then none else some 0:=by
 A8 qL
 rw[h1,C8,if_pos (by rw[B3];~hn)]
 clear h1 hn
 induction xs with
 | nil=>A8 zO;rfl
 | cons x xs ih=>
  have ih:=ih (fun y hy'=>hy y (C5 _ hy')) fun y hy'=>hz y (C5 _ hy')
  rw[D7,K3]
  A8 zO
  cases q:ok x with
  | true=>
   A7⟨a,b⟩:=hy x D1 q
   rw[b]
   dsimp only
   rw[a,C8,ih,G0]
  | false=>
   rw[hz x D1 q]
   rfl
A9 Qv{z1 z2:GZ}{env:EN}{i:Nat}(h:z1 env=some i):Ze z1 z2 env=some i:=by A8 Ze;rw[h]
A9 wZ{z1 z2:GZ}{env:EN}(h:z1 env=none):Ze z1 z2 env=z2 env:=by A8 Ze;rw[h]
A9 kE{g:GS}{z:GZ}{env env':EN}(h:g env=.next env'):uV g z env=z env':=by A8 uV;rw[h]
A9 Ye{c:FT}{z1 z2:GZ}{env:EN}(h:c (rE env)=some true):Uj c z1 z2 env=z1 env:=by A8 Uj;rw[h]
A9 Qw{c:FT}{z1 z2:GZ}{env:EN}(h:c (rE env)=some false):Uj c z1 z2 env=z2 env:=by A8 Uj;rw[h]
A9 Hr{n m:Nat}{z:GZ}{ds:List D}(h:ds.length=m):Sy n m z ds=z (ds.map SD.fro++B9 (n-m) SD.no):=by A8 Sy;rw[if_pos h]
def iK(c:Nat)(l:List Nat):List (List Nat):=(Txt.split (sS l) (sS [c])).map fun s=>s.cps.toList
A9 Yg:("," : Str)=sS [44]:=vH ","
A9 Yh:(" " : Str)=sS [32]:=vH " "
A9 Yi:(";" : Str)=sS [59]:=vH ";"
A9 qZ{c:Nat}{l:List Nat}(h:l.length≤5000):dJ (.str (sS l)) (.str (sS [c]))=some (dG (iK c l)):=by
 show (if((sS [c]).length==0)=false∧(sS l).length≤90000 then some (D.lst ((Txt.split (sS l) (sS [c])).map D.str))else none)=_
 rw[if_pos ⟨rfl,by rw[iU];omega⟩]
 A8 dG iK
 rw[M8]
 ~congrArg (fun x=>some (D.lst x)) (R8 fun s _=>congrArg D.str (Nx s))
A9 Hs(c:Nat)(l:List Nat):1≤(iK c l).length:=by
 A8 iK
 rw[B3]
 ~PyProof.Rows.split_pos _ _
A9 mZ{c:Nat}{l:List Nat}(h:l.length≤5000):(iK c l).length≤5002:=by
 A8 iK
 rw[B3]
 have:=U8 (sS l) (sS [c])
 rw[iU]at this
 omega
A9 fO{c:Nat}{l x:List Nat}(h:x∈iK c l):x.length≤l.length:=by
 A7⟨s,hs,rfl⟩:=M7.mp h
 have:=PyProof.Rows.part_short hs
 rw[iU]at this
 rw[K8]
 ~this
A9 KC{l:List Nat}(h:iW l (tY l)=true):l.length≤61:=by
 A8 iW at h
 rw[B4,B4]at h
 have h2:=of_decide_eq_true h.1.2
 A8 tY at h2
 split at h2
 ·rw[X7]at h2;omega
 ·omega
abbrev Qx(x:List Nat):Bool:=iW x (tY x)
abbrev nV(x:List Nat):Int:=Kl x (tY x)
def Ba(m:Nat)(l:List Nat):Bool:=(iK 44 l).all Qx&&((iK 44 l).length==m)
def Bg(l:List Nat):List Int:=(iK 44 l).map nV
def Bb(l:List Nat):Bool:=(iK 32 l).dropLast.all (Ba 5)&&Ba 1 ((iK 32 l).getLastD [])
def Kv(l:List Nat):List (List Int):=(iK 32 l).map Bg
def Bc(s:List (List (List Int))):Bool:=decide (s.length≤8)&&((decide (2≤(s.getD 0 []).length)&&decide ((s.getD 0 []).length≤9))&&s.all fun q=>decide (q.length=(s.getD 0 []).length))
def pK(l:List Nat):List (List (List Int)):=(iK 59 l).map Kv
def Ht(l:List Nat):Bool:=(iK 59 l).all Bb&&Bc (pK l)
A9 Qy{κ:Nat→Addr}{x:List Nat}(hl:x.length≤5000):(Qx x=true→cJ [.str (sS x)]=some (.int (nV x))∧cR κ [.str (sS x)]=none)∧(Qx x=false→cR κ [.str (sS x)]=some 0):=by
 have h:=Xu hl
 &⟨fun q=>⟨Xv (by have:=KC q;omega) q,aAo ?_⟩,fun q=>um ?_⟩
 ·rw[h,show iW x (tY x)=true from q];rfl
 ·rw[h,show iW x (tY x)=false from q];rfl
A9 PN{l:List Nat}{env:EN}(hl:l.length≤5000)(h0:(rE env)[0]?=some (some (.str (sS l))))(ha:(iK 44 l).all Qx=true):cV (eQ (f2 dJ (aF 0) (fC (.str (sS [44]))))) [] dW (bA 1 cJ (aB (aF 0) aG)) (rE env)=some (aW (Bg l)):=by
 have:=mZ (c:=44) hl
 have hc:=jW (fi:=eQ (f2 dJ (aF 0) (fC (.str (sS [44]))))) (fr:=[]) (fe:=bA 1 cJ (aB (aF 0) aG)) (e:=rE env) (xs:=iK 44 l) (ψ:=fun x=>D.str (sS x)) (φ:=fun x=>D.int (nV x)) (dY (aO (jD h0) rfl (qZ hl))) A3 fun x hx=>aX (aC rfl rfl) rfl ((Qy (κ:=fun _=>0) (by have:=fO hx;omega)).1 (D9.mp ha x hx)).1
 rw[hc]
 A8 aW Bg
 rw[M8]
 rfl
A9 rP{κ:Nat→Addr}{l:List Nat}{m:Nat}(hl:l.length≤5000):(Ba m l=true→cW [.str (sS l),.int m]=some (dTup (Bg l))∧bZ κ [.str (sS l),.int m]=none)∧(Ba m l=false→bZ κ [.str (sS l),.int m]=some 0):=by
 have hsl:=mZ (c:=44) hl
 have hlt:(Bg l).length=(iK 44 l).length:=B3 _
 have hZ:qL (eQ (f2 dJ (aF 0) (fC (.str (sS [44]))))) [] (bA 1 cJ (aB (aF 0) aG)) (nF (cR κ) (aB (aF 0) aG)) [.fro (.str (sS l)),.fro (.int m),.no]=if(iK 44 l).all Qx=true then none else some 0:=
  Az (ψ:=fun x=>D.str (sS x)) (φ:=fun x=>D.int (nV x)) Qx (dY (aO rfl rfl (qZ hl))) A3 (fun x hx q=>⟨aX (aC rfl rfl) rfl ((Qy (κ:=κ) (by have:=fO hx;omega)).1 q).1,((Qy (κ:=κ) (by have:=fO hx;omega)).1 q).2⟩) fun x hx q=>(Qy (κ:=κ) (by have:=fO hx;omega)).2 q
 have eR:bZ κ [.str (sS l),.int m]=oZ κ [.fro (.str (sS l)),.fro (.int m),.no]:=Hr rfl
 have hT:∀{e:DE},e[1]?=some (some (.int (m:Int)))→e[2]?=some (some (aW (Bg l)))→fB (f2 yZ (fL cO (aB (aF 2) aG)) (aF 1)) e=some (!((iK 44 l).length==m)):=fun e1 e2=>(bU (aO (fY (aC (jD e2) rfl) (Dy _)) (jD e1) (Qf _ _))).trans (by
  rw[hlt]
  congr 2
  rw[F7,decide_eq_true_iff,beq_iff_eq]
  omega)
 constructor
 ·intro h
  A8 Ba at h
  rw[B4]at h
  have hC:=PN (env:=[.fro (.str (sS l)),.fro (.int m),.no]) hl rfl h.1
  have hT:=hT (e:=rE [.fro (.str (sS l)),.fro (.int m),.own (aW (Bg l))]) rfl rfl
  rw[h.2]at hT
  constructor
  ·&lW rfl ?_
   A8 Ae
   rw[Yg]
   &nG hC A6 ?_
   ~zW hT rfl (Jt (mQ (fY (aC rfl rfl) (wW _))))
  ·rw[eR]
   A8 oZ
   rw[Yg]
   rw[if_pos h.1]at hZ
   rw[wZ hZ,kE (jC hC A6)]
   ~Qw hT
 ·intro h
  rw[eR]
  A8 oZ
  rw[Yg]
  cases ha:(iK 44 l).all Qx with
  | false=>
   rw[if_neg (by rw[ha];~B8)]at hZ
   ~Qv hZ
  | true=>
   A8 Ba at h
   rw[ha,G0]at h
   have hC:=PN (env:=[.fro (.str (sS l)),.fro (.int m),.no]) hl rfl ha
   have hT:=hT (e:=rE [.fro (.str (sS l)),.fro (.int m),.own (aW (Bg l))]) rfl rfl
   rw[h]at hT
   rw[if_pos ha]at hZ
   rw[wZ hZ,kE (jC hC A6)]
   ~(Ye hT).trans rfl
A9 PQ{l:List Nat}:(iK 32 l)=(iK 32 l).dropLast++[(iK 32 l).getLastD []]:=by
 have hp:=Hs 32 l
 have hn:iK 32 l≠[]:=fun z=>by rw[z]at hp;cases hp
 rw[List.getLastD_eq_getLast?,List.getLast?_eq_some_getLast hn]
 ~(List.dropLast_concat_getLast hn).symm
A9 Hu{κ:Nat→Addr}{l:List Nat}(hl:l.length≤5000):(Bb l=true→fK [.str (sS l)]=some (fZ (Kv l))∧jQ κ [.str (sS l)]=none)∧(Bb l=false→jQ κ [.str (sS l)]=some 0):=by
 have hsl:=mZ (c:=32) hl
 have hpl:=PQ (l:=l)
 have hsh:∀x∈iK 32 l,x.length≤5000:=fun x hx=>F0 (fO hx) hl
 A8 Bb
 A8 Kv
 have hsp:=qZ (c:=32) hl
 generalize hws:iK 32 l=ws at *
 generalize ws.dropLast=ds at *
 generalize ws.getLastD []=z at *
 subst hpl
 rw[C6,D8]at hsl
 have hz:z.length≤5000:=hsh z (C9 _ (F6.mpr rfl))
 have hd:∀x∈ds,x.length≤5000:=fun x hx=>hsh x (I0 _ hx)
 have ew:dG (ds++[z])=.lst ((ds.map fun t=>D.str (sS t))++[D.str (sS z)]):=by
  A8 dG
  rw[G5]
  rfl
 have uq:∀{e:DE},e[1]?=some (some (dG (ds++[z])))→eQ (Ug false (aF 1) (fU) (dI (nR (fC (.int 1))))) e=some (ds.map fun t=>D.str (sS t)):=fun e1=>by
  &(dY (ZZ (jD (e1.trans (by rw[ew]))) rfl (fH (oX rfl)) (.inl rfl))).trans ?_
  rw[Jx,List.dropLast_concat]
 have five:∀{e:DE} {d:D},e[0]?=some (some d)→(aB (aF 0) (aB (fL cO (aB (fC (dTup [0,0,-1,-1,0])) aG)) aG)) e=some [d,.int ((5:Nat):Int)]:=fun e0=>aC (jD e0) (aC (fY (aC rfl rfl) (qN _)) rfl)
 have one:∀{e:DE},e[1]?=some (some (dG (ds++[z])))→(aB (f2 sH (aF 1) (nR (fC (.int 1)))) (aB (fL cO (aB (fC (dTup [0])) aG)) aG)) e=some [.str (sS z),.int ((1:Nat):Int)]:=fun e1=>aC (aO (jD (e1.trans (by rw[ew]))) (oX rfl) (JK (by rw[List.getLast?_append];rfl))) (aC (fY (aC rfl rfl) (qN _)) rfl)
 have hC:∀{env:EN},(rE env)[1]?=some (some (dG (ds++[z])))→ds.all (Ba 5)=true→cV (eQ (Ug false (aF 1) (fU) (dI (nR (fC (.int 1)))))) [] dW (bA 2 cW (aB (aF 0) (aB (fL cO (aB (fC (dTup [0,0,-1,-1,0])) aG)) aG))) (rE env)=some (fZ (ds.map Bg)):=fun{env} e1 ha=>by
  have hc:=jW (fi:=eQ (Ug false (aF 1) (fU) (dI (nR (fC (.int 1)))))) (fr:=[]) (fe:=bA 2 cW (aB (aF 0) (aB (fL cO (aB (fC (dTup [0,0,-1,-1,0])) aG)) aG))) (e:=rE env) (xs:=ds) (ψ:=fun x=>D.str (sS x)) (φ:=fun x=>dTup (Bg x)) (uq e1) A3 fun x hx=>aX (five rfl) rfl ((rP (κ:=κ) (hd x hx)).1 (D9.mp ha x hx)).1
  rw[hc]
  A8 fZ
  rw[M8]
  rfl
 have hZ:∀{env:EN},(rE env)[1]?=some (some (dG (ds++[z])))→qL (eQ (Ug false (aF 1) (fU) (dI (nR (fC (.int 1)))))) [] (bA 2 cW (aB (aF 0) (aB (fL cO (aB (fC (dTup [0,0,-1,-1,0])) aG)) aG))) (nF (bZ κ) (aB (aF 0) (aB (fL cO (aB (fC (dTup [0,0,-1,-1,0])) aG)) aG))) env=if ds.all (Ba 5)=true then none else some 0:=fun{env} e1=>
  Az (ψ:=fun x=>D.str (sS x)) (φ:=fun x=>dTup (Bg x)) (Ba 5) (uq e1) A3 (fun x hx q=>⟨aX (five rfl) rfl ((rP (κ:=κ) (hd x hx)).1 q).1,by
   show ((aB (aF 0) (aB (fL cO (aB (fC (dTup [0,0,-1,-1,0])) aG)) aG)) _).bind (bZ κ)=none
   rw[five rfl]
   ~((rP (κ:=κ) (hd x hx)).1 q).2⟩) fun x hx q=>by
   show ((aB (aF 0) (aB (fL cO (aB (fC (dTup [0,0,-1,-1,0])) aG)) aG)) _).bind (bZ κ)=some 0
   rw[five rfl]
   ~(rP (κ:=κ) (hd x hx)).2 q
 have eR:jQ κ [.str (sS l)]=rH κ [.fro (.str (sS l)),.no,.no]:=Hr rfl
 have hX:∀{o:Option Nat},bZ κ [.str (sS z),.int ((1:Nat):Int)]=o→zX (Wz (aF 2) (nF (bZ κ) (aB (f2 sH (aF 1) (nR (fC (.int 1)))) (aB (fL cO (aB (fC (dTup [0])) aG)) aG)))) [.fro (.str (sS l)),.own (dG (ds++[z])),.own (fZ (ds.map Bg))]=o:=fun{o} h=>by
  show ((aB (f2 sH (aF 1) (nR (fC (.int 1)))) (aB (fL cO (aB (fC (dTup [0])) aG)) aG)) _).bind (bZ κ)=o
  rw[one rfl]
  ~h
 have Ob:=jC (i:=1) (f:=f2 dJ (aF 0) (fC (.str (sS [32])))) (env:=[.fro (.str (sS l)),.no,.no]) (aO rfl rfl hsp) A6
 have e1:∀{v:SD},(rE [.fro (.str (sS l)),.own (dG (ds++[z])),v])[1]?=some (some (dG (ds++[z]))):=rfl
 constructor
 ·intro h
  rw[B4]at h
  have hC:=hC (env:=[.fro (.str (sS l)),.own (dG (ds++[z])),.no]) e1 h.1
  have hZ:=hZ (env:=[.fro (.str (sS l)),.own (dG (ds++[z])),.no]) e1
  rw[if_pos h.1]at hZ
  have hl1:=(rP (κ:=κ) hz).1 h.2
  constructor
  ·&lW rfl ?_
   A8 Ed
   rw[Yh]
   &sr Ob (nG hC A6 ?_)
   &mQ ((aO rfl (b:=.lst [dTup (Bg z)]) (bQ (aC (aX (one rfl) rfl hl1.1) rfl) (by show 1≤_;decide)) (rD ?_ ?_)).trans ?_)
   ·&Xh fun d hd=>?_
    rcases L8.mp hd with q | q
    ·A7⟨t,_,rfl⟩:=M7.mp q
     ~Jv t
    ·rw[F6.mp q]
     ~Jv _
   ·rw[B3,B3,D8];omega
   ·A8 fZ
    rw[G5,G5]
    rfl
  ·rw[eR]
   A8 rH
   rw[Yh,kE Ob]
   ~(wZ hZ).trans ((kE (jC hC A6)).trans (hX hl1.2))
 ·intro h
  rw[eR]
  A8 rH
  rw[Yh,kE Ob]
  have hZ:=hZ (env:=[.fro (.str (sS l)),.own (dG (ds++[z])),.no]) e1
  cases ha:ds.all (Ba 5)with
  | false=>
   rw[if_neg (by rw[ha];~B8)]at hZ
   ~Qv hZ
  | true=>
   rw[ha,G0]at h
   rw[if_pos ha]at hZ
   have hC:=hC (env:=[.fro (.str (sS l)),.own (dG (ds++[z])),.no]) e1 ha
   ~(wZ hZ).trans ((kE (jC hC A6)).trans (hX ((rP (κ:=κ) hz).2 h)))
A9 KD{f1 f2 f3:FE}{e:DE}{a b c:Int}(h1:f1 e=some (.int a))(h2:f2 e=some (.int b))(h3:f3 e=some (.int c)):FN Oz Oz f1 f2 f3 e=some (.bl (decide (a≤b)&&decide (b≤c))):=by
 A8 FN
 rw[Hj h1 h2 h3]
 rfl
A9 bj{s:List (List (List Int))}(h0:1≤s.length)(h1:s.length≤5002):mV [aZ s]=some (.bl (Bc s)):=by
 suffices hh:∃d,mV [aZ s]=some d∧d=.bl (Bc s) by
  A7⟨d,h1,rfl⟩:=hh
  ~h1
 &lE rfl ?_
 A8 Qj Bc
 have e0:s[0]?=some (s.getD 0 []):=zY h0
 have xq:=Ax e0
 generalize s.getD 0 []=q0 at *
 &oY ((PJ (dR (b:=true) (bU (jZ (t := "list") rfl rfl A5)))).trans (dR (Hj (a:=1) (b:=s.length) (c:=8) rfl (fY (aC rfl rfl) (wN s)) rfl))) (fun hb=>?_) (fun hb=>jE ?_)
 ·&pG rfl ⟨_,rfl,?_⟩
  rw[decide_eq_true (show (1:Int)≤s.length by omega),G0,K7]at hb
  rw[decide_eq_false (show ¬s.length≤8 by have:=of_decide_eq_false hb;omega),U5]
 rw[decide_eq_true (show (1:Int)≤s.length by omega),G0,M9]at hb
 rw[decide_eq_true (show s.length≤8 by have:=of_decide_eq_true hb;omega),G0]
 have hc1:cV (eQ (aF 0)) [] dW (mF "list" (aF 0)) (rE [.fro (aZ s)])=some (.lst (s.map fun q=>D.bl ((fun _=>true) q))):=
  jW (xs:=s) (ψ:=fZ) (φ:=fun _=>D.bl true) (dY rfl) A3 fun q _=>jZ (t := "list") rfl rfl A5
 &lA (dR (bU (fY (aC hc1 rfl) (Aa (fun _=>true) s)))) (by simp) (jE ?_)
 have hc2:cV (eQ (aF 0)) [0] dW (f2 vN (fL cO (aB (aF 0) aG)) (fL cO (aB (f2 sH (aF 1) (fC (.int 0))) aG))) (rE [.fro (aZ s)])=some (.lst (s.map fun q=>D.bl ((fun q=>decide (q.length=q0.length)) q))):=by
  &jW (xs:=s) (ψ:=fZ) (φ:=fun q=>D.bl (decide (q.length=q0.length))) (dY rfl) A3 fun q hq=>?_
  &(aO (fY (aC rfl rfl) (qY q)) (fY (aC (aO rfl rfl xq) rfl) (qY _)) (yD _ _)).trans ?_
  congr 2
  rw[decide_eq_decide]
  omega
 &qO (Ju (KD (a:=2) (c:=9) rfl (fY (aC (aO rfl rfl xq) rfl) (qY _)) rfl) (fY (aC hc2 rfl) (Aa _ s))) ⟨_,rfl,?_⟩
 congr 3
 ·rw[decide_eq_decide];omega
 ·rw[decide_eq_decide];omega
A9 Qz{κ:Nat→Addr}{l:List Nat}(hl:l.length≤5000):(Ht l=true→lY [.str (sS l)]=some (aZ (pK l))∧cA κ [.str (sS l)]=none)∧(Ht l=false→cA κ [.str (sS l)]=some 0):=by
 have hsl:=mZ (c:=59) hl
 have hsp:=Hs 59 l
 have hlt:(pK l).length=(iK 59 l).length:=B3 _
 have hsh:∀x∈iK 59 l,x.length≤5000:=fun x hx=>F0 (fO hx) hl
 have hg:=bj (s:=pK l) A3 A3
 have Bd:fQ (fB (mF "str" (aF 0))) (rE [.fro (.str (sS l)),.no])=some false:=dR (b:=true) (bU (jZ (t := "str") rfl rfl A5))
 have hC:(iK 59 l).all Bb=true→cV (eQ (f2 dJ (aF 0) (fC (.str (sS [59]))))) [] dW (bA 1 fK (aB (aF 0) aG)) (rE [.fro (.str (sS l)),.no])=some (aZ (pK l)):=fun ha=>by
  have hc:=jW (fi:=eQ (f2 dJ (aF 0) (fC (.str (sS [59]))))) (fr:=[]) (fe:=bA 1 fK (aB (aF 0) aG)) (e:=rE [.fro (.str (sS l)),.no]) (xs:=iK 59 l) (ψ:=fun x=>D.str (sS x)) (φ:=fun x=>fZ (Kv x)) (dY (aO rfl rfl (qZ hl))) A3 fun x hx=>aX (aC rfl rfl) rfl ((Hu (κ:=κ) (hsh x hx)).1 (D9.mp ha x hx)).1
  rw[hc]
  A8 aZ pK
  rw[M8]
  rfl
 have hZ:qL (eQ (f2 dJ (aF 0) (fC (.str (sS [59]))))) [] (bA 1 fK (aB (aF 0) aG)) (nF (jQ κ) (aB (aF 0) aG)) [.fro (.str (sS l)),.no]=if(iK 59 l).all Bb=true then none else some 0:=
  Az (ψ:=fun x=>D.str (sS x)) (φ:=fun x=>fZ (Kv x)) Bb (dY (aO rfl rfl (qZ hl))) A3 (fun x hx q=>⟨aX (aC rfl rfl) rfl ((Hu (κ:=κ) (hsh x hx)).1 q).1,((Hu (κ:=κ) (hsh x hx)).1 q).2⟩) fun x hx q=>(Hu (κ:=κ) (hsh x hx)).2 q
 have eR:cA κ [.str (sS l)]=jR κ [.fro (.str (sS l)),.no]:=Hr rfl
 have hT:fQ (fB (bA 1 mV (aB (aF 1) aG))) (rE [.fro (.str (sS l)),.own (aZ (pK l))])=some (!Bc (pK l)):=dR (bU (aX (aC rfl rfl) rfl hg))
 constructor
 ·intro h
  A8 Ht at h
  rw[B4]at h
  have hC:=hC h.1
  rw[if_pos h.1]at hZ
  rw[h.2]at hT
  constructor
  ·&lW rfl ?_
   A8 Af
   rw[Yi]
   &zW Bd rfl (Jt (nG hC A6 (zW hT rfl (Jt ?_))))
   ~Ea rfl
  ·rw[eR]
   A8 jR
   rw[Yi]
   ~(wZ (Qw Bd)).trans ((kE (nY Bd)).trans ((wZ hZ).trans ((kE (jC hC A6)).trans (Qw hT))))
 ·intro h
  rw[eR]
  A8 jR
  rw[Yi]
  &(wZ (Qw Bd)).trans ((kE (nY Bd)).trans ?_)
  cases ha:(iK 59 l).all Bb with
  | false=>
   rw[if_neg (by rw[ha];~B8)]at hZ
   ~Qv hZ
  | true=>
   A8 Ht at h
   rw[ha,G0]at h
   rw[if_pos ha]at hZ
   rw[h]at hT
   ~(wZ hZ).trans ((kE (jC (hC ha) A6)).trans ((Ye hT).trans rfl))
A9 Ek{κ:Nat→Addr}{d:D}{t:String}(h:xf d=some t)(hs:Ti t "str" = false):cA κ [d]=some 0:=by
 have Bd:fQ (fB (mF "str" (aF 0))) (rE [.fro d,.no])=some true:=by
  &dR (b:=false) (bU ?_)
  rw[←hs]
  ~jZ rfl h A5
 have eR:cA κ [d]=jR κ [.fro d,.no]:=Hr rfl
 rw[eR]
 A8 jR
 ~Qv ((Ye Bd).trans rfl)
def Km(r:List Nat):Bool:=(iK 32 r).all fun w=>(iK 44 w).all Qx
def xN(l:List Nat):Nat:=((pK l).getD 0 []).length
def lens(q:List (List Int)):List Int:=q.map fun t=>(t.length:Int)
def want(n:Nat):List Int:=B9 (n-1) 5++[1]
def sV(l:List Nat):Bool:=(iK 59 l).all Km&&(decide ((pK l).length≤8)&&((decide (2≤xN l)&&decide (xN l≤9))&&(pK l).all fun q=>decide (lens q=want (xN l))))
A9 Yj{α:Type}{a b:List α}{x y:α}:a++[x]=b++[y]↔a=b∧x=y:=by
 constructor
 ·intro h
  A7⟨h1,h2⟩:=List.append_inj' h rfl
  ~⟨h1,List.singleton_inj.mp h2⟩
 ·rintro⟨rfl,rfl⟩
  rfl
A9 Yk(r:List Nat):Bb r=(Km r&&decide (lens (Kv r)=want (Kv r).length)):=by
 have hpl:=PQ (l:=r)
 A8 Bb Km Kv lens want
 generalize hws:iK 32 r=ws at *
 generalize ws.dropLast=ds at *
 generalize ws.getLastD []=z at *
 subst hpl
 have hlen:∀w,((Bg w).length:Int)=((iK 44 w).length:Int):=fun w=>by A8 Bg;rw[B3]
 rw[M8,B3,G5,List.map_singleton,C6,D8,Nat.add_sub_cancel,F7,B4,B4,decide_eq_true_iff,R5,B4,Yj,List.eq_replicate_iff]
 show _↔_∧(_∧∀b∈_,b=5)∧((Bg z).length:Int)=1
 rw[hlen z]
 A8 Ba
 constructor
 ·rintro⟨h1,h2⟩
  rw[B4]at h2
  &⟨⟨D9.mpr fun w hw=>?_,?_⟩,⟨B3 _,fun b hb=>?_⟩,?_⟩
  ·have:=D9.mp h1 w hw
   rw[B4]at this
   ~this.1
  ·rw[K3,h2.1];rfl
  ·A7⟨w,hw,rfl⟩:=M7.mp hb
   have:=D9.mp h1 w hw
   rw[B4]at this
   have:=beq_iff_eq.mp this.2
   show ((Bg w).length:Int)=5
   rw[hlen w]
   omega
  ·have:=beq_iff_eq.mp h2.2
   omega
 ·rintro⟨⟨h1,h2⟩,⟨_,h3⟩,h4⟩
  &⟨D9.mpr fun w hw=>?_,?_⟩
  ·rw[B4]
   &⟨D9.mp h1 w hw,beq_iff_eq.mpr ?_⟩
   have:=h3 _ (M7.mpr ⟨w,hw,rfl⟩)
   have:((Bg w).length:Int)=5:=this
   rw[hlen w]at this
   omega
  ·rw[B4]
   rw[K3,List.all_nil,Y8]at h2
   ~⟨h2,beq_iff_eq.mpr A3⟩
A9 Ko{q:List (List Int)}{n:Nat}(h:lens q=want n):q.length=n-1+1:=by
 have:=congrArg W9 h
 A8 lens want at this
 rw[B3,C6,K2,D8]at this
 ~this
A9 bu(l:List Nat):sV l=Ht l:=by
 A8 sV Ht Bc
 show _=((iK 59 l).all Bb&&(decide ((pK l).length≤8)&&((decide (2≤xN l)&&decide (xN l≤9))&&(pK l).all fun q=>decide (q.length=xN l))))
 have hm:∀r∈iK 59 l,Kv r∈pK l:=fun r hr=>M7.mpr ⟨r,hr,rfl⟩
 generalize xN l=n
 rw[F7]
 simp only[B4,D9,decide_eq_true_eq]
 constructor
 ·rintro⟨h1,h2,⟨h3,h4⟩,h5⟩
  &⟨fun r hr=>?_,h2,⟨h3,h4⟩,fun q hq=>?_⟩
  ·have hl:=h5 _ (hm r hr)
   have:=Ko hl
   rw[Yk,B4,decide_eq_true_iff]
   ~⟨h1 r hr,by rw[hl];congr 1;omega⟩
  ·have:=Ko (h5 q hq)
   omega
 ·rintro⟨h1,h2,⟨h3,h4⟩,h5⟩
  &⟨fun r hr=>?_,h2,⟨h3,h4⟩,fun q hq=>?_⟩
  ·have:=h1 r hr
   rw[Yk,B4]at this
   ~this.1
  ·A7⟨r,hr,rfl⟩:=M7.mp hq
   have:=h1 r hr
   rw[Yk,B4,decide_eq_true_iff]at this
   rw[this.2,h5 _ hq]
def nD(x:List Nat):D:=if Qx x=true then .int (nV x)else .non
A9 bw{ws:List (List Nat)}(h:ws.all Qx=true):ws.map nD=(ws.map nV).map D.int:=by
 rw[M8]
 &R8 fun x hx=>?_
 A8 nD
 rw[if_pos (D9.mp h x hx)]
 rfl
A9 cg(ws:List (List Nat)):kj false .non (.lst (ws.map nD))=some (.bl (!ws.all Qx)):=by
 have h:∃xs,Iw (ws.map nD)=some xs∧xs.all pN=true∧inV .non xs=!ws.all Qx:=by
  induction ws with
  | nil=>~⟨[],by rw[J7];A8 Iw;rfl,rfl,rfl⟩
  | cons w ws ih=>
   A7⟨xs,h1,h2,h3⟩:=ih
   rw[D7,K3]
   A8 Iw
   cases q:Qx w with
   | true=>
    have e:toV (nD w)=some (.int (nV w)):=by A8 nD;rw[if_pos q];rfl
    &⟨.int (nV w)::xs,by rw[e,C8,h1];rfl,by rw[K3,h2];rfl,?_⟩
    A8 inV at h3 ⊢
    rw[Q1,h3,G0]
    rfl
   | false=>
    have e:toV (nD w)=some .non:=by A8 nD;rw[if_neg (by rw[q];~B8)];rfl
    &⟨.non::xs,by rw[e,C8,h1];rfl,by rw[K3,h2];rfl,?_⟩
    A8 inV
    rw[Q1]
    rfl
 A7⟨xs,h1,h2,h3⟩:=h
 A8 kj
 show (some V.non).bind _=_
 rw[C8]
 show (some (ws.map nD)).bind _=_
 rw[C8,h1,C8,if_pos ⟨rfl,h2⟩,h3]
 rfl
A9 Yl{i j:Nat}{env:EN}{ds:List D}{d:D}(h1:env[i]?=some (.own (.lst ds)))(h2:env[j]?=some (.own d))(hn:i≠j)(hl:ds.length<100000):Dt i j env=.next ((env.set j .no).set i (.own (.lst (ds++[d])))):=by
 A8 Dt
 rw[h1,h2]
 dsimp only
 rw[if_pos ⟨hn,hl⟩]
A9 Ra{j:Nat}{c:FT}{f:FE}{env:EN}{α:Type}{ψ:α→D}{b:α→Bool}{d:D}:∀{xs:List α},(∀x∈xs,c (rE (env.set j (.fro (ψ x))))=some (!b x))→(∀x∈xs,f (rE (env.set j (.fro (ψ x))))=some d)→zP j c f env (xs.map ψ)=if xs.all b=true then some none else some (some d)
 | [],_,_=>by rw[J7];A8 zP;rfl
 | x::xs,h1,h2=>by
  have ih:=Ra (xs:=xs) (fun y hy=>h1 y (C5 _ hy)) fun y hy=>h2 y (C5 _ hy)
  rw[D7,K3]
  A8 zP
  rw[h1 x D1]
  cases q:b x with
  | true=>
   show zP j c f env (xs.map ψ)=_
   rw[ih,G0]
  | false=>
   show (f _).map some=_
   rw[h2 x D1]
   rfl
A9 Rb(n:Nat)(h:n≤1000):Bw (.lst [.int 5]) (.int (n:Int))=some (aW (B9 n 5)):=by
 A8 Bw
 dsimp only
 rw[if_pos ⟨rfl,by omega,by omega,by decide⟩,N0,List.flatten_replicate_singleton]
 A8 aW
 rw[S3]
A9 aAq{Pr:SR→Prop}{g1 g:GS}{env:EN}{d:D}(h:g1 env=.ret d)(k:Pr (.ret d)):Qs Pr (aQ g1 g env):=by
 rw[qM h]
 ~k
A9 PX{l:List Nat}(hl:l.length≤5000):rK [.str (sS l)]=some (if sV l=true then aZ (pK l)else .non):=by
 suffices hh:∃d,rK [.str (sS l)]=some d∧d=if sV l=true then aZ (pK l)else .non by
  A7⟨d,h1,rfl⟩:=hh
  ~h1
 have hsl:=mZ (c:=59) hl
 have hsp:=Hs 59 l
 have no:(iK 59 l).all Km=false→D.non=if sV l=true then aZ (pK l)else .non:=fun h=>by
  A8 sV
  rw[h,U5,if_neg B8]
 &lE rfl ?_
 A8 Qk
 rw[Yi,Yh,Yg]
 &cI (d:=aZ []) (bQ rfl A5) A6 ?_
 &Aw (xs:=(iK 59 l).map fun x=>D.str (sS x)) (fun n env=>∃v2 v3 v4 v5 v6,env=[.fro (.str (sS l)),.own (aZ (((iK 59 l).take n).map Kv)),v2,v3,v4,v5,v6]∧((iK 59 l).take n).all Km=true) rfl (dY (aO rfl rfl (qZ hl))) ⟨_,_,_,_,_,rfl,rfl⟩ ?_ ?_
 ·rintro k x env hx ⟨v2,v3,v4,v5,v6,rfl,hall⟩
  &⟨by walk_at "lt", ?_⟩
  rw[D5]at hx
  A7⟨r,hr,rfl⟩:=iZ hx
  have hrl:r.length≤5000:=F0 (fO (J0 hr)) hl
  have hk:=(C4.mp hr).1
  have hrs:=mZ (c:=32) hrl
  have bad:Km r=false→D.non=if sV l=true then aZ (pK l)else .non:=fun h=>no (by
   rw[W8]
   ~⟨r,J0 hr,by rw[h];~B8⟩)
  &cI (d:=fZ []) (bQ rfl A5) A6 ?_
  &Aw (xs:=(iK 32 r).map fun x=>D.str (sS x)) (fun n env=>∃v4 v5,env=[.fro (.str (sS l)),.own (aZ (((iK 59 l).take k).map Kv)),.fro (.str (sS r)),.own (fZ (((iK 32 r).take n).map Bg)),v4,v5,v6]∧((iK 32 r).take n).all (fun w=>(iK 44 w).all Qx)=true) rfl (dY (aO rfl rfl (qZ hrl))) ⟨_,_,rfl,rfl⟩ ?_ ?_
  ·rintro m y env hy ⟨v4,v5,rfl,hall2⟩
   &⟨by walk_at "lt", ?_⟩
   rw[D5]at hy
   A7⟨w,hw,rfl⟩:=iZ hy
   have hwl:w.length≤5000:=F0 (fO (J0 hw)) hrl
   have hm:=(C4.mp hw).1
   have hws:=mZ (c:=44) hwl
   &cI (d:=.lst ((iK 44 w).map nD)) (jW (xs:=iK 44 w) (ψ:=fun x=>D.str (sS x)) (φ:=nD) (dY (aO rfl rfl (qZ hwl))) A3 fun x hx=>aX (aC rfl rfl) rfl (JX (F0 (fO hx) hwl))) A6 ?_
   &oY (bU (aO rfl rfl (cg (iK 44 w)))) (fun hb=>?_) (fun hb=>jE ?_)
   ·rw[K7]at hb
    &pG rfl (.inr ⟨_,rfl,.inr ⟨_,rfl,⟨_,rfl,bad ?_⟩⟩⟩)
    A8 Km
    rw[W8]
    ~⟨w,J0 hw,by rw[hb];~B8⟩
   ·rw[M9]at hb
    rw[bw hb]
    have ht:(iK 32 r).take (m+1)=(iK 32 r).take m++[w]:=by rw[S9,hw];rfl
    &Gu (ds:=(((iK 32 r).take m).map Bg).map dTup) (d:=dTup (Bg w)) rfl (fY (aC rfl rfl) (wW ((iK 44 w).map nV))) (by rw[B3,B3,J9];omega) (.inl ⟨_,rfl,.fro (.str (sS w)),.own (.lst (((iK 44 w).map nV).map D.int)),?_,?_⟩)
    ·rw[ht,G5]
     A8 fZ
     rw[G5]
     rfl
    ·rw[ht,R5,hall2,K3,hb]
     rfl
  ·rintro env ⟨v4,v5,rfl,hall2⟩
   rw[B3,N2]at hall2
   rw[B3,N2]
   have ht:(iK 59 l).take (k+1)=(iK 59 l).take k++[r]:=by rw[S9,hr];rfl
   have hg:=Yl (i:=1) (j:=3) (env:=[.fro (.str (sS l)),.own (aZ (((iK 59 l).take k).map Kv)),.fro (.str (sS r)),.own (fZ ((iK 32 r).map Bg)),v4,v5,v6]) (ds:=(((iK 59 l).take k).map Kv).map fZ) (d:=fZ (Kv r)) rfl rfl A5 (by rw[B3,B3,J9];omega)
   A8 Qs
   rw[hg]
   &.inl ⟨_,rfl,.fro (.str (sS r)),.no,v4,v5,v6,?_,?_⟩
   ·rw[ht,G5]
    A8 aZ
    rw[G5]
    rfl
   ·rw[ht,R5,hall,K3,show Km r=true from hall2]
    rfl
 rintro env ⟨v2,v3,v4,v5,v6,rfl,hall⟩
 rw[B3,N2]at hall
 rw[B3,N2]
 have est:(iK 59 l).map Kv=pK l:=rfl
 rw[est]
 have hlt:(pK l).length=(iK 59 l).length:=B3 _
 have e0:(pK l)[0]?=some ((pK l).getD 0 []):=zY A3
 have xq:=Ax e0
 &cI (d:=.int (xN l)) (fY (aC (aO rfl rfl xq) rfl) (qY _)) A6 ?_
 have aAr:sV l=(decide ((pK l).length≤8)&&((decide (2≤xN l)&&decide (xN l≤9))&&(pK l).all fun q=>decide (lens q=want (xN l)))):=by
  A8 sV
  rw[hall,G0]
 rw[aAr]
 generalize xN l=n at *
 &oY (tK (bU (aO (fY (aC rfl rfl) (wN _)) rfl (yC _ _))) (tK (bU (aO rfl rfl (mR _ _))) (bU (aO rfl rfl (yC _ _))))) (fun hb=>?_) (fun hb=>jE ?_)
 ·&pG rfl ⟨_,rfl,?_⟩
  rw[if_neg]
  intro z
  rw[B4,B4,B4]at z
  have z1:=of_decide_eq_true z.1
  have z2:=of_decide_eq_true z.2.1.1
  have z3:=of_decide_eq_true z.2.1.2
  rw[R3,R3]at hb
  rcases hb with q | q | q
  ·have:=of_decide_eq_true q;omega
  ·have:=of_decide_eq_true q;omega
  ·have:=of_decide_eq_true q;omega
 rw[R4,R4]at hb
 have b1:(pK l).length≤8:=by have:=of_decide_eq_false hb.1;omega
 have b2:2≤n:=by have:=of_decide_eq_false hb.2.1;omega
 have b3:n≤9:=by have:=of_decide_eq_false hb.2.2;omega
 rw[decide_eq_true b1,decide_eq_true b2,decide_eq_true b3,G0,G0,G0]
 have hpl:∀q∈pK l,q.length≤5002:=fun q hq=>by
  A7⟨r,hr,rfl⟩:=M7.mp hq
  A8 Kv
  rw[B3]
  ~mZ (F0 (fO hr) hl)
 have hq:=Ra (j:=3) (c:=fB (f2 yZ (cV (eQ (aF 3)) [] dW (fL cO (aB (aF 0) aG))) (f2 cX (f2 Bw (eG (aB (fC (.int 5)) aG)) (f2 Bp (aF 6) (fC (.int 1)))) (eG (aB (fC (.int 1)) aG))))) (f:=fC .non) (env:=[.fro (.str (sS l)),.own (aZ (pK l)),v2,v3,v4,v5,.own (.int n)]) (ψ:=fZ) (b:=fun q=>decide (lens q=want n)) (d:=.non) (xs:=pK l) (fun q hq=>by
  have hc:=jW (fi:=eQ (aF 3)) (fr:=[]) (fe:=fL cO (aB (aF 0) aG)) (e:=rE [.fro (.str (sS l)),.own (aZ (pK l)),v2,.fro (fZ q),v4,v5,.own (.int n)]) (xs:=q) (ψ:=dTup) (φ:=fun t=>D.int (t.length:Int)) (dY rfl) (by have:=hpl q hq;omega) fun t _=>fY (aC rfl rfl) (by A8 dTup;rw[qN,B3])
  &bU (aO (a:=aW (lens q)) (b:=aW (want n)) (hc.trans ?_) ?_ (Xm _ _))
  ·A8 aW lens
   rw[M8]
   rfl
  ·have e1:((n:Int)-1)=((n-1:Nat):Int):=by omega
   ~aO (a:=aW (B9 (n-1) 5)) (b:=aW [1]) (aO (bQ (aC rfl rfl) A5) (aO rfl rfl (vA _ _)) (by rw[e1];~Rb _ A3)) (bQ (aC rfl rfl) A5) (zZ _ _ (by rw[K2,D8];omega))) fun q hq=>rfl
 have hF:Dw 1 3 (fB (f2 yZ (cV (eQ (aF 3)) [] dW (fL cO (aB (aF 0) aG))) (f2 cX (f2 Bw (eG (aB (fC (.int 5)) aG)) (f2 Bp (aF 6) (fC (.int 1)))) (eG (aB (fC (.int 1)) aG))))) (fC .non) [.fro (.str (sS l)),.own (aZ (pK l)),v2,v3,v4,v5,.own (.int n)]=if((pK l).all fun q=>decide (lens q=want n))=true then .next [.fro (.str (sS l)),.own (aZ (pK l)),v2,.no,v4,v5,.own (.int n)]else .ret .non:=by
  A8 Dw
  show (if 3<7∧1≠3 then(match zP _ _ _ _ ((pK l).map fZ)with | some (some d)=>SR.ret d | some none=>.next _ | none=>.bad)else .bad)=_
  rw[if_pos A5,hq]
  by_cases z:((pK l).all fun q=>decide (lens q=want n))=true
  ·rw[if_pos z,if_pos z]
   rfl
  ·rw[if_neg z,if_neg z]
 by_cases c:((pK l).all fun q=>decide (lens q=want n))=true
 ·rw[if_pos c]at hF ⊢
  ~JH hF (wA rfl ⟨_,rfl,rfl⟩)
 ·rw[if_neg c]at hF ⊢
  ~aAq hF ⟨_,rfl,rfl⟩
A9 Ym{n:Nat}{l:List (List Nat)}(h:∀x∈l,x.length≤n):wt l≤l.length*(n+1):=by
 have:=Xz (f:=fun x:List Nat=>x) (l:=l) h
 rw[List.map_id']at this
 ~this
A9 cj{x:Int}(h0:-31<x)(h1:x<1000):Pn [.int x]=some (.str (sS (txt x)))∧(txt x).length≤3:=by
 constructor
 ·show (if x.natAbs.log2<1920 then some (D.str (Jk x))else none)=_
  have hl2:x.natAbs.log2<1920:=by
   by_cases c:x.natAbs=0
   ·rw[c];decide
   ·rw[Nat.log2_lt c]
    ~Nat.lt_trans (show x.natAbs<1024 by omega) (show 2 ^ 10<2 ^ 1920 from Nat.pow_lt_pow_right A5 A5)
  rw[if_pos hl2,JS]
 ·A8 txt
  split
  ·A7⟨_,d2⟩:=Qn x.natAbs 2 A5 A3
   rw[G8]
   omega
  ·~(Qn x.natAbs 3 A5 A3).2
A9 Be(l:List (List Nat))(x:List Nat):D.lst ((l.map fun x=>D.str (sS x))++[.str (sS x)])=dG (l++[x]):=by
 A8 dG
 rw[G5]
 rfl
A9 cu{ns:List Int}{shape:List (List Int)}(hl:ns.length≤63)(h9:shape.length≤9)(hq:∀q∈shape,q.length≤11∧∀x∈q,0≤x∧x≤6):∃T:List Nat,qP [aW ns,.lst (shape.map aW)]=some (.str (sS T))∧T.length≤4000:=by
  suffices hh:∃d,qP [aW ns,.lst (shape.map aW)]=some d∧∃T:List Nat,d=.str (sS T)∧T.length≤4000 by
    A7⟨d,h1,T,rfl,h2⟩:=hh
    ~⟨T,h1,h2⟩
  &lE rfl ?_
  A8 Jz
  rw[Yi,Yh,Yg]
  &cI (d:=dG []) (bQ rfl A5) A6 (cI rfl A6 ?_)
  &Xl (xs:=shape.map aW) (fun n env=>∃(ps:List (List Nat))(a:Int)(v4 v5 v6 v7 v8 v9:SD),env=[.fro (aW ns),.fro (.lst (shape.map aW)),.own (dG ps),.own (.int a),v4,v5,v6,v7,v8,v9]∧ps.length=n∧(∀x∈ps,x.length≤275)∧10≤a∧a≤10+66*(n:Int)) rfl (dY rfl) ⟨[],10,_,_,_,_,_,_,rfl,rfl,fun x hx=>(by cases hx),by decide,by decide⟩ ?_ ?_
  · rintro n x env hx ⟨ps,a,v4,v5,v6,v7,v8,v9,rfl,hpl,hps,a0,a1⟩
    &⟨by walk_at "lt", ?_⟩
    rw[D5]at hx
    A7⟨q,hqn,rfl⟩:=iZ hx
    have hn:=(C4.mp hqn).1
    A7⟨q11,qx⟩:=hq q (J0 hqn)
    &cI (d:=dG []) (bQ rfl A5) A6 ?_
    &Xl (xs:=q.map D.int) (fun m env=>∃(ws:List (List Nat))(a:Int)(v6 v7 v8 v9:SD),env=[.fro (aW ns),.fro (.lst (shape.map aW)),.own (dG ps),.own (.int a),.fro (aW q),.own (dG ws),v6,v7,v8,v9]∧ws.length=m∧(∀x∈ws,x.length≤24)∧10≤a∧a≤10+66*(n:Int)+6*(m:Int)) rfl (dY rfl) ⟨[],a,_,_,_,_,rfl,rfl,fun x hx=>(by cases hx),a0,by omega⟩ ?_ ?_
    · rintro m y env hy ⟨ws,a,v6,v7,v8,v9,rfl,hwl,hws,a0,a1⟩
      &⟨by walk_at "lt", ?_⟩
      rw[D5]at hy
      A7⟨c0,hc,rfl⟩:=iZ hy
      have hm:=(C4.mp hc).1
      A7⟨c00,c06⟩:=qx c0 (J0 hc)
      A7⟨c,rfl⟩:∃c:Nat,c0=(c:Int):=⟨c0.toNat,by omega⟩
      &cI (d:=dG []) (bQ rfl A5) A6 ?_
      &Qh (n:=c) (fun j env=>∃(ls:List (List Nat))(a:Int)(v8 v9:SD),env=[.fro (aW ns),.fro (.lst (shape.map aW)),.own (dG ps),.own (.int a),.fro (aW q),.own (dG ws),.fro (.int c),.own (dG ls),v8,v9]∧ls.length=j∧(∀x∈ls,x.length≤3)∧10≤a∧a≤10+66*(n:Int)+6*(m:Int)+(j:Int)) (yF (aC rfl rfl) A3) ⟨[],a,_,_,rfl,rfl,fun x hx=>(by cases hx),a0,by omega⟩ ?_ ?_
      · rintro j env hj ⟨ls,a,v8,v9,rfl,hll,hls,a0,a1⟩
        &⟨by walk_at "lt", ?_⟩
        have hd:=rN (k:=a) hl A3 A3
        A7⟨b0,b1⟩:=vG ns a
        generalize qW ns a=r at *
        &cI (aX (aC rfl (aC rfl rfl)) rfl hd) A6 ?_
        &cI (aO rfl rfl (fG _ _)) A6 ?_
        A7⟨x,hx,x0,x1⟩:∃x,sH (.lst [.int (r/4%2),.int (r/4%20),.int (r/4%1000),.int (-1-r/4%30)]) (.int (r%4))=some (.int x)∧-31<x∧x<1000:=by
          have m2:=F9 (r/4) (by decide:(2:Int)≠0)
          have m2':=F3 (r/4) (by decide:(0:Int)<2)
          have m20:=F9 (r/4) (by decide:(20:Int)≠0)
          have aBx:=F3 (r/4) (by decide:(0:Int)<20)
          have mk:=F9 (r/4) (by decide:(1000:Int)≠0)
          have mk':=F3 (r/4) (by decide:(0:Int)<1000)
          have m30:=F9 (r/4) (by decide:(30:Int)≠0)
          have aBy:=F3 (r/4) (by decide:(0:Int)<30)
          have e:r%4=0∨r%4=1∨r%4=2∨r%4=3:=by omega
          rcases e with e | e | e | e
          · rw[e];~⟨_,jY A5 rfl,by omega,by omega⟩
          · rw[e];~⟨_,jY A5 rfl,by omega,by omega⟩
          · rw[e];~⟨_,jY A5 rfl,by omega,by omega⟩
          · rw[e];~⟨_,jY A5 rfl,by omega,by omega⟩
        A7⟨hs,hs3⟩:=cj x0 x1
        &Gu (ds:=ls.map fun x=>D.str (sS x)) (d:=.str (sS (txt x))) rfl (fY (aC (aO (bQ (aC (aO (aO rfl rfl (dX A5 A5)) rfl (bN A5)) (aC (aO (aO rfl rfl (dX A5 A5)) rfl (bN A5)) (aC (aO (aO rfl rfl (dX A5 A5)) rfl (bN A5)) (aC (aO (oX rfl) (aO (aO rfl rfl (dX A5 A5)) rfl (bN A5)) (vA _ _)) rfl)))) (by show 4≤_;decide)) (aO rfl rfl (bN A5)) hx) rfl) hs) (by rw[B3];omega) ⟨_,rfl,ls++[txt x],a+1,.fro (.int j),.own (.int r),?_,by rw[C6,hll];rfl,fun y hy=>?_,by omega,by omega⟩
        · rw[Be]
          rfl
        · rcases L8.mp hy with z | z
          · ~hls y z
          · rw[F6.mp z];~hs3
      · rintro env ⟨ls,a,v8,v9,rfl,hll,hls,a0,a1⟩
        have hw:=Ym hls
        rw[hll]at hw
        have hw6:c*4≤6*4:=V2 A3 (D2 _)
        have hjl:=Hq 44 ls
        &Gu (ds:=ws.map fun x=>D.str (sS x)) (d:=.str (sS (jn 44 ls))) rfl (aO rfl rfl (Ay A3)) (by rw[B3];omega) ⟨_,rfl,ws++[jn 44 ls],a,.fro (.int c),.own (dG ls),v8,v9,?_,by rw[C6,hwl];rfl,fun y hy=>?_,a0,by omega⟩
        · rw[Be]
          rfl
        · rcases L8.mp hy with z | z
          · ~hws y z
          · rw[F6.mp z];omega
    · rintro env ⟨ws,a,v6,v7,v8,v9,rfl,hwl,hws,a0,a1⟩
      rw[B3]at hwl a1
      have hw:=Ym hws
      rw[hwl]at hw
      have hw6:q.length*25≤11*25:=V2 q11 (D2 _)
      have hjl:=Hq 32 ws
      &Gu (ds:=ps.map fun x=>D.str (sS x)) (d:=.str (sS (jn 32 ws))) rfl (aO rfl rfl (Ay A3)) (by rw[B3];omega) ⟨_,rfl,ps++[jn 32 ws],a,.fro (aW q),.own (dG ws),v6,v7,v8,v9,?_,by rw[C6,hpl];rfl,fun y hy=>?_,a0,by omega⟩
      · rw[Be]
        rfl
      · rcases L8.mp hy with z | z
        · ~hps y z
        · rw[F6.mp z];omega
  · rintro env ⟨ps,a,v4,v5,v6,v7,v8,v9,rfl,hpl,hps,a0,a1⟩
    rw[B3]at hpl
    have hw:=Ym hps
    rw[hpl]at hw
    have hw6:shape.length*276≤9*276:=V2 h9 (D2 _)
    have hjl:=Hq 59 ps
    ~qO (aO rfl rfl (Ay A3)) ⟨_,rfl,_,rfl,by omega⟩
A9 aAs:(",; -07_+a\n" : Str)=sS [44,59,32,45,48,55,95,43,97,10]:=vH ",; -07_+a\n"
A9 Yn{ns:List Int}{T:List Nat}(hl:ns.length≤63)(hT:T.length≤4000):∃l:List Nat,lX [aW ns,.str (sS T)]=some (.str (sS l))∧l.length≤5000:=by
 suffices hh:∃d,lX [aW ns,.str (sS T)]=some d∧∃l:List Nat,d=.str (sS l)∧l.length≤5000 by
  A7⟨d,h1,l,rfl,h2⟩:=hh
  ~⟨l,h1,h2⟩
 have hd2:=rN (k:=2) hl A5 A5
 have hd3:=rN (k:=3) hl A5 A5
 A7⟨p0,p1⟩:=vG ns 2
 generalize qW ns 2=r at *
 generalize qW ns 3=r3 at *
 &lE rfl ?_
 A8 Ad
 rw[aAs]
 &cI (aX (aC rfl (aC rfl rfl)) rfl hd2) A6 ?_
 have cp:(0:Int)<(T.length:Int)+1:=by omega
 &cI (aO (aX (aC rfl (aC rfl rfl)) rfl hd3) (aO (fY (aC rfl rfl) (Av T A3)) rfl (fG _ _)) (bN cp)) A6 ?_
 have a0:=F9 r3 (show (T.length:Int)+1≠0 by omega)
 generalize r3%((T.length:Int)+1)=a at *
 have s0:=F9 (r/8) (by decide:(10:Int)≠0)
 have s1:=F3 (r/8) (by decide:(0:Int)<10)
 &cI (aO rfl (aO (aO rfl rfl (dX A5 A5)) rfl (bN A5)) (Hi s0 (zY (d:=0) (by show (r/8%10).toNat<10;omega)) A5)) A6 ?_
 generalize ([44,59,32,45,48,55,95,43,97,10]:List Nat).getD (r/8%10).toNat 0=c at *
 have c1:=Ho T none (some a)
 have c2:=Ho T (some a) none
 have c3:=Ho T (some (a+1)) none
 have k1:(iY T none (some a)).length≤a.toNat:=by
  A8 iY
  rw[rO _ _ a0,J9]
  show min (min a.toNat T.length-0) _≤_
  omega
 have k2:(iY T (some a) none).length≤T.length-a.toNat:=by
  A8 iY
  rw[rO _ _ a0,J9,M4]
  omega
 have k3:(iY T (some (a+1)) none).length≤T.length-a.toNat:=by
  A8 iY
  rw[rO _ _ A3,J9,M4]
  omega
 &oY (bU (aO (aO rfl rfl (bN A5)) rfl (mR _ _))) (fun hb=>?_) (fun hb=>jE ?_)
 ·rw[qM (Tq (i:=1) rfl rfl)]
  ~⟨_,rfl,T,rfl,by omega⟩
 &oY (bU (aO (aO rfl rfl (bN A5)) rfl (mR _ _))) (fun hb=>?_) (fun hb=>jE ?_)
 ·&pG (aO (aO (lM rfl rfl (fH rfl) (yI a0 A3)) rfl (qX _ [c] (by rw[D8];omega))) (lM rfl (fH rfl) rfl (oH a0 A3)) (qX _ _ (by rw[C6,D8];omega))) ⟨_,rfl,_,rfl,?_⟩
  rw[C6,C6,D8]
  omega
 &oY (bU (aO (aO rfl rfl (bN A5)) rfl (mR _ _))) (fun hb=>?_) (fun hb=>jE ?_)
 ·&pG (aO (aO (lM rfl rfl (fH rfl) (yI a0 A3)) rfl (qX _ [c] (by rw[D8];omega))) (lM rfl (fH (aO rfl rfl (fG _ _))) rfl (oH A3 A3)) (qX _ _ (by rw[C6,D8];omega))) ⟨_,rfl,_,rfl,?_⟩
  rw[C6,C6,D8]
  omega
 ·&qO (aO (lM rfl rfl (fH rfl) (yI a0 A3)) (lM rfl (fH (aO rfl rfl (fG _ _))) rfl (oH A3 A3)) (qX _ _ A3)) ⟨_,rfl,_,rfl,?_⟩
  rw[C6]
  omega
def cz(s:List (List Int)):Prop:=s.length≤9∧∀q∈s,q.length≤11∧∀x∈q,0≤x∧x≤6
A9 KH{n:Nat}(h0:1≤n):(want n).length=n∧∀x∈want n,0≤x∧x≤6:=by
 A8 want
 constructor
 ·rw[C6,K2,D8]
  omega
 ·intro x hx
  rcases L8.mp hx with z | z
  ·rw[T7 z];decide
  ·rw[F6.mp z];decide
A9 cz.set{s:List (List Int)}{k:Nat}{q:List Int}(h:cz s)(hl:q.length≤11)(hx:∀x∈q,0≤x∧x≤6):cz (s.set k q):=by
 &⟨by rw[O3];~h.1,fun p hp=>?_⟩
 rcases T1 hp with z | z
 ·~h.2 p z
 ·rw[z];~⟨hl,hx⟩
A9 KJ{ns:List Int}(hl:ns.length≤63):∃s:List (List Int),oE [aW ns]=some (.lst (s.map aW))∧cz s:=by
 suffices hh:∃d,oE [aW ns]=some d∧∃s:List (List Int),d=.lst (s.map aW)∧cz s by
  A7⟨d,h1,s,rfl,h2⟩:=hh
  ~⟨s,h1,h2⟩
 have hd0:=rN (k:=0) hl A5 A5
 have hd1:=rN (k:=1) hl A5 A5
 A7⟨r00,r01⟩:=vG ns 0
 A7⟨r10,r11⟩:=vG ns 1
 generalize qW ns 0=r0 at *
 generalize qW ns 1=r1 at *
 &lE rfl ?_
 A8 Ei
 have hp0:=F9 (r0/4) (by decide:(3:Int)≠0)
 have hp1:=F3 (r0/4) (by decide:(0:Int)<3)
 have hz0:=F9 (r0/64) (by decide:(3:Int)≠0)
 have hz1:=F3 (r0/64) (by decide:(0:Int)<3)
 have fin:∀(P n:Nat),1≤P→P≤9→1≤n→n≤10→Qs (fun r=>∃d,r=.ret d∧∃s:List (List Int),d=.lst (s.map aW)∧cz s) ((aQ (bD 4 (cV (nQ (aB (aF 2) aG)) [3] dW (f2 cX (f2 Bw (eG (aB (fC (.int 5)) aG)) (f2 Bp (aF 1) (fC (.int 1)))) (eG (aB (fC (.int 1)) aG)))))
 (aQ (bD 1 (bA 2 dZ (aB (aF 0) (aB (fC (.int 1)) aG))))
 (aQ (bD 5 (f2 eH (f2 mD (aF 1) (fC (.int 8))) (aF 2)))
 (aQ (jJ (fB (f2 vN (f2 eH (aF 1) (fC (.int 8))) (fC (.int 0)))) (Ms 4 (Uh rZ (aF 5)) (fC (.int 0)) (fC (.int 5))) bG)
 (aQ (jJ (fB (f2 vN (f2 eH (aF 1) (fC (.int 8))) (fC (.int 1)))) (zF 4 (Uh rZ (aF 5)) (fC (.int 0))) bG)
 (aQ (jJ (fB (f2 vN (f2 eH (aF 1) (fC (.int 8))) (fC (.int 2)))) (wR 4 (Uh rZ (aF 5)) (f2 eH (f2 mD (aF 1) (fC (.int 128))) (aF 3)) (f2 cX (fC (.int 1)) (f2 eH (f2 mD (aF 1) (fC (.int 2048))) (fC (.int 6))))) bG)
 (mL 4)))))))  [.fro (aW ns),.own (.int r0),.own (.int (P:Int)),.own (.int (n:Int)),.no,.no]):=by
  intro P n P1 P9 n1 n10
  have hc:=Nh (fi:=nQ (aB (aF 2) aG)) (fr:=[3]) (fe:=f2 cX (f2 Bw (eG (aB (fC (.int 5)) aG)) (f2 Bp (aF 1) (fC (.int 1)))) (eG (aB (fC (.int 1)) aG))) (e:=rE [.fro (aW ns),.own (.int r0),.own (.int (P:Int)),.own (.int (n:Int)),.no,.no]) (n:=P) (φ:=fun _=>aW (want n)) (yF (aC rfl rfl) A3) A3 fun k hk=>by
   have e1:((n:Int)-1)=((n-1:Nat):Int):=by omega
   ~aO (a:=aW (B9 (n-1) 5)) (b:=aW [1]) (aO (bQ (aC rfl rfl) A5) (aO rfl rfl (vA _ _)) (by rw[e1];~Rb _ A3)) (bQ (aC rfl rfl) A5) (zZ _ _ (by rw[K2,D8];omega))
  A7⟨wl,wx⟩:=KH n1
  have hS:cz (B9 P (want n)):=⟨by rw[K2];~P9,fun q hq=>by rw[T7 hq];~⟨by omega,wx⟩⟩
  &cI (d:=.lst ((B9 P (want n)).map aW)) (hc.trans (by rw[List.map_const',P5,S3])) A6 ?_
  &cI (aX (aC rfl (aC rfl rfl)) rfl hd1) A6 ?_
  &cI (aO (aO rfl rfl (dX A5 A5)) rfl (bN A3)) A6 ?_
  have at0:=F9 (r1/8) (show (P:Int)≠0 by omega)
  have at1:=F3 (r1/8) (show (0:Int)<(P:Int) by omega)
  generalize r1/8%(P:Int)=at_ at *
  have hg:((B9 P (want n)).map aW)[at_.toNat]?=some (aW (want n)):=by
   rw[S3,P0,if_pos A3]
  have Ob:∀q:List Int,((B9 P (want n)).map aW).set at_.toNat (aW q)=((B9 P (want n)).set at_.toNat q).map aW:=fun q=>by rw[W4]
  generalize B9 P (want n)=S at *
  have Bd:∀(j:Int) {env:EN},(rE env)[1]?=some (some (.int r1))→fB (f2 vN (f2 eH (aF 1) (fC (.int 8))) (fC (.int j))) (rE env)=some (decide (r1%8=j)):=fun j {env} e1=>bU (aO (aO (jD e1) rfl (bN A5)) rfl (yD _ _))
  have px:∀{env:EN},(rE env)[5]?=some (some (.int at_))→Uh rZ (aF 5) (rE env)=some [.ix at_.toNat]:=fun e5=>bh (p:=[]) rfl (jD e5) at0
  by_cases c0:r1%8=0
  ·&oY (Bd 0 rfl) (fun _=>?_) fun z=>absurd c0 (of_decide_eq_false z)
   &JH ((bf (p:=[.ix at_.toNat]) (ns:=want n) (k:=0) (y:=5) rfl (px rfl) (Nz hg) rfl rfl A5 A3 A3).trans (by rw[Oa hg,Ob])) ?_
   &lA (Bd 1 rfl) (decide_eq_false A3) (jE ?_)
   &lA (Bd 2 rfl) (decide_eq_false A3) (jE ?_)
   &wA rfl ⟨_,rfl,_,rfl,hS.set ?_ fun x hx=>?_⟩
   ·show (([]:List Int)++5::want n).length≤11
    rw[O4,G8]
    omega
   ·have hx:x∈([]:List Int)++5::want n:=hx
    rcases G2.mp hx with z | z
    ·rw[z];decide
    ·~wx x z
  &lA (Bd 0 rfl) (decide_eq_false c0) (jE ?_)
  by_cases c1:r1%8=1
  ·&oY (Bd 1 rfl) (fun _=>?_) fun z=>absurd c1 (of_decide_eq_false z)
   &JH ((JZ (p:=[.ix at_.toNat]) (ns:=want n) (k:=0) rfl (px rfl) (Nz hg) rfl A5 (by show 0<_;omega) A3).trans (by rw[Oa hg,Ob])) ?_
   &lA (Bd 2 rfl) (decide_eq_false A3) (jE ?_)
   &wA rfl ⟨_,rfl,_,rfl,hS.set ?_ fun x hx=>wx x (List.mem_of_mem_eraseIdx hx)⟩
   have:=List.length_eraseIdx_le (want n) (0:Int).toNat
   omega
  &lA (Bd 1 rfl) (decide_eq_false c1) (jE ?_)
  by_cases c2:r1%8=2
  ·&oY (Bd 2 rfl) (fun _=>?_) fun z=>absurd c2 (of_decide_eq_false z)
   have i0:=F9 (r1/128) (show (n:Int)≠0 by omega)
   have i1:=F3 (r1/128) (show (0:Int)<(n:Int) by omega)
   have v0:=F9 (r1/2048) (by decide:(6:Int)≠0)
   have v1:=F3 (r1/2048) (by decide:(0:Int)<6)
   have hk:wR 4 (Uh rZ (aF 5)) (f2 eH (f2 mD (aF 1) (fC (.int 128))) (aF 3)) (f2 cX (fC (.int 1)) (f2 eH (f2 mD (aF 1) (fC (.int 2048))) (fC (.int 6)))) [.fro (aW ns),.own (.int r1),.own (.int (P:Int)),.own (.int (n:Int)),.own (.lst (S.map aW)),.own (.int at_)]=.next [.fro (aW ns),.own (.int r1),.own (.int (P:Int)),.own (.int (n:Int)),.own (.lst ((S.set at_.toNat ((want n).set (r1/128%(n:Int)).toNat (1+r1/2048%6))).map aW)),.own (.int at_)]:=by
    &(JM (p:=[.ix at_.toNat]) (d0:=.lst (S.map aW)) (k:=r1/128%(n:Int)) (ds:=(want n).map D.int) (d:=.int (1+r1/2048%6)) rfl (px rfl) (Nz hg) (aO (aO rfl rfl (dX A5 A5)) rfl (bN A3)) (aO rfl (aO (aO rfl rfl (dX A5 A5)) rfl (bN A5)) (fG _ _)) i0 (by rw[B3];omega)).trans ?_
    rw[Oa hg,←W4]
    show SR.next [SD.fro (aW ns),.own (.int r1),.own (.int (P:Int)),.own (.int (n:Int)),.own (.lst ((S.map aW).set at_.toNat (aW ((want n).set (r1/128%(n:Int)).toNat (1+r1/2048%6))))),.own (.int at_)]=_
    rw[Ob]
   &JH hk ?_
   &wA rfl ⟨_,rfl,S.set at_.toNat ((want n).set (r1/128%(n:Int)).toNat (1+r1/2048%6)),rfl,hS.set (by rw[O3];omega) fun x hx=>?_⟩
   rcases T1 hx with z | z
   ·~wx x z
   ·omega
  ·&lA (Bd 2 rfl) (decide_eq_false c2) (jE ?_)
   ~wA rfl ⟨_,rfl,_,rfl,hS⟩
 &cI (aX (aC rfl (aC rfl rfl)) rfl hd0) A6 ?_
 &cI (aO rfl (aO (aO rfl rfl (dX A5 A5)) rfl (bN A5)) (fG _ _)) A6 ?_
 have Bd:∀(j:Int) {env:EN},(rE env)[1]?=some (some (.int r0))→fB (f2 vN (f2 eH (aF 1) (fC (.int 4))) (fC (.int j))) (rE env)=some (decide (r0%4=j)):=fun j {env} e1=>bU (aO (aO (jD e1) rfl (bN A5)) rfl (yD _ _))
 have sz:∀{env:EN},(rE env)[1]?=some (some (.int r0))→f2 cX (fC (.int 2)) (f2 eH (f2 mD (aF 1) (fC (.int 64))) (fC (.int 3))) (rE env)=some (.int (2+r0/64%3)):=fun e1=>aO rfl (aO (aO (jD e1) rfl (dX A5 A5)) rfl (bN A5)) (fG _ _)
 A7⟨n2,hn2⟩:∃n:Nat,2+r0/64%3=(n:Int):=⟨(2+r0/64%3).toNat,by omega⟩
 A7⟨P1,hP1⟩:∃n:Nat,1+r0/4%3=(n:Int):=⟨(1+r0/4%3).toNat,by omega⟩
 by_cases c0:r0%4=0
 ·A7⟨P7,hP7⟩:∃n:Nat,7+r0/4%3=(n:Int):=⟨(7+r0/4%3).toNat,by omega⟩
  have f:=fin P7 n2 A3 A3 A3 A3
  rw[←hP7,←hn2]at f
  &oY (Bd 0 rfl) (fun _=>?_) fun z=>absurd c0 (of_decide_eq_false z)
  &cI (aO rfl (aO (aO rfl rfl (dX A5 A5)) rfl (bN A5)) (fG _ _)) A6 ?_
  &cI (sz rfl) A6 ?_
  ~lA (Bd 1 rfl) (decide_eq_false A3) (jE f)
 &lA (Bd 0 rfl) (decide_eq_false c0) (jE ?_)
 &cI (sz rfl) A6 ?_
 by_cases c1:r0%4=1
 ·A7⟨n,hn,n1,n10⟩:∃n:Nat,sH (.lst [.int 1,.int 9,.int 10]) (.int (r0/64%3))=some (.int (n:Int))∧1≤n∧n≤10:=by
   have e:r0/64%3=0∨r0/64%3=1∨r0/64%3=2:=by omega
   rcases e with e | e | e
   ·rw[e];~⟨1,jY A5 rfl,by decide,by decide⟩
   ·rw[e];~⟨9,jY A5 rfl,by decide,by decide⟩
   ·rw[e];~⟨10,jY A5 rfl,by decide,by decide⟩
  have f:=fin P1 n A3 A3 n1 n10
  rw[←hP1]at f
  &oY (Bd 1 rfl) (fun _=>?_) fun z=>absurd c1 (of_decide_eq_false z)
  ~cI (xZ (aO (bQ (aC rfl (aC rfl (aC rfl rfl))) A5) (aO (aO rfl rfl (dX A5 A5)) rfl (bN A5)) hn) rfl) A6 f
 ·have f:=fin P1 n2 A3 A3 A3 A3
  rw[←hP1,←hn2]at f
  ~lA (Bd 1 rfl) (decide_eq_false c1) (jE f)
A9 Kq{κ:Nat→Addr}{d:D}(h:cA κ [d]=some 0):iG κ [d,.non]=some (.bl true):=by
 suffices hh:∃x,iG κ [d,.non]=some x∧x=.bl true by
  A7⟨x,h1,rfl⟩:=hh
  ~h1
 &lE rfl ?_
 A8 Ah
 &cI (bQ rfl A5) A6 (cI rfl A6 ?_)
 &bc (i:=0) ?_ (uo A5 A5 rfl) ?_
 ·show (some [d]).bind (cA κ)=some 0
  ~h
 &aAp A6 (nG (bQ (aC rfl (aC rfl rfl)) A5) A6 (nG (aO rfl (bQ (aC rfl (aC rfl rfl)) A5) (rD rfl A5)) A6 (jC (aO rfl (bQ (aC rfl rfl) A5) (rD rfl A5)) A6))) A6 ?_
 &PL (b:=true) (bU (aO rfl rfl rfl)) rfl (pG (aO rfl (bQ (aC rfl (aC rfl (aC rfl (aC rfl (aC rfl rfl))))) A5) rfl) ⟨_,rfl,?_⟩)
 ~congrArg D.bl A5
A9 KN{κ:Nat→Addr}{d:D}{s:List (List (List Int))}(h:cA κ [d]=none)(hv:lY [d]=some (aZ s))(hal:lN [aZ s,aZ s]=some (.bl true)):iG κ [d,aZ s]=some (.bl true):=by
 suffices hh:∃x,iG κ [d,aZ s]=some x∧x=.bl true by
  A7⟨x,h1,rfl⟩:=hh
  ~h1
 &lE rfl ?_
 A8 Ah
 &cI (bQ rfl A5) A6 (cI rfl A6 ?_)
 &az ?_ ?_
 ·show (some [d]).bind (cA κ)=none
  ~h
 &cI (aX (aC rfl rfl) rfl hv) A6 ?_
 &lA (b:=false) (bU (aO rfl rfl rfl)) rfl (jE (qO (Ju (a:=true) (aO rfl (bQ rfl A5) (show _=some (D.bl (decide (([]:List Bool)=[])))from rfl)) (aX (aC rfl (aC rfl rfl)) rfl hal)) ⟨_,rfl,rfl⟩))
A9 Kr{κ:Nat→Addr}{l:List Nat}(hl:l.length≤5000):iG κ [.str (sS l),if sV l=true then aZ (pK l)else .non]=some (.bl true):=by
 rw[bu]
 have h:=Qz (κ:=κ) hl
 cases q:Ht l with
 | false=>
  rw[if_neg B8]
  ~Kq (h.2 q)
 | true=>
  rw[if_pos rfl]
  A7⟨h1,h2⟩:=h.1 q
  A8 Ht at q
  rw[B4]at q
  have g:=q.2
  A8 Bc at g
  rw[B4,B4,B4]at g
  have g1:=of_decide_eq_true g.1
  have g2:=of_decide_eq_true g.2.1.2
  &KN h2 h1 (Xy _ A3 fun p hp=>?_)
  have:=of_decide_eq_true (D9.mp g.2.2 p hp)
  omega
A9 dg:Ht []=false:=by decide +kernel
abbrev ur:List D:=[.non,.int 7,.bl true,.lst [.str "0,0,-1,-1,0 0"],.tup [.str "0,0,-1,-1,0 0"],.lst [.lst [.tup [.int 0,.int 0,.int (-1),.int (-1),.int 0],.tup [.int 0]]],.str (sS [])]
A9 Yo(κ:Nat→Addr)(ns:List Int)(hl:ns.length≤63)(hS:∀k∈ns,Small k):aj κ [.lst (ns.map D.int)]=some (.bl true):=by
 suffices h:∃d,aj κ [aW ns]=some d∧d=.bl true by
  A7⟨d,h1,rfl⟩:=h
  ~h1
 have hd:=rN (k:=4) hl A5 A5
 A7⟨b0,b1⟩:=vG ns 4
 generalize qW ns 4=r at *
 have m0:=F9 r (by decide:(7:Int)≠0)
 have m1:=F3 r (by decide:(0:Int)<7)
 A7⟨d,e1,e2⟩:∃d,ur[(r%7).toNat]?=some d∧cA κ [d]=some 0:=by
  have hi:(r%7).toNat<7:=by omega
  generalize (r%7).toNat=i at *
  match i,hi with
  | 0,_=>~⟨_,rfl,Ek rfl A5⟩
  | 1,_=>~⟨_,rfl,Ek rfl A5⟩
  | 2,_=>~⟨_,rfl,Ek rfl A5⟩
  | 3,_=>~⟨_,rfl,Ek rfl A5⟩
  | 4,_=>~⟨_,rfl,Ek rfl A5⟩
  | 5,_=>~⟨_,rfl,Ek rfl A5⟩
  | 6,_=>~⟨_,rfl,(Qz (κ:=κ) (l:=[]) A5).2 dg⟩
 A7⟨s,hs,uv⟩:=KJ hl
 A7⟨T,hT,hTl⟩:=cu hl uv.1 uv.2
 A7⟨U,hU,hUl⟩:=Yn (T:=T) hl hTl
 &lE rfl ?_
 A8 ue
 rw[aAn]
 &ZW (d:=.lst ur) (bQ (aC rfl (aC rfl (aC rfl (aC (bQ (aC rfl rfl) A5) (aC (yE (aC rfl rfl) A5) (aC (bQ (aC (bQ (aC (yE (aC rfl (aC rfl (aC (oX rfl) (aC (oX rfl) (aC rfl rfl))))) A5) (aC (yE (aC rfl rfl) A5) rfl)) A5) rfl) A5) (aC rfl rfl))))))) A5) A6 ?_
 &lA (b:=false) (dR (b:=true) (bU (aX (aC (aO rfl (aO (aX (aC rfl (aC rfl rfl)) rfl hd) rfl (bN A5)) (jY m0 e1)) (aC rfl rfl)) rfl (Kq e2)))) rfl (jE ?_)
 &cI (aX (aC rfl (aC (aX (aC rfl rfl) rfl hs) rfl)) rfl hT) A6 ?_
 &lA (b:=false) (dR (b:=true) (bU (aX (aC rfl (aC (aX (aC rfl rfl) rfl (PX (l:=T) A3)) rfl)) rfl (Kr (l:=T) A3)))) rfl (jE ?_)
 &cI (aX (aC rfl (aC rfl rfl)) rfl hU) A6 ?_
 ~qO (aX (aC rfl (aC (aX (aC rfl rfl) rfl (PX hUl)) rfl)) rfl (Kr hUl)) ⟨_,rfl,rfl⟩
end Rs

def PySem.W.Fast.tw14584466604734370072:Unit:=()
def PySem.W.Fast.tw12920194879499438745:Unit:=()
def PySem.W.Fast.tw12284326604722815224:Unit:=()
def PySem.W.Fast.tw343704553816974735:Unit:=()
def PySem.W.Fast.tw11513575288061951843:Unit:=()
def PySem.W.Fast.tw18157122718717807124:Unit:=()
def PySem.W.Fast.tw12683062873913030768:Unit:=()
def PySem.W.Fast.tw3526440681062772290:Unit:=()
def PySem.W.Fast.tw11900894648226126195:Unit:=()
def PySem.W.Fast.tw5593316363937806434:Unit:=()
def PySem.W.Fast.tw4832531970711686211:Unit:=()
def PySem.W.Fast.tw7721793443219127887:Unit:=()
def PySem.W.Fast.tw10470038223831929231:Unit:=()
def PySem.W.Fast.tw1087152955466020356:Unit:=()
def PySem.W.Fast.tw18222619527437523775:Unit:=()
def PySem.W.Fast.tw5871405710476210800:Unit:=()
def PySem.W.Fast.tw8288845517992244093:Unit:=()
def PySem.W.Fast.tw1495072670890408246:Unit:=()
def PySem.W.Fast.tw3109165266690923617:Unit:=()
def PySem.W.Fast.tw10763623480106441073:Unit:=()
def PySem.W.Fast.tw8734775912449833584:Unit:=()
def PySem.W.Fast.tw976237236796951048:Unit:=()
def PySem.W.Fast.tw513077431430894407:Unit:=()
def PySem.W.Fast.tw10983418628879801049:Unit:=()
def PySem.W.Fast.tw13439974853193053552:Unit:=()
def PySem.W.Fast.tw16574811223433125630:Unit:=()
def PySem.W.Fast.tw11054139767019688810:Unit:=()
def PySem.W.Fast.tw3905407112373346668:Unit:=()
def PySem.W.Fast.tw6831235050110821233:Unit:=()
def PySem.W.Fast.tw15474708041997427272:Unit:=()
def PySem.W.Fast.tw5907774712846545977:Unit:=()
def PySem.W.Fast.tw1544807735833096723:Unit:=()
def PySem.W.Fast.tw12120541423326346800:Unit:=()
def PySem.W.Fast.tw6906419606357386939:Unit:=()
def PySem.W.Fast.tw1095402623290322725:Unit:=()
def PySem.W.Fast.tw17437841148210142371:Unit:=()
def PySem.W.Fast.tw2849820433582481700:Unit:=()
def PySem.W.Fast.tw13825597699397832281:Unit:=()
def PySem.W.Fast.tw11849550580961666822:Unit:=()
def PySem.W.Fast.tw12344659040154122096:Unit:=()
def PySem.W.Fast.tw12693392870330466630:Unit:=()
def PySem.W.Fast.tw7025263121669421920:Unit:=()
def PySem.W.Fast.tw7956451854033886835:Unit:=()
def PySem.W.Fast.tw16537435379551894147:Unit:=()
def PySem.W.Fast.tw242718586000985206:Unit:=()
def PySem.W.Fast.tw7973291894417202118:Unit:=()
def PySem.W.Fast.tw3802092921914319196:Unit:=()
def PySem.W.Fast.tw16252135836796517460:Unit:=()
def PySem.W.Fast.tw1463132316408351275:Unit:=()
def PySem.W.Fast.tw3055609991081074698:Unit:=()
def PySem.W.Fast.tw8930721357770297106:Unit:=()
def PySem.W.Fast.tw7411822557754473802:Unit:=()
def PySem.W.Fast.tw13249178234309841547:Unit:=()
namespace Rs
open PySem L2
A9 KQ{K:aA}{f:Addr}{oc:Value}{od:Option Addr}{fd:FuncData}{sl:Array (Option Value)}(l:K.lookup f=some ⟨oc,od,.func fd,sl⟩):K6 K (.ref f)=true:=by
 A8 K6
 dsimp only
 rw[l]
A9 aAt{K:aA}{h:Heap}{mg:Str→Option Value}{x:Str}{st:Stmt}{f:Addr}{oc:Value}{od an:Option Addr}{osl:Array (Option Value)}{kV doc pm cdv ct:Value}(X:K.In h)(G:h.Ns mainGlobals mg)(a:G7 K mainGlobals x=some (some (.ref f)))(l:K.lookup f=some ⟨oc,od,.func (G6 x x (fV st) (cQ st) (aM st) .none kV doc pm an cdv ct),osl⟩)(c:N7 K cdv x=true):Raw K mg x st:=VB X G a l c (KQ l)
A9 KR{K:aA}{a b:Value}{v:Bool}(h:B5 K a b=some v):O9 K a b=some v:=by
 A8 B5 at h
 split at h
 ·~h
 ·cases h
A9 uw{K:aA}{C:Addr}{v:Value}(h:Q0 K C v=some true):(Q2 K C).isSome=true:=by
 A8 Q0 at h
 cases q:Q2 K C with
 | none=>rw[q]at h;cases h
 | some c=>rfl
A9 exX{K:aA}{h:Heap}{mg:Str→Option Value}(X:K.In h)(G:h.Ns mainGlobals mg){E0 E1 E2 E3 E4 E5 E6 E7 E8 E9 E10:Addr}(a0:G7 K mainGlobals "NoText" = some (some (.ref E0))) (a1:G7 K mainGlobals "StoneError" = some (some (.ref E1))) (a2:G7 K mainGlobals "NoPlace" = some (some (.ref E2))) (a3:G7 K mainGlobals "NoChange" = some (some (.ref E3))) (a4:G7 K mainGlobals "Full" = some (some (.ref E4))) (a5:G7 K mainGlobals "Twice" = some (some (.ref E5))) (a6:G7 K mainGlobals "NoWorth" = some (some (.ref E6))) (a7:G7 K mainGlobals "NoKey" = some (some (.ref E7))) (a8:G7 K mainGlobals "BadStone" = some (some (.ref E8))) (a9:G7 K mainGlobals "NoDeed" = some (some (.ref E9))) (a10:G7 K mainGlobals "NoRow" = some (some (.ref E10))) (b0:J5 K E0 nW "ValueError.__new__" = true) (b1:J5 K E1 nW "ValueError.__new__" = true) (b2:J5 K E2 nW "ValueError.__new__" = true) (b3:J5 K E3 nW "ValueError.__new__" = true) (b4:J5 K E4 nW "ValueError.__new__" = true) (b5:J5 K E5 nW "ValueError.__new__" = true) (b6:J5 K E6 nW "ValueError.__new__" = true) (b7:J5 K E7 nW "ValueError.__new__" = true) (b8:J5 K E8 nW "ValueError.__new__" = true) (b9:J5 K E9 nW "ValueError.__new__" = true) (b10:J5 K E10 nW "ValueError.__new__" = true) (Yp:B5 K (.ref E0) (.ref E0)=some true) (Yq:B5 K (.ref E0) (.ref E1)=some true) (Yr:B5 K (.ref E0) (.ref E2)=some false) (Ys:B5 K (.ref E0) (.ref E3)=some false) (Yt:B5 K (.ref E0) (.ref E4)=some false) (Yu:B5 K (.ref E0) (.ref E5)=some false) (Yv:B5 K (.ref E0) (.ref E6)=some false) (Yw:B5 K (.ref E0) (.ref E7)=some false) (Yx:B5 K (.ref E0) (.ref E8)=some false) (Yy:B5 K (.ref E0) (.ref E9)=some false) (Ks:B5 K (.ref E0) (.ref E10)=some false) (v0:B5 K (.ref E0) (.type "ValueError")=some true) (dh:J6 K (.ref E0) "__getattribute__" = some (some (.builtin "BaseException.__getattribute__"))) (di:J6 K (.ref E0) "__getattr__" = some none) (dj:J6 K (.ref E0) "__class__" = some (some (.builtin "object.__class__"))) (dm:P4 K (.builtin "object.__class__") "__get__" = some (some (.builtin "getset_descriptor.__get__"))) (dq:U0 K (.builtin "object.__class__")=some true) (KY:Q0 K E0 (.type "object")=some true) (du:Y9 K (.ref E0) (.type "BaseException")=some true):∃E0 E1 E2 E3 E4 E5 E6 E7 E8 E9 E10:Addr,oJ K mg "NoText" E0∧oJ K mg "StoneError" E1∧oJ K mg "NoPlace" E2∧oJ K mg "NoChange" E3∧oJ K mg "Full" E4∧oJ K mg "Twice" E5∧oJ K mg "NoWorth" E6∧oJ K mg "NoKey" E7∧oJ K mg "BadStone" E8∧oJ K mg "NoDeed" E9∧oJ K mg "NoRow" E10∧B5 K (.ref E0) (.ref E0)=some true∧B5 K (.ref E0) (.ref E1)=some true∧B5 K (.ref E0) (.ref E2)=some false∧B5 K (.ref E0) (.ref E3)=some false∧B5 K (.ref E0) (.ref E4)=some false∧B5 K (.ref E0) (.ref E5)=some false∧B5 K (.ref E0) (.ref E6)=some false∧B5 K (.ref E0) (.ref E7)=some false∧B5 K (.ref E0) (.ref E8)=some false∧B5 K (.ref E0) (.ref E9)=some false∧B5 K (.ref E0) (.ref E10)=some false∧B5 K (.ref E0) (.type "ValueError")=some true∧zL K E0:=⟨E0,E1,E2,E3,E4,E5,E6,E7,E8,E9,E10,⟨G4 X G a0,b0⟩,⟨G4 X G a1,b1⟩,⟨G4 X G a2,b2⟩,⟨G4 X G a3,b3⟩,⟨G4 X G a4,b4⟩,⟨G4 X G a5,b5⟩,⟨G4 X G a6,b6⟩,⟨G4 X G a7,b7⟩,⟨G4 X G a8,b8⟩,⟨G4 X G a9,b9⟩,⟨G4 X G a10,b10⟩,Yp,Yq,Yr,Ys,Yt,Yu,Yv,Yw,Yx,Yy,Ks,v0,⟨dh,di,dj,dm,dq,KY,du,uw KY⟩⟩
A9 walk{l:Y2}{q:Program}{loose:List Str}{XP:(Str→Option Value)→Heap→Prop}{YP:World→Heap→Prop}{d:DefRec}{K:Params→aA}(hn:l.most=some 63)(hdf:d.params.defaults=[])(hdn:d.name = "law")
  (hY:∀(w:World)(h:Heap),YP w h→(K w.params).In h)
  (F:∀(w:World)(mg:Str→Option Value)(h:Heap),(K w.params).In h→h.Ns mainGlobals mg→(∃E0 E1 E2 E3 E4 E5 E6 E7 E8 E9 E10:Addr,oJ (K w.params) mg "NoText" E0∧oJ (K w.params) mg "StoneError" E1∧oJ (K w.params) mg "NoPlace" E2∧oJ (K w.params) mg "NoChange" E3∧oJ (K w.params) mg "Full" E4∧oJ (K w.params) mg "Twice" E5∧oJ (K w.params) mg "NoWorth" E6∧oJ (K w.params) mg "NoKey" E7∧oJ (K w.params) mg "BadStone" E8∧oJ (K w.params) mg "NoDeed" E9∧oJ (K w.params) mg "NoRow" E10∧B5 (K w.params) (.ref E0) (.ref E0)=some true∧B5 (K w.params) (.ref E0) (.ref E1)=some true∧B5 (K w.params) (.ref E0) (.ref E2)=some false∧B5 (K w.params) (.ref E0) (.ref E3)=some false∧B5 (K w.params) (.ref E0) (.ref E4)=some false∧B5 (K w.params) (.ref E0) (.ref E5)=some false∧B5 (K w.params) (.ref E0) (.ref E6)=some false∧B5 (K w.params) (.ref E0) (.ref E7)=some false∧B5 (K w.params) (.ref E0) (.ref E8)=some false∧B5 (K w.params) (.ref E0) (.ref E9)=some false∧B5 (K w.params) (.ref E0) (.ref E10)=some false∧B5 (K w.params) (.ref E0) (.type "ValueError")=some true∧zL (K w.params) E0)∧Raw (K w.params) mg "_law_draw" Ab∧Raw (K w.params) mg "_law_text" Ac∧Raw (K w.params) mg "_law_spoilt" tO∧Raw (K w.params) mg "is_number" rF∧Raw (K w.params) mg "read_number" mU∧Raw (K w.params) mg "read_thing" iR∧Raw (K w.params) mg "read_pane" jP∧Raw (K w.params) mg "is_grid" vB∧Raw (K w.params) mg "read_stone" iT∧Raw (K w.params) mg "_law_whole" wC∧Raw (K w.params) mg "_law_tuple" wD∧Raw (K w.params) mg "_law_alike" wF∧Raw (K w.params) mg "_law_good" Ag∧Raw (K w.params) mg "_law_sizes" rJ∧Raw (K w.params) mg "_law_number" tQ∧Raw (K w.params) mg "_law_due" vC∧Raw (K w.params) mg "law" aa∧mg "len" = none∧mg "range" = none∧mg "str" = none∧mg "all" = none∧mg "isinstance" = none∧mg "int" = none∧mg "tuple" = none∧mg "list" = none∧mg "bool" = none∧mg "ValueError" = none∧kZ mg "MINUS" "-" ∧ Pj mg "MOST_FIGURES" (60)∧kZ mg "FIGURES" "0123456789" ∧ kZ mg "ZERO" "0" ∧ kZ mg "BETWEEN_NUMBERS" "," ∧ kZ mg "BETWEEN_THINGS" " " ∧ wU (K w.params) mg "BLANK_RECORD" [0,0,-1,-1,0]∧wU (K w.params) mg "BLANK_SEAL" [0]∧kZ mg "BETWEEN_PANES" ";") :
  Y7 q loose XP YP l.row.toRowW d [] (fun f vs=>Y1 f vs):=by
 &L2.Su (n:=63) (k:=7) (x := "script") (CX:=fun _=>Ue) (sp:=fun w=>zq (K w.params)) hn A5 hdf ⟨rfl,by decide,by decide⟩ hY ?_ (fun _ _ a ns hl hb _ hS=>⟨a,ns,rfl,hS,hl,hb,fun _=>rfl⟩) fun _ _ _ _ _ z=>z
 intro w mg fa h KX G hmg
 A7⟨⟨E0,E1,E2,E3,E4,E5,E6,E7,E8,E9,E10,gU,qR,Ao,wL,Xp,Nu,An,Nt,wK,Gz,Nr,Yp,Yq,Yr,Ys,Yt,Yu,Yv,Yw,Yx,Yy,Ks,v0,xc0⟩,RLawDraw,RLawText,RLawSpoilt,RIsNumber,RReadNumber,RReadThing,RReadPane,RIsGrid,RReadStone,RLawWhole,RLawTuple,RLawAlike,RLawGood,RLawSizes,RLawNumber,RLawDue,RLaw,cD,nH,sG,Nk,aP,Tt,pB,wY,Xo,qT,Nm,pA,Ak,Ql,cL,eE,dF,jU,dM⟩:=F w mg h KX G
 A7⟨κ,e0,e1,e2,e3,e4,e5,e6,e7,e8,e9,e10⟩:∃κ:Nat→Addr,κ 0=E0∧κ 1=E1∧κ 2=E2∧κ 3=E3∧κ 4=E4∧κ 5=E5∧κ 6=E6∧κ 7=E7∧κ 8=E8∧κ 9=E9∧κ 10=E10:=⟨(fun n=>match n with | 0=>E0 | 1=>E1 | 2=>E2 | 3=>E3 | 4=>E4 | 5=>E5 | 6=>E6 | 7=>E7 | 8=>E8 | 9=>E9 | 10=>E10 | _=>E0),rfl,rfl,rfl,rfl,rfl,rfl,rfl,rfl,rfl,rfl,rfl⟩
 subst e0 e1 e2 e3 e4 e5 e6 e7 e8 e9 e10
 have XM:∀i j,i<1→j<11→B5 (K w.params) (.ref (κ i)) (.ref (κ j))=some (wB i j):=fun i j hi hj=>match i,j,hi,hj with
  | 0,0,_,_=>Yp
  | 0,1,_,_=>Yq
  | 0,2,_,_=>Yr
  | 0,3,_,_=>Ys
  | 0,4,_,_=>Yt
  | 0,5,_,_=>Yu
  | 0,6,_,_=>Yv
  | 0,7,_,_=>Yw
  | 0,8,_,_=>Yx
  | 0,9,_,_=>Yy
  | 0,10,_,_=>Ks
  | n+1,_,h,_=>absurd h A3
  | _,n+11,_,h=>absurd h A3
 have XV:∀i,i<1→O9 (K w.params) (.ref (κ i)) (.type "ValueError")=some true:=fun i hi=>match i,hi with
  | 0,_=>KR v0
  | n+1,h=>absurd h A3
 have XC:∀i,i<1→zL (K w.params) (κ i):=fun i hi=>match i,hi with
  | 0,_=>xc0
  | n+1,h=>absurd h A3
 A7⟨f,fd,FL,m⟩:=RLaw.ex
 rw[hdn]at hmg
 have e:=hmg.symm.trans m
 cases e
 &⟨fd,Mq FL (fun _ _ _ _ _ _ u=>rfl),fun base _ _=>?_⟩
 have dD:=Ni (P:=l.prog) (w:=w) (mg:=mg) (base:=base) RLawDraw  cD
 have Aq:=Nj (P:=l.prog) (w:=w) (mg:=mg) (base:=base) RLawText dD  nH sG
 have tX:=Gv (P:=l.prog) (w:=w) (mg:=mg) (base:=base) RLawSpoilt dD  cD
 have lO:=Ka (P:=l.prog) (w:=w) (mg:=mg) (base:=base) RIsNumber  cD Nk Nm pA Ak Ql
 have gJ:=Bx (P:=l.prog) (w:=w) (mg:=mg) (base:=base) RReadNumber lO  aP sG Tt
 have gK:=Gw (P:=l.prog) (w:=w) (mg:=mg) (base:=base) RReadThing gJ  cD pB cL
 have jV:=Kc (P:=l.prog) (w:=w) (mg:=mg) (base:=base) RReadPane gK  cD eE dF jU
 have rM:=Tu (P:=l.prog) (w:=w) (mg:=mg) (base:=base) RIsGrid  cD aP wY Nk
 have tU:=Gx (P:=l.prog) (w:=w) (mg:=mg) (base:=base) RReadStone jV rM  aP sG dM
 have wG:=Kd (P:=l.prog) (w:=w) (mg:=mg) (base:=base) RLawWhole  aP Xo Tt
 have wH:=Ke (P:=l.prog) (w:=w) (mg:=mg) (base:=base) RLawTuple wG  cD aP pB
 have wJ:=Kf (P:=l.prog) (w:=w) (mg:=mg) (base:=base) RLawAlike wH  cD aP wY nH
 have qQ:=Am (P:=l.prog) (w:=w) (mg:=mg) (base:=base) RReadNumber lO gU aP sG
 have pC:=By (P:=l.prog) (w:=w) (mg:=mg) (base:=base) RReadThing gJ qQ gU cD cL
 have wI:=Gy (P:=l.prog) (w:=w) (mg:=mg) (base:=base) RReadPane gK pC cD eE dF jU
 have tV:=Ca (P:=l.prog) (w:=w) (mg:=mg) (base:=base) RReadStone jV rM wI gU aP sG dM
 have qU:=Nq (P:=l.prog) (w:=w) (mg:=mg) (base:=base) RLawGood tU wJ tV qR Nr wK Gz Nt An Nu Xp wL Ao gU XM XC XV aP qT
 have wM:=Kg (P:=l.prog) (w:=w) (mg:=mg) (base:=base) RLawSizes dD  nH
 have tW:=Hf (P:=l.prog) (w:=w) (mg:=mg) (base:=base) RLawNumber  cD
 have yG:=Tv (P:=l.prog) (w:=w) (mg:=mg) (base:=base) RLawDue tW  pB cD
 ~ak FL dD qU wM Aq yG tX  (Yo κ)
end Rs
open PySem PySem.W PyProof.Rows
set_option maxRecDepth 100000 in
set_option maxHeartbeats 0 in
theorem PySem.Challenge.cw_ripestone_k55_odd_stones_holds : PySem.Challenge.rw_ripestone_k55_odd_stones.Holds := by
 w_on;o_law;k_head;(case hw=>w_witness2)
 k_fill
 &Rs.walk (l:=PySem.Challenge.rw_ripestone_k55_odd_stones) rfl rfl rfl (fun w h Y=>PySem.W.kIn_of Y) ?F
 case F=>
  intro w mg h KX G
  &⟨?_,?_,?_,?_,?_,?_,?_,?_,?_,?_,?_,?_,?_,?_,?_,?_,?_,?_,J1 KX G ?_,J1 KX G ?_,J1 KX G ?_,J1 KX G ?_,J1 KX G ?_,J1 KX G ?_,J1 KX G ?_,J1 KX G ?_,J1 KX G ?_,J1 KX G ?_,?_,?_,?_,?_,?_,?_,?_,?_,?_⟩
  ·refine' Rs.exX KX G ?a0 ?a1 ?a2 ?a3 ?a4 ?a5 ?a6 ?a7 ?a8 ?a9 ?a10 ?b0 ?b1 ?b2 ?b3 ?b4 ?b5 ?b6 ?b7 ?b8 ?b9 ?b10 ?Yp ?Yq ?Yr ?Ys ?Yt ?Yu ?Yv ?Yw ?Yx ?Yy ?Ks ?v0 ?dh ?di ?dj ?dm ?dq ?KY ?du
   (case a0=>k_is);(case a1=>k_is);(case a2=>k_is);(case a3=>k_is);(case a4=>k_is);(case a5=>k_is);(case a6=>k_is);(case a7=>k_is);(case a8=>k_is);(case a9=>k_is);(case a10=>k_is);(case b0=>k_exc);(case b1=>k_exc);(case b2=>k_exc);(case b3=>k_exc);(case b4=>k_exc);(case b5=>k_exc);(case b6=>k_exc);(case b7=>k_exc);(case b8=>k_exc);(case b9=>k_exc);(case b10=>k_exc);(case Yp=>kts_exm);(case Yq=>kts_exm);(case Yr=>kts_exm);(case Ys=>kts_exm);(case Yt=>kts_exm);(case Yu=>kts_exm);(case Yv=>kts_exm);(case Yw=>kts_exm);(case Yx=>kts_exm);(case Yy=>kts_exm);(case Ks=>kts_exm);(case v0=>kts_exm);(case dh=>k_is);(case di=>k_is);(case dj=>k_is);(case dm=>k_is);(case dq=>k_is);(case KY=>k_is);(case du=>k_is)
  iterate 17
   ·refine' Rs.aAt KX G ?a ?l ?c
    (case a=>k_is);(case l=>k_is);(case c=>k_is)
  iterate 10
   ·k_is
  ·refine' L2.nT KX G ?a
   (case a=>k_is)
  ·refine' L2.Vx KX G ?a
   (case a=>k_is)
  ·refine' L2.nT KX G ?a
   (case a=>k_is)
  ·refine' L2.nT KX G ?a
   (case a=>k_is)
  ·refine' L2.nT KX G ?a
   (case a=>k_is)
  ·refine' L2.nT KX G ?a
   (case a=>k_is)
  ·refine' L2.Jh KX G ?a ?l ?v ?s
   (case a=>k_is);(case l=>k_is)
   (case v=>~.cons ⟨_,rfl⟩ (.cons ⟨_,rfl⟩ (.cons ⟨_,rfl⟩ (.cons ⟨_,rfl⟩ (.cons ⟨_,rfl⟩ (.nil))))))
   (case s=>decide)
  ·refine' L2.Jh KX G ?a ?l ?v ?s
   (case a=>k_is);(case l=>k_is)
   (case v=>~.cons ⟨_,rfl⟩ (.nil))
   (case s=>decide)
  ·refine' L2.nT KX G ?a
   (case a=>k_is)
#print axioms PySem.Challenge.cw_ripestone_k55_odd_stones_holds
