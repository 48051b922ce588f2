import PyProof.Rows.All
import Wide.All
import OpenK.AllK
import Wide.FinOn
import Lean
import PyProof.EqAt
import PyProof.EqKinds
import PyProof.TupleCall
import PySem.Challenge.RW_ripestone_k33_plainly
macro"~"t:term:tactic=>`(tactic|exact $t)
macro"&"t:term:tactic=>`(tactic|refine $t)
macro"A0":term=>`(by omega)
macro"A3":term=>`(by decide +kernel)
macro"A4":term=>`(by decide)
macro"A5":term=>`(by exact Nat.le_of_ble_eq_true rfl)
macro"A7"i:(ppSpace colGt ident)+ l:(Lean.Parser.Tactic.location)?:tactic=>`(tactic|unfold $i* $[$l]?)
macro"A6"p:Lean.Parser.Tactic.rcasesPatMed":="t:term:tactic=>`(tactic|obtain $p := $t)
macro"A6"p:Lean.Parser.Tactic.rcasesPatMed":"y:term":="t:term:tactic=>`(tactic|obtain $p : $y := $t)
open Lean.Parser.Command in
macro"A8"n:declId s:declSig v:declVal:command=>`(command|theorem $n $s $v)
open Array renaming getD_eq_getD_getElem?→F3,length_toList→K2,getElem?_toList→L7,toList→U3
open Array.Perm renaming refl→P2
open Bool renaming false_ne_true→C6,and_eq_true→G8,eq_iff_iff→K3,false_eq_true→N0,and_false→T7
open Int renaming emod_nonneg→K6,emod_lt_of_pos→K8,natAbs_eq_zero→R9,toNat_natCast→S2,le_refl→S3
open List renaming getElem?_eq_getElem→A9,size_toArray→B0,map_cons→B3,length_map→B4,getD_eq_getElem?_getD→B7,getElem?_eq_some_iff→B9,getElem?_map→C4,mem_cons_of_mem→C5,mem_append_right→C8,mem_cons_self→C9,map_nil→D4,mem_singleton→D5,range→D6,length_append→D7,mem_map→D8,replicate→E2,mem_cons→E3,mem_append→E4,map_append→E6,mem_of_getElem?→E8,length_cons→F0,zip_cons_cons→F2,getElem?_eq_none→F7,nodup_cons→G1,zipWith_cons_cons→G3,mem_append_left→G5,length_range→G6,filter_cons→G7,map_map→I0,find?_cons→J0,nodup_iff_pairwise_ne→J1,pairwise_map→J2,mem_range→J3,mem_filter→J5,length_filter_le→J8,length_take→J9,cons_append→K0,drop_eq_getElem_cons→K4,pairwise_iff_getElem→K5,nodup_append→L0,take_of_length_le→L1,length_drop→L4,lookup_cons→L5,append_nil→L8,zipWith→M4,filterMap_cons→M6,filter_sublist→M7,nodup_nil→M8,getElem?_drop→N1,getElem?_append_right→N2,ext_getElem?→N7,getElem?_append_left→N9,toArray→O3,getElem?_replicate→O6,of_mem_zip→P1,getElem?_set_self→P4,drop_eq_nil_of_le→P6,length_replicate→P8,zipWith_nil_left→Q0,getElem?_toArray→Q1,getElem?_set_ne→Q4,mem_of_mem_drop→Q5,mem_of_mem_take→Q6,any_cons→Q7,take_succ_cons→Q8,replicate_succ→Q9,getElem?_range→R0,map_congr_left→R1,mem_filterMap→R3,pairwise_cons→R7,getElem?_take→R8,take_sublist→S1,perm_middle→S8,length_nil→T2,length_set→T3,nil_append→T4
open List.Perm renaming refl→Q2
open List.Sublist renaming map→L6
open Nat renaming le_refl→B6,lt_of_lt_of_le→B8,ne_of_lt→C3,le_trans→E7,lt_irrefl→F1,lt_succ_of_lt→F5,zero_le→F9,lt_or_ge→G9,le_of_lt→J4,ne_of_gt→J6,le_succ→K1,lt_trans→M3,zero_add→M5,lt_trichotomy→N8,min_self→O2,le_of_ble_eq_true→Q3,lt_of_le_of_lt→R5,lt_succ_self→S6,le_add_right→S7
open Option renaming bind_some→C7,isSome_map→N6,isSome_iff_exists→O1,getD_none→S5,none→U5
open Option.some renaming inj→D9
open Or renaming inr→F4,inl→F6
open PyProof.Rows renaming boot_sorted→K7,boot_list→L3,callWith_builtin1→L9
open PySem renaming mem_of_lookup→G2,boot_len→K9,call→T5,Within→U2
open PySem.F renaming slot_list_append→O4,type_list_append→O5,plainAttrs_dict→O7,slot_dict_items→O8,plainAttrs_list→O9,slot_dict_pop→P9
open PySem.W renaming kitOne→E1,kia_one→E5,fnOf→E9,mg_none_of→F8,keepIn→G0,findIn→G4,codeIn→J7,methodObj→N3,specialIn→N4,kitx_list→N5,instObj→P0,cellsFrom_some→P5,lookIn→P7,kitx_tuple→R4,nsIn→R6,kitx_dict→S0,plainGet→S4,hideAll→S9,takesIn→T0,OpenLaw→T6,kitCls→T8,mroIn→T9,mg_of→U0,WalkO→U1,isFn→U4
open Sum renaming inl→B5,inr→O0
open Sum.inl renaming inj→M9
abbrev aA:=PySem.W.Frag
A8 aR{α:Type u_1}{b:α}{β:Type u_2}{x:Option β}{f:β→Option α}(h:x.bind f=some b):∃a,x=some a∧f a=some b:=Option.bind_eq_some_iff.mp h
A8 cR{α:Type u_1}{b:α}{β:Type u_2}{x:Option β}{f:β→α}(h:x.map f=some b):∃a,x=some a∧f a=b:=Option.map_eq_some_iff.mp h

set_option Elab.async false
set_option linter.all false
set_option maxRecDepth 100000
namespace L2
open PySem PySem.Spec PyProof.Rows
abbrev Key:=Sum Int Str
def uE:Key→Value→Bool
 | .inl k,v=>Value.isInt k v
 | .inr x,v=>Value.isStrOf x v
def HD(w:World):Key→Int
 | .inl k=>hashInt k
 | .inr x=>hashStr w x
A8 bG:∀{k:Key} {v:Value},uE k v=true→(∃i t,k=B5 i∧v=Value.int i t)∨(∃x t,k=O0 x∧v=Value.str x t)
 | .inl i,v,h=>by
  A6⟨t,e⟩:=Value.isInt_shape (k:=i) (v:=v) h
  ~.inl ⟨i,t,rfl,e⟩
 | .inr x,v,h=>by
  A6⟨t,e⟩:=Value.isStrOf_shape (x:=x) (v:=v) h
  ~.inr ⟨x,t,rfl,e⟩
A8 Fv(i:Int)(t:Tok):uE (.inl i) (.int i t)=true:=by simp[uE,Value.isInt]
A8 Fw(x:Str)(t:Tok):uE (.inr x) (.str x t)=true:=by simp[uE,Value.isStrOf]
A8 Tr(a b:Int):decide ((B5 a:Key)=B5 b)=(a==b):=by
 by_cases e:a=b
 ·subst e;simp
 ·have h:¬(B5 a:Key)=B5 b:=fun q=>e (M9 q)
  rw[decide_eq_false h]
  ~(beq_eq_false_iff_ne.mpr e).symm
A8 Tt(a b:Str):decide ((O0 a:Key)=O0 b)=decide (a=b):=by
 by_cases e:a=b
 ·subst e;simp
 ·have h:¬(O0 a:Key)=O0 b:=fun q=>e (Sum.inr.inj q)
  rw[decide_eq_false h,decide_eq_false e]
A8 Tu(a:Int)(b:Str):decide ((B5 a:Key)=O0 b)=false:=decide_eq_false (fun q=>nomatch q)
A8 Tv(a:Str)(b:Int):decide ((O0 a:Key)=B5 b)=false:=decide_eq_false (fun q=>nomatch q)
def aP(prog:Program)(w:World):PySem.KeyKind prog w Key where
  is:=uE
  hash:=HD w
  inj:=fun v a b ha hb=>by
    rcases bG ha with ⟨i,t,rfl,rfl⟩ | ⟨x,t,rfl,rfl⟩
    · rcases bG hb with ⟨j,u,rfl,e⟩ | ⟨y,u,rfl,e⟩
      · injection e with e1 _;rw[e1]
      · ~nomatch e
    · rcases bG hb with ⟨j,u,rfl,e⟩ | ⟨y,u,rfl,e⟩
      · ~nomatch e
      · injection e with e1 _;rw[e1]
  byValue:=fun k v h=>by
    rcases bG h with ⟨i,t,rfl,rfl⟩ | ⟨x,t,rfl,rfl⟩<;>rfl
  pyHash:=fun hv h=>by
    rcases bG hv with ⟨i,t,rfl,rfl⟩ | ⟨x,t,rfl,rfl⟩
    · ~wpAny_pyHash_int h
    · ~wpAny_pyHash_str h
  eqBool:=fun hu hv h=>by
    rcases bG hu with ⟨i,t,rfl,rfl⟩ | ⟨x,t,rfl,rfl⟩
    · rcases bG hv with ⟨j,u,rfl,rfl⟩ | ⟨y,u,rfl,rfl⟩
      · rw[Tr]at h;~wpAny_eqBool_int h
      · rw[Tu]at h;~SeqAt.EqAt.int_str i t y u _ _ _ _ h
    · rcases bG hv with ⟨j,u,rfl,rfl⟩ | ⟨y,u,rfl,rfl⟩
      · rw[Tv]at h;~SeqAt.EqAt.str_int x t j u _ _ _ _ h
      · rw[Tt]at h;~wpAny_eqBool_str h
  «strs»:=fun k x t v h=>by
    rcases bG h with ⟨i,u,rfl,e⟩ | ⟨y,u,rfl,e⟩
    · ~nomatch e
    · injection e with e1 _
      subst e1
      cases v<;>rfl
A8 nT(prog:Program)(w:World)(i:Int)(t:Tok):(aP prog w).is (.inl i) (.int i t)=true:=Fv i t
A8 xT(prog:Program)(w:World)(x:Str)(t:Tok):(aP prog w).is (.inr x) (.str x t)=true:=Fw x t
end L2
namespace L2
open PySem PySem.Spec PyProof.Rows
inductive V where
  | non | bl (b:Bool) | int (i:Int) | str (x:Str) | byt (b:Array UInt8) | flt (b:UInt64) | ref (a:Addr) | ty (n:String)
  deriving DecidableEq
def RelV:V→Value→Prop
 | .non,u=>u=Value.none
 | .bl b,u=>u=Value.bool b
 | .int i,u=>∃t,u=Value.int i t
 | .str x,u=>∃t,u=Value.str x t
 | .byt b,u=>∃t,u=Value.bytes b t
 | .flt b,u=>∃t,u=Value.float b t
 | .ref a,u=>u=Value.ref a
 | .ty n,u=>u=Value.type n
abbrev Vals:List V→List Value→Prop:=Paired RelV
A8 Vals.length{xs:List V}{us:List Value}(r:Vals xs us):xs.length=us.length:=Paired.length r
A8 Vals.get:∀{xs:List V} {us:List Value} {i:Nat} {x:V},Vals xs us→xs[i]?=some x→∃u,us[i]?=some u∧RelV x u
 | _,_,_,_,.nil,e=>by simp at e
 | _,_,0,_,.cons r _,e=>by simp at e;subst e;~⟨_,rfl,r⟩
 | _,_,i+1,x,.cons _ t,e=>by
  A6⟨u,h1,h2⟩:=Vals.get (i:=i) (x:=x) t (by simpa using e)
  ~⟨u,by simpa using h1,h2⟩
A8 Vals.append:∀{xs ys:List V} {us ws:List Value},Vals xs us→Vals ys ws→Vals (xs++ys) (us++ws)
 | _,_,_,_,.nil,s=>s
 | _,_,_,_,.cons r t,s=>.cons r (Vals.append t s)
A8 Vals.take:∀{xs:List V} {us:List Value} (n:Nat),Vals xs us→Vals (xs.take n) (us.take n)
 | _,_,0,_=>.nil
 | _,_,_+1,.nil=>.nil
 | _,_,n+1,.cons r t=>.cons r (Vals.take n t)
A8 Vals.drop:∀{xs:List V} {us:List Value} (n:Nat),Vals xs us→Vals (xs.drop n) (us.drop n)
 | _,_,0,r=>r
 | _,_,_+1,.nil=>.nil
 | _,_,n+1,.cons _ t=>Vals.drop n t
def oM:Option V→Option Value→Prop
 | some v,some u=>RelV v u
 | none,none=>True
 | _,_=>False
def KV{κ:Type}:List (κ×V)→List (κ×Value)→Prop:=Paired fun(p:κ×V) (q:κ×Value)=>p.1=q.1∧RelV p.2 q.2
def kV:Key→V
 | .inl i=>.int i
 | .inr x=>.str x
inductive HO where
  | lst (xs:List V)
  | tup (xs:List V)
  | dK (kvs:List (Key×V)) | dT (kvs:List (List Key×V))
  | set (S:Int→Bool) (n:Nat)
  | ins (C dx:Addr) (fs:List (Str×V))
  | own (x:Addr)
  | xd (fs:List (Str×V))
  | met (f x:Addr)
  | rng (lo hi:Int)
  | eV (o:Obj) (u:HO)
  | tbl (ps:Array Value)
  | ext (φ:Heap→Prop)
abbrev Hp:=Addr→Option HO
def upd(H:Hp)(a:Addr)(o:HO):Hp:=fun b=>if b=a then some o else H b
A8 aQ{H:Hp}{a:Addr}{o:HO}:upd H a o a=some o:=by A7 upd;rw[if_pos rfl]
A8 aJ{H:Hp}{a b:Addr}{o:HO}(h:b≠a):upd H a o b=H b:=by A7 upd;rw[if_neg h]
A8 Yl{H:Hp}{a b:Addr}{o u:HO}(h:H a=some o)(h':H b=some u)(d:o≠u):a≠b:=by
 intro e;subst e;rw[h]at h';~d (D9 h')
A8 bU{H:Hp}{a b:Addr}{o:HO}(h:H a=some o)(h':H b=none):a≠b:=by
 intro e;subst e;rw[h]at h';cases h'
section
variable(P:Program)(w:World)
def bN(H:Hp)(h:Heap)(a:Addr):HO→Prop
 | .lst xs=>xs.length≤sizeLine∧∃(its:List Value)(n:Nat),Vals xs its∧h.get? a=some {cls:=.type "list", data:=.seq its.toArray n}
 | .tup xs=>xs.length≤sizeLine∧∃its:List Value,Vals xs its∧IsTup h a its.toArray
 | .dK kvs=>kvs.length≤sizeLine∧(a==sysModules)=false∧∃vs,KV kvs vs∧h.DictOf (aP P w) a vs
 | .dT kvs=>kvs.length≤sizeLine∧(a==sysModules)=false∧∃xs:List (List Key×Addr×Value),
   Paired (fun(p:List Key×V) (q:List Key×Addr×Value)=>p.1=q.1∧H q.2.1=some (.tup (p.1.map kV))∧RelV p.2 q.2.2) kvs xs ∧
   ∃o es ep,h.get? a=some o∧o.ExactDict∧o.data=.dict es ep∧es.toList=xs.map (entryOfKey (tupleKind (aP P w)))∧(xs.map (·.1)).Nodup
 | .set S n=>h.SetOf (intKind P w) a S n
 | .ins C dx fs=>H dx=some (.own a)∧fs.length≤1000∧dx≠a∧h.get? a=some (P0 C dx) ∧
   ∃mA,h.Ns1 dx mA∧(∀f,oM (fs.lookup f) (mA f))∧U2 mA (fs.map (·.1))
 | .own _=>∃o,h.get? a=some o
 | .xd fs=>∃mA,h.Ns1 a mA∧∀f,oM (fs.lookup f) (mA f)
 | .rng lo hi=>∃t u v,h.get? a=some {cls:=.type "range", data:=.fields #[.int lo t,.int hi u,.int 1 v]}
 | .eV o u=>h.get? a=some o∧bN H h a u
 | .tbl ps=>h.get? a=some {cls:=.none,data:=.fields ps}
 | .met f x=>h.get? a=some (N3 (.ref f) (.ref x))
 | .ext φ=>φ h∧(∃o,h.get? a=some o)∧∀h1 h2:Heap,φ h1→(∀o,h1.get? a=some o→h2.get? a=some o)→φ h2
def jU(H:Hp)(h:Heap):Prop:=∀a o,H a=some o→bN P w H h a o
end
section
variable{P:Program}{w:World}{H H':Hp}{h h':Heap}{a:Addr}{o:HO}
A8 bN.lt(x:bN P w H h a o):a<h.objs.size:=by
 cases o with
 | lst xs=>A6⟨_,_,_,_,e⟩:=x;~Heap.lt_size e
 | tup xs=>A6⟨_,_,_,p⟩:=x;~p.lt
 | dK kvs=>A6⟨_,_,_,_,o,_,_,e,_⟩:=x;~Heap.lt_size e
 | dT kvs=>A6⟨_,_,_,_,o,_,_,e,_⟩:=x;~Heap.lt_size e
 | set S n=>A6⟨o,_,_,_,e,_⟩:=x;~Heap.lt_size e
 | ins C dx fs=>A6⟨_,_,_,e,_⟩:=x;~Heap.lt_size e
 | own y=>A6⟨_,e⟩:=x;~Heap.lt_size e
 | xd fs=>A6⟨_,⟨_,_,_,e,_⟩,_⟩:=x;~Heap.lt_size e
 | rng lo hi=>A6⟨_,_,_,e⟩:=x;~Heap.lt_size e
 | eV ob u=>A6⟨e,_⟩:=x;~Heap.lt_size e
 | tbl ps=>~Heap.lt_size (show h.get? a=some _ from x)
 | met f y=>~Heap.lt_size (show h.get? a=some _ from x)
 | ext φ=>A6⟨_,⟨_,e⟩,_⟩:=x;~Heap.lt_size e
A8 Paired.Tw{α β:Type}{F G:α→β→Prop}:∀{l₁:List α} {l₂:List β},Paired F l₁ l₂→(∀a b,F a b→G a b)→Paired G l₁ l₂
 | _,_,.nil,_=>.nil
 | _,_,.cons r t,f=>.cons (f _ _ r) (Paired.Tw t f)
A8 bN.stay(x:bN P w H h a o)(k:∀b u,(b=a∨H b=some (.own a))→h.get? b=some u→h'.get? b=some u)
  (ho:∀b,H b=some (.own a)→H' b=some (.own a)) (ht:∀b xs,H b=some (.tup xs)→H' b=some (.tup xs)):bN P w H' h' a o:=by
 induction o with
 | lst xs=>A6⟨z,its,n,r,e⟩:=x;~⟨z,its,n,r,k _ _ (.inl rfl) e⟩
 | tup xs=>A6⟨z,its,r,ob,e,c⟩:=x;~⟨z,its,r,ob,k _ _ (.inl rfl) e,c⟩
 | dK kvs=>A6⟨z,y,vs,r,ob,es,ep,e,c⟩:=x;~⟨z,y,vs,r,ob,es,ep,k _ _ (.inl rfl) e,c⟩
 | dT kvs=>
  A6⟨z,y,xs,r,ob,es,ep,e,c⟩:=x
  ~⟨z,y,xs,Paired.Tw r fun p q z=>⟨z.1,ht _ _ z.2.1,z.2.2⟩,ob,es,ep,k _ _ (.inl rfl) e,c⟩
 | set S n=>A6⟨ob,es,ep,t,e,c⟩:=x;~⟨ob,es,ep,t,k _ _ (.inl rfl) e,c⟩
 | ins C dx fs=>
  A6⟨d,z,ne,e,mA,⟨od,es,ep,e2,c⟩,r⟩:=x
  ~⟨ho _ d,z,ne,k _ _ (.inl rfl) e,mA,⟨od,es,ep,k _ _ (.inr d) e2,c⟩,r⟩
 | own y=>A6⟨ob,e⟩:=x;~⟨ob,k _ _ (.inl rfl) e⟩
 | xd fs=>A6⟨mA,⟨od,es,ep,e,c⟩,r⟩:=x;~⟨mA,⟨od,es,ep,k _ _ (.inl rfl) e,c⟩,r⟩
 | rng lo hi=>A6⟨t,u,v,e⟩:=x;~⟨t,u,v,k _ _ (.inl rfl) e⟩
 | eV ob u ih=>A6⟨e,q⟩:=x;~⟨k _ _ (.inl rfl) e,ih q⟩
 | tbl ps=>
  have e:h.get? a=some {cls:=.none,data:=.fields ps}:=x
  show h'.get? a=some {cls:=.none,data:=.fields ps}
  ~k a _ (.inl rfl) e
 | met f y=>
  have e:h.get? a=some (N3 (.ref f) (.ref y)):=x
  show h'.get? a=some (N3 (.ref f) (.ref y))
  ~k a _ (.inl rfl) e
 | ext φ=>A6⟨p,⟨o,e⟩,st⟩:=x;~⟨st _ _ p fun o q=>k _ _ (.inl rfl) q,⟨o,k _ _ (.inl rfl) e⟩,st⟩
A8 jU.lt(x:jU P w H h)(e:H a=some o):a<h.objs.size:=(x a o e).lt
A8 jU.fresh(x:jU P w H h)(e:h.objs.size≤a):H a=none:=by
 cases q:H a with
 | none=>rfl
 | some u=>~absurd (B8 (x.lt q) e) (F1 _)
A8 jU.kept(x:jU P w H h)(k:∀b u,h.get? b=some u→h'.get? b=some u):jU P w H h':=fun a o e=>
 (x a o e).stay (fun b u _ q=>k b u q) (fun _ q=>q) fun _ _ q=>q
A8 jU.laid(x:jU P w H h)(k:∀b u,h.get? b=some u→h'.get? b=some u)(hp:h.objs.size≤a)(new:bN P w (upd H a o) h' a o):jU P w (upd H a o) h':=fun b u e=>by
 have hn:=x.fresh hp
 by_cases hb:b=a
 ·subst hb;rw[aQ]at e;cases e;~new
 ·rw[aJ hb]at e
  ~(x b u e).stay (fun c v _ q=>k c v q) (fun c q=>by rw[aJ (bU q hn)];~q) fun c xs q=>by rw[aJ (bU q hn)];~q
end
def Rd(H:Hp)(a:Addr)(u:HO):Prop:=H a=some u∨∃o,H a=some (.eV o u)
A8 Rd.of{H:Hp}{a:Addr}{u:HO}(h:H a=some u):Rd H a u:=.inl h
A8 Rd.ok{P:Program}{w:World}{H:Hp}{h:Heap}{a:Addr}{u:HO}(r:Rd H a u)(x:jU P w H h):bN P w H h a u:=by
 rcases r with r | ⟨o,r⟩
 ·~x a u r
 ·A6⟨_,q⟩:=x a _ r
  ~q
def Yc:Option HO→Prop
 | some (.lst _)=>True
 | some (.dK _)=>True
 | some (.dT _)=>True
 | some (.set _ _)=>True
 | some (.ins _ _ _)=>True
 | some (.ext _)=>True
 | _=>False
section
variable{P:Program}{w:World}{H:Hp}{h h':Heap}{x e:Addr}{o':HO}
A8 jU.write(ok:jU P w H h)(mu:Yc (H x))(he:e=x∨H e=some (.own x))(k:∀b u,b≠e→h.get? b=some u→h'.get? b=some u)(heo:∃u,h'.get? e=some u)
  (new:bN P w (upd H x o') h' x o'):jU P w (upd H x o') h':=fun b u q=>by
 have Ij:∀c y,H c=some (.own y)→c≠x:=fun c y r z=>by subst z;rw[r]at mu;~mu
 have Nt:∀c xs,H c=some (.tup xs)→c≠x:=fun c xs r z=>by subst z;rw[r]at mu;~mu
 by_cases hb:b=x
 ·subst hb;rw[aQ]at q;cases q;~new
 ·rw[aJ hb]at q
  by_cases hbe:b=e
  ·have q':H b=some (.own x):=by
    rcases he with z | z
    ·~absurd (hbe.trans z) hb
    ·rw[hbe];~z
   rw[q]at q';cases q'
   A6⟨v,hv⟩:=heo
   ~⟨v,by rw[hbe];~hv⟩
  ·&(ok b u q).stay (fun c v hc r=>k c v ?_ r) (fun c r=>by rw[aJ (Ij c b r)];~r) fun c xs r=>by rw[aJ (Nt c xs r)];~r
   rcases hc with rfl | hc
   ·~hbe
   ·rintro rfl
    rcases he with z | z
    ·~Ij c b hc z
    ·rw[hc]at z;cases z;~hb rfl
end
structure Un(fs ex:List Addr)(H H':Hp)(h h':Heap):Prop where
 keep:∀b o,h.get? b=some o→H b=none→b∉fs→b∉ex→h'.get? b=some o
 slot:∀b o,h.get? b=some o→H b=none→b∈fs→b∉ex→∃sl,h'.get? b=some {o with slots:=sl}
 free:∀b o,h.get? b=some o→H b=none→b∉ex→H' b=none
 there:∀b o,h.get? b=some o→b∉ex→∃o',h'.get? b=some o'
 tups:∀b xs,H b=some (.tup xs)→H' b=some (.tup xs)
 tU:∀b o u,H b=some (.eV o u)→H' b=some (.eV o u)
 vL:∀b ps,H b=some (.tbl ps)→∃more,H' b=some (.tbl (ps++more))
section
variable{fs fs' ex ex':List Addr}{H H1 H2:Hp}{h h1 h2 h':Heap}{a x e:Addr}{o:HO}
A8 Un.any(u:Un fs ex H H1 h h1){b:Addr}{ob:Obj}(q:h.get? b=some ob)(n:H b=none)(hx:b∉ex):∃sl,h1.get? b=some {ob with slots:=sl}:=by
 by_cases hb:b∈fs
 ·~u.slot b ob q n hb hx
 ·~⟨ob.slots,u.keep b ob q n hb hx⟩
A8 Un.kept(k:∀b u,h.get? b=some u→h'.get? b=some u):Un fs ex H H h h':=
 ⟨fun b ob q _ _ _=>k b ob q,fun b ob q _ _ _=>⟨ob.slots,k b ob q⟩,fun _ _ _ n _=>n,fun b ob q _=>⟨ob,k b ob q⟩,fun _ _ q=>q,fun _ _ _ q=>q,fun _ ps q=>⟨#[],by rw[q];simp⟩⟩
A8 Un.refl:Un fs ex H H h h:=Un.kept fun _ _ q=>q
A8 Un.laid(k:∀b u,h.get? b=some u→h'.get? b=some u)(hp:h.objs.size≤a)(hn:H a=none):Un fs ex H (upd H a o) h h' where
 keep:=fun b u q _ _ _=>k b u q
 slot:=fun b u q _ _ _=>⟨u.slots,k b u q⟩
 free:=fun b u q n _=>by rw[aJ (C3 (B8 (Heap.lt_size q) hp))];~n
 there:=fun b u q _=>⟨u,k b u q⟩
 tups:=fun b xs q=>by rw[aJ (bU q hn)];~q
 tU:=fun b u xs q=>by rw[aJ (bU q hn)];~q
 vL:=fun b ps q=>⟨#[],by rw[aJ (bU q hn),q];simp⟩
A8 Un.write(mu:Yc (H x))(he:e=x∨H e=some (.own x))(k:∀b u,b≠e→h.get? b=some u→h'.get? b=some u)(heo:∃u,h'.get? e=some u):Un fs ex H (upd H x o) h h':=by
 have hx:∀b,H b=none→b≠x:=fun b n z=>by subst z;rw[n]at mu;~mu
 have hb:∀b,H b=none→b≠e:=fun b n z=>by
  subst z
  rcases he with r | r
  ·~hx b n r
  ·rw[n]at r;cases r
 have hm:∀b u,H b=some u→¬Yc (some u)→b≠x:=fun b u q nm z=>by subst z;rw[q]at mu;~nm mu
 &⟨fun b u q n _ _=>k b u (hb b n) q,fun b u q n _ _=>⟨u.slots,k b u (hb b n) q⟩,fun b u q n _=>by rw[aJ (hx b n)];~n,fun b u q _=>?_,
  fun b xs q=>by rw[aJ (hm b _ q fun z=>z)];~q,fun b u xs q=>by rw[aJ (hm b _ q fun z=>z)];~q,fun b ps q=>⟨#[],by rw[aJ (hm b _ q fun z=>z),q];simp⟩⟩
 by_cases hbe:b=e
 ·subst hbe;~heo
 ·~⟨u,k b u hbe q⟩
end
def DQ(h:Heap)(H:Hp):List Addr:=(D6 h.objs.size).filter fun a=>(H a).isSome
def vM(h:Heap)(H:Hp):Heap:=S9 h (DQ h H)
A8 Fx(h:Heap)(H:Hp):(vM h H).objs.size=h.objs.size:=PySem.W.hideAll_size _ _
A8 Ik{h:Heap}{H:Hp}{b:Addr}{o:Obj}(e:h.get? b=some o)(n:H b=none):(vM h H).get? b=some o:=
 PySem.W.hideAll_get _ e fun hm=>by
  have q:(H b).isSome=true:=(J5.mp hm).2
  rw[n]at q;simp at q
A8 Nu{h:Heap}{H:Hp}{b:Addr}{o:Obj}(e:(vM h H).get? b=some o):h.get? b=some o∧H b=none:=by
 have e':h.get? b=some o:=PySem.W.of_hideAll (DQ h H) e
 &⟨e',?_⟩
 cases q:H b with
 | none=>rfl
 | some x=>
  have hm:b∈DQ h H:=J5.mpr ⟨J3.mpr (Heap.lt_size e'),by simp[q]⟩
  have z:(vM h H).get? b=none:=PySem.W.hideAll_none (DQ h H) hm
  rw[z]at e;cases e
def Nv(g h:Heap)(L:Addr):List (Addr×Obj):=(D6 h.objs.size).filterMap fun a=>if a=L∨(g.get? a).isSome=true then none else(h.get? a).map fun o=>(a,o)
def rest(g h:Heap)(L d:Addr):List (Addr×Obj):=(Nv g h L).filter fun p=>decide (p.1≠d)
end L2
namespace L2
open PySem PySem.Spec PyProof.Rows
structure Mod(K:aA)(mg:Str→Option Value)(base:Heap):Prop where
 HF:K.In base
 glob:base.Ns mainGlobals mg
 blt:∃mb,base.Ns builtinsNs mb∧∀x:Str,x ≠ "__name__" → mb x=bootBuiltins x
 nolimit:base.NoLimit
structure Cx where
 prog:Program
 w:World
 K:aA
 mg:Str→Option Value
 base:Heap
 A:Around
 N:List Str
 s₀:Shared
 H₀:Hp
 env:Env
 outer:List Env
 stack:List Env
 ex:List Addr
 fn:Str→Bool
 calm:Bool
 pn:List (Addr×Obj)
 xe:Value→Shared→Prop
def frs(l:List Env):List Addr:=l.filterMap (·.frame)
abbrev Cx.fs(X:Cx):List Addr:=frs X.outer
def DR(sc:Scope)(x:Str):Prop:=sc.names.lookup x=some .local∨sc.names.lookup x=some .cell∨sc.names.lookup x=some .free
def Loc(sc:Scope)(x:Str):Prop:=sc.names.lookup x=some .local∨sc.names.lookup x=some .cell
def Look(env:Env)(h:Heap)(m:Str→Option Value)(x:Str)(u:Value):Prop:=
 (env.kindOf x=some .local∧m x=some u)∨((env.kindOf x=some .cell∨env.kindOf x=some .free)∧∃c,env.cells.lookup x=some c∧h.IsCell c (some u))
structure Cx.Ok(X:Cx):Prop where
 mod:Mod X.K X.mg X.base
 kind:X.env.scope.kind=.function
 glob:X.env.globals=mainGlobals
 blt:X.env.builtins=builtinsNs
 above:X.s₀.heap.objs.size≤X.env.locals
 inj:∀x y c,X.env.cells.lookup x=some c→X.env.cells.lookup y=some c→x=y
 has:∀x,(X.env.kindOf x=some .cell∨X.env.kindOf x=some .free)→∃c,X.env.cells.lookup x=some c
 cab:∀x c,X.fn x=true→X.env.cells.lookup x=some c→X.s₀.heap.objs.size≤c
 hd:X.calm=true→X.A.handled=none
 frames:X.A.frames=some X.stack
 DW:X.stack=X.outer∨(X.stack=X.env::X.outer∧X.env.frame=some X.env.locals)
 LK:∀b∈X.ex,b≠X.env.locals∧∀x c,X.env.cells.lookup x=some c→c≠b
 bs:∀b o,X.base.get? b=some o→X.s₀.heap.get? b=some o∧X.H₀ b=none
 Rn:X.base.objs.size≤X.s₀.heap.objs.size
 Il:∀b o,X.base.get? b=some o→b∉X.ex
 Nx:∀b∈X.ex,b∉X.fs
 pW:X.s₀.heap.FunFrames X.base X.outer
 Yd:∀b∈X.fs,X.H₀ b=none
structure Inv(X:Cx)(pins:List (Addr×Obj))(σ:List (Option V))(H:Hp)(s:Shared):Prop where
 ok:X.Ok
 os:s.os=X.s₀.os
 bare:AllBare s.gens
 base:Un X.fs X.ex X.H₀ H X.s₀.heap s.heap
 loc:∃m,s.heap.Ns X.env.locals m∧∀(i:Nat)(x:Str)(v:V),X.N[i]?=some x→σ[i]?=some (some v)→DR X.env.scope x→∃u,RelV v u∧Look X.env s.heap m x u
 cell:∀x c,X.env.cells.lookup x=some c→∃v,s.heap.IsCell c v
 free:H X.env.locals=none
 gK:∀x c,X.env.cells.lookup x=some c→H c=none
 pin:∀p∈X.pn++pins,s.heap.get? p.1=some p.2∧H p.1=none∧p.1≠X.env.locals∧p.1∉X.fs∧∀v,p.2.data≠.cell v
 hok:jU X.prog X.w H s.heap
 len:σ.length=X.N.length
section
variable{X:Cx}{pins:List (Addr×Obj)}{σ:List (Option V)}{H H':Hp}{s:Shared}{h':Heap}
A8 Cx.Ok.HH(ok:X.Ok){b:Addr}{o:Obj}(e:X.base.get? b=some o):b∉X.fs:=fun hb=>by
 have:=(ok.pW.mem hb).1
 rw[e]at this;cases this
A8 Inv.bs(I:Inv X pins σ H s):∀b o,X.base.get? b=some o→s.heap.get? b=some o∧H b=none:=fun b o e=>
 ⟨I.base.keep b o (I.ok.bs b o e).1 (I.ok.bs b o e).2 (I.ok.HH e) (I.ok.Il b o e),I.base.free b o (I.ok.bs b o e).1 (I.ok.bs b o e).2 (I.ok.Il b o e)⟩
A8 Inv.bk(I:Inv X pins σ H s):∀b o,X.base.get? b=some o→s.heap.get? b=some o:=fun b o e=>(I.bs b o e).1
A8 Inv.mod(I:Inv X pins σ H s):Mod X.K X.mg X.base:=I.ok.mod
A8 Inv.vN(I:Inv X pins σ H s):X.K.In s.heap:=I.ok.mod.HF.keeps I.bk
A8 Inv.lt(I:Inv X pins σ H s):X.env.locals<s.heap.objs.size:=let ⟨_,hn,_⟩:=I.loc;hn.lt
A8 Inv.sz(I:Inv X pins σ H s):X.s₀.heap.objs.size≤s.heap.objs.size:=E7 I.ok.above (J4 I.lt)
A8 Inv.HJ(I:Inv X pins σ H s){a:Addr}(h:s.heap.objs.size≤a):a∉X.fs:=fun hb=>by
 A6⟨_,o,ho,_⟩:=I.ok.pW.mem hb
 ~absurd (B8 (Heap.lt_size ho) (E7 I.sz h)) (F1 _)
A8 Inv.Ni(I:Inv X pins σ H s):∀x c,X.env.cells.lookup x=some c→c≠X.env.locals:=fun x c e z=>by
 A6⟨v,o,ho,hd⟩:=I.cell x c e
 A6⟨m,⟨o',es,ep,ho',hd',_⟩,_⟩:=I.loc
 rw[z,ho']at ho;cases ho;rw[hd']at hd;cases hd
A8 Inv.pW(I:Inv X pins σ H s):s.heap.FunFrames X.base X.outer:=by
 have all:∀(l:List Env),(∀b∈frs l,b∈X.fs)→X.s₀.heap.FunFrames X.base l→s.heap.FunFrames X.base l:=by
  intro l
  induction l with
  | nil=>intro _ _;trivial
  | cons env r ih=>
   intro hs hl
   A6⟨hk,⟨L,o,hf,hn,ho,hd⟩,hr⟩:=hl
   have hL:L∈X.fs:=hs L (by A7 frs;rw[M6,hf];~C9)
   A6⟨sl,e⟩:=I.base.slot L o ho (I.ok.Yd L hL) hL fun z=>I.ok.Nx L z hL
   ~⟨hk,⟨L,_,hf,hn,e,hd⟩,ih (fun b hb=>hs b (by A7 frs;rw[M6,hf];~C5 _ hb)) hr⟩
 ~all X.outer (fun _ hb=>hb) I.ok.pW
A8 Inv.stack(I:Inv X pins σ H s):s.heap.FunFrames X.base X.stack:=by
 rcases I.ok.DW with e | ⟨e,hf⟩
 ·rw[e];~I.pW
 ·rw[e]
  A6⟨m,hn,_⟩:=I.loc
  &.cons (by rw[I.ok.kind];decide) hf hn ?_ I.pW
  ~Heap.get?_none_of_le (E7 I.ok.Rn I.ok.above)
A8 Inv.vO(I:Inv X pins σ H s):∀b∈frs X.stack,b∈X.env.locals::X.fs:=fun b hb=>by
 rcases I.ok.DW with e | ⟨e,hf⟩
 ·rw[e]at hb;~C5 _ hb
 ·rw[e]at hb
  A7 frs at hb
  rw[M6,hf]at hb
  ~hb
A8 Inv.Dc(I:Inv X pins σ H s):∀b∈frs X.stack,H b=none:=fun b hb=>by
 rcases E3.mp (I.vO b hb)with e | hb
 ·rw[e];~I.free
 ·A6⟨_,o,ho,_⟩:=I.ok.pW.mem hb
  ~I.base.free b o ho (I.ok.Yd b hb) fun z=>I.ok.Nx b z hb
A8 Inv.step{g':Array GenState}{t':Nat}{d':Drawn}{ch:List Addr}(I:Inv X pins σ H s)
  (hch:∀b∈ch,(b∈X.ex∨X.s₀.heap.objs.size≤b)∧b≠X.env.locals∧(∀x c,X.env.cells.lookup x=some c→c≠b)∧∀p∈X.pn++pins,p.1≠b)
  (keep:∀b o,b≠X.env.locals→b∉X.fs→b∉ch→s.heap.get? b=some o→H b=none→h'.get? b=some o)
  (slot:∀b o,b≠X.env.locals→b∈X.fs→b∉ch→s.heap.get? b=some o→H b=none→∃sl,h'.get? b=some {o with slots:=sl}) (free:∀b o,b∉ch→s.heap.get? b=some o→H b=none→H' b=none)
  (there:∀b o,b∉ch→s.heap.get? b=some o→∃o',h'.get? b=some o')
  (tups:∀b xs,H b=some (.tup xs)→H' b=some (.tup xs)) (tU:∀b o u,H b=some (.eV o u)→H' b=some (.eV o u)) (vL:∀b ps,H b=some (.tbl ps)→∃more,H' b=some (.tbl (ps++more)))
  (ns:∀m,s.heap.Ns X.env.locals m→h'.Ns X.env.locals m) (hok:jU X.prog X.w H' h') (hg:AllBare g') :
  Inv X pins σ H' {s with heap:=h',gens:=g',drawn:=d',toks:=t'}:=by
 have LQ:∀b o,X.s₀.heap.get? b=some o→b≠X.env.locals:=fun b o e=>C3 (B8 (Heap.lt_size e) I.ok.above)
 have Ye:∀b o,X.s₀.heap.get? b=some o→b∉X.ex→b∉ch:=fun b o e hx hb=>by
  rcases(hch b hb).1 with z | z
  ·~hx z
  ·~absurd (B8 (Heap.lt_size e) z) (F1 _)
 have cellK:∀x c,X.env.cells.lookup x=some c→∀v,s.heap.IsCell c v→h'.IsCell c v:=fun x c e v ⟨o,ho,hd⟩=>by
  have Ym:c∉ch:=fun z=>(hch c z).2.2.1 x c e rfl
  by_cases hc:c∈X.fs
  ·A6⟨sl,q⟩:=slot c o (I.Ni x c e) hc Ym ho (I.gK x c e)
   ~⟨_,q,hd⟩
  ·~⟨o,keep c o (I.Ni x c e) hc Ym ho (I.gK x c e),hd⟩
 &⟨I.ok,I.os,hg,⟨fun b o e n hb hx=>?_,fun b o e n hb hx=>?_,fun b o e n hx=>?_,fun b o e hx=>?_,fun b xs e=>tups b xs (I.base.tups b xs e),fun b o xs e=>tU b o xs (I.base.tU b o xs e),fun b ps e=>?_⟩,?_,fun x c e=>?_,?_,fun x c e=>?_,fun p hp=>?_,hok,I.len⟩
 ·~keep b o (LQ b o e) hb (Ye b o e hx) (I.base.keep b o e n hb hx) (I.base.free b o e n hx)
 ·A6⟨sl,e1⟩:=I.base.slot b o e n hb hx
  A6⟨sl',e2⟩:=slot b _ (LQ b o e) hb (Ye b o e hx) e1 (I.base.free b o e n hx)
  ~⟨sl',e2⟩
 ·A6⟨o',e1⟩:=I.base.there b o e hx
  ~free b o' (Ye b o e hx) e1 (I.base.free b o e n hx)
 ·A6⟨o',e1⟩:=I.base.there b o e hx
  ~there b o' (Ye b o e hx) e1
 ·A6⟨m1,e1⟩:=I.base.vL b ps e
  A6⟨m2,e2⟩:=vL b _ e1
  ~⟨m1++m2,by rw[e2,Array.append_assoc]⟩
 ·A6⟨m,hn,hl⟩:=I.loc
  &⟨m,ns m hn,fun i x v e1 e2 e3=>?_⟩
  A6⟨u,r,l⟩:=hl i x v e1 e2 e3
  &⟨u,r,?_⟩
  rcases l with l | ⟨k,c,e,z⟩
  ·~.inl l
  ·~.inr ⟨k,c,e,cellK x c e _ z⟩
 ·A6⟨v,z⟩:=I.cell x c e
  ~⟨v,cellK x c e v z⟩
 ·A6⟨m,⟨o,_,_,ho,_⟩,_⟩:=I.loc
  ~free _ o (fun z=>(hch _ z).2.1 rfl) ho I.free
 ·A6⟨v,o,ho,hd⟩:=I.cell x c e
  ~free c o (fun z=>(hch c z).2.2.1 x c e rfl) ho (I.gK x c e)
 ·A6⟨e,n,ne,nf,d⟩:=I.pin p hp
  have Ym:p.1∉ch:=fun z=>(hch p.1 z).2.2.2 p hp rfl
  ~⟨keep p.1 p.2 ne nf Ym e n,free p.1 p.2 Ym e n,ne,nf,d⟩
A8 Inv.un{t':Nat}(I:Inv X pins σ H s)(u:Un X.fs [] H H' s.heap h')(hok:jU X.prog X.w H' h'):Inv X pins σ H' {s with heap:=h',toks:=t'}:=by
 A6⟨m,⟨o,es,ep,ho,r⟩,_⟩:=id I.loc
 A6⟨sl,hL⟩:=u.any ho I.free (by simp)
 ~I.step (g':=s.gens) (d':=s.drawn) (ch:=[]) (fun _ z=>nomatch z) (fun b o _ hb _ e n=>u.keep b o e n hb (by simp)) (fun b o _ hb _ e n=>u.slot b o e n hb (by simp)) (fun b o _ e n=>u.free b o e n (by simp)) (fun b o _ e=>u.there b o e (by simp)) u.tups u.tU u.vL (fun m' hm=>by
  A6⟨o',es',ep',ho',r'⟩:=hm
  rw[ho]at ho';cases ho'
  ~⟨_,es',ep',hL,r'⟩) hok I.bare
A8 Inv.call{g':Array GenState}{t':Nat}{d':Drawn}{ch:List Addr}(I:Inv X pins σ H s)(u:Un (frs X.stack) ch H H' s.heap h')(hok:jU X.prog X.w H' h')(hg:AllBare g')
  (hch:∀b∈ch,(b∈X.ex∨X.s₀.heap.objs.size≤b)∧b≠X.env.locals∧(∀x c,X.env.cells.lookup x=some c→c≠b)∧∀p∈X.pn++pins,p.1≠b) :
  Inv X pins σ H' {s with heap:=h',gens:=g',drawn:=d',toks:=t'}:=by
 A6⟨m,⟨o,es,ep,ho,r⟩,_⟩:=id I.loc
 A6⟨sl,hL⟩:=u.any ho I.free fun z=>(hch _ z).2.1 rfl
 ~I.step (ch:=ch) hch (fun b o hL hb hc e n=>u.keep b o e n (fun z=>(E3.mp (I.vO b z)).elim hL hb) hc) (fun b o _ _ hc e n=>u.any e n hc) (fun b o hc e n=>u.free b o e n hc) (fun b o hc e=>u.there b o e hc) u.tups u.tU u.vL (fun m' hm=>by
  A6⟨o',es',ep',ho',r'⟩:=hm
  rw[ho]at ho';cases ho'
  ~⟨_,es',ep',hL,r'⟩) hok hg
A8 Inv.turned{t':Nat}{it:Addr}(I:Inv X pins σ H s)(k:∀b o,b≠it→s.heap.get? b=some o→h'.get? b=some o)(hn:H it=none)(hL:it≠X.env.locals)
  (h1:it∈X.ex∨X.s₀.heap.objs.size≤it) (h2:∀x c,X.env.cells.lookup x=some c→c≠it) (h3:∀p∈X.pn++pins,p.1≠it):Inv X pins σ H {s with heap:=h',toks:=t'}:=by
 have LR:∀b u,H b=some u→b≠it:=fun b u e z=>by rw[z,hn]at e;cases e
 &I.step (g':=s.gens) (d':=s.drawn) (ch:=[it]) (fun b hb=>?_) (fun b o _ _ hc e _=>k b o (fun z=>hc (by simp[z])) e) (fun b o _ _ hc e _=>⟨o.slots,k b o (fun z=>hc (by simp[z])) e⟩) (fun _ _ _ _ n=>n)
  (fun b o hc e=>⟨o,k b o (fun z=>hc (by simp[z])) e⟩) (fun _ _ e=>e) (fun _ _ _ e=>e) (fun b ps e=>⟨#[],by rw[e];simp⟩) (fun m hm=>?_) (fun b u e=>?_) I.bare
 ·have e:b=it:=by simpa using hb
  subst e
  ~⟨h1,hL,h2,h3⟩
 ·A6⟨o,es,ep,ho,r⟩:=hm
  ~⟨o,es,ep,k _ o (Ne.symm hL) ho,r⟩
 ·&(I.hok b u e).stay (fun c v hc q=>k c v ?_ q) (fun _ q=>q) fun _ _ q=>q
  rcases hc with z | z
  ·rw[z];~LR b u e
  ·~LR c _ z
A8 Inv.tok(I:Inv X pins σ H s)(t:Nat):Inv X pins σ H {s with toks:=t}:=I.un (h':=s.heap) (t':=t) Un.refl I.hok
A8 Inv.kept{t':Nat}(I:Inv X pins σ H s)(k:∀b u,s.heap.get? b=some u→h'.get? b=some u):Inv X pins σ H {s with heap:=h',toks:=t'}:=I.un (Un.kept k) (I.hok.kept k)
A8 Inv.laid{a:Addr}{o:HO}{t':Nat}(I:Inv X pins σ H s)(k:∀b u,s.heap.get? b=some u→h'.get? b=some u)(hp:s.heap.objs.size≤a)(new:bN X.prog X.w (upd H a o) h' a o) :
  Inv X pins σ (upd H a o) {s with heap:=h',toks:=t'}:=I.un (Un.laid k hp (I.hok.fresh hp)) (I.hok.laid k hp new)
A8 Inv.write{x e:Addr}{o:HO}{t':Nat}(I:Inv X pins σ H s)(mu:Yc (H x))(he:e=x∨H e=some (.own x))(k:∀b u,b≠e→s.heap.get? b=some u→h'.get? b=some u)(heo:∃u,h'.get? e=some u)
  (new:bN X.prog X.w (upd H x o) h' x o):Inv X pins σ (upd H x o) {s with heap:=h',toks:=t'}:=I.un (Un.write mu he k heo) (I.hok.write mu he k heo new)
A8 Inv.weak{σ':List (Option V)}(I:Inv X pins σ H s)(hl:σ'.length=σ.length)(w:∀(i:Nat) v,σ'[i]?=some (some v)→σ[i]?=some (some v)):Inv X pins σ' H s:=
 ⟨I.ok,I.os,I.bare,I.base,let ⟨m,hn,hl'⟩:=I.loc;⟨m,hn,fun i x v e1 e2 e3=>hl' i x v e1 (w i v e2) e3⟩,I.cell,I.free,I.gK,I.pin,I.hok,hl.trans I.len⟩
A8 Inv.Dd{Im:List (Addr×Obj)}(I:Inv X pins σ H s)(h:∀p∈Im,s.heap.get? p.1=some p.2∧H p.1=none∧p.1≠X.env.locals∧p.1∉X.fs∧∀v,p.2.data≠.cell v):Inv X Im σ H s:=
 ⟨I.ok,I.os,I.bare,I.base,I.loc,I.cell,I.free,I.gK,fun p hp=>(E4.mp hp).elim (fun z=>I.pin p (G5 _ z)) (h p),I.hok,I.len⟩
A8 xU{N:List Str}(hN:N.Nodup){i j:Nat}{x:Str}(a:N[i]?=some x)(b:N[j]?=some x):i=j:=by
 A6⟨h1,e1⟩:=B9.mp a
 A6⟨h2,e2⟩:=B9.mp b
 ~(List.getElem_inj hN).mp (e1.trans e2.symm)
A8 uF{M:Model}{A:Around}{E:Value→Shared→Prop}{i:Nat}{x:Str}{v:V}{u:Value}{Q:Unit→Shared→Prop}(I:Inv X pins σ H s)(hN:X.N.Nodup)(hi:X.N[i]?=some x)(hx:Loc X.env.scope x)(r:RelV v u)
  (h:∀s',Inv X pins (σ.set i (some v)) H s'→(∃a,Heap.SameBut a s.heap s'.heap∧(a=X.env.locals∨X.env.cells.lookup x=some a))→Q () s') (hf:X.fn x=true∨X.env.scope.names.lookup x=some .local:=by first | ~.inl rfl | ~.inr rfl | assumption):wpAny M A (storeName X.env x u) Q E s:=by
 A6⟨m,hn,hl⟩:=id I.loc
 have hcls:(X.env.scope.kind==.class||(X.env.scope.kind==.module&&X.env.locals != X.env.globals))=false:=by rw[I.ok.kind];rfl
 have MF:i<σ.length:=by rw[I.len];~(B9.mp hi).1
 have Ni:=I.Ni
 have tracked:∀{a:Addr} {h':Heap},(∃o,s.heap.get? a=some o∧H a=none)→Heap.SameBut a s.heap h'→jU X.prog X.w H h':=fun{a h'} ha hs b ob e=>by
  A6⟨_,_,hfree⟩:=ha
  &(I.hok b ob e).stay (fun c w' hc q=>(hs.2 c ?_).trans q) (fun _ q=>q) fun _ _ q=>q
  rintro rfl
  rcases hc with rfl | hc
  ·rw[hfree]at e;cases e
  ·rw[hfree]at hc;cases hc
 rcases hx with hk | hk
 ·&wpAny_storeName_local hk hn (fun h' hn' hs=>?_) hcls
  A6⟨oL,_,_,hoL,_⟩:=id hn
  &h _ ⟨I.ok,I.os,I.bare,⟨fun b o e n hb hx=>?_,fun b o e n hb hx=>?_,I.base.free,fun b o e hx=>?_,I.base.tups,I.base.tU,I.base.vL⟩,⟨_,hn',fun j y v' e1 e2 e3=>?_⟩,fun y c e=>?_,I.free,I.gK,fun p hp=>?_,tracked ⟨oL,hoL,I.free⟩ hs,by simpa using I.len⟩ ⟨_,hs,.inl rfl⟩
  ·~(hs.2 b (C3 (B8 (Heap.lt_size e) I.ok.above))).trans (I.base.keep b o e n hb hx)
  ·A6⟨sl,e1⟩:=I.base.slot b o e n hb hx
   ~⟨sl,(hs.2 b (C3 (B8 (Heap.lt_size e) I.ok.above))).trans e1⟩
  ·A6⟨o',e1⟩:=I.base.there b o e hx
   ~⟨o',(hs.2 b (C3 (B8 (Heap.lt_size e) I.ok.above))).trans e1⟩
  ·by_cases hj:j=i
   ·subst hj
    rw[hi]at e1;cases e1
    rw[P4 MF]at e2
    cases e2
    ~⟨u,r,.inl ⟨hk,by simp⟩⟩
   ·rw[Q4 (Ne.symm hj)]at e2
    A6⟨u',r',q⟩:=hl j y v' e1 e2 e3
    &⟨u',r',?_⟩
    rcases q with ⟨k,e⟩ | ⟨k,c,e,z⟩
    ·&.inl ⟨k,?_⟩
     have:y≠x:=fun e=>hj (xU hN e1 (e▸hi))
     simp[this,e]
    ·~.inr ⟨k,c,e,z.sameBut hs (Ni y c e)⟩
  ·A6⟨w',z⟩:=I.cell y c e
   ~⟨w',z.sameBut hs (Ni y c e)⟩
  ·A6⟨e,n,ne,nf,d⟩:=I.pin p hp
   ~⟨(hs.2 p.1 ne).trans e,n,ne,nf,d⟩
 ·have hfn:X.fn x=true:=by
   rcases hf with z | z
   ·~z
   ·rw[z]at hk;cases hk
  A6⟨c,hc⟩:=I.ok.has x (.inl hk)
  A6⟨w',z⟩:=I.cell x c hc
  &wpAny_storeName_cell I.ok.kind hk hc z (fun h' hc' hs=>?_)
  A6⟨oc,hoc,HN⟩:=id z
  &h {s with heap:=h'} ⟨I.ok,I.os,I.bare,⟨fun b o e n hb hx=>?_,fun b o e n hb hx=>?_,I.base.free,fun b o e hx=>?_,I.base.tups,I.base.tU,I.base.vL⟩,⟨m,hn.sameBut hs (Ne.symm (Ni x c hc)),fun j y v' e1 e2 e3=>?_⟩,fun y c' e=>?_,I.free,I.gK,fun p hp=>?_,tracked ⟨oc,hoc,I.gK x c hc⟩ hs,by simpa using I.len⟩ ⟨c,hs,.inr hc⟩
  ·~(hs.2 b (C3 (B8 (Heap.lt_size e) (I.ok.cab x c hfn hc)))).trans (I.base.keep b o e n hb hx)
  ·A6⟨sl,e1⟩:=I.base.slot b o e n hb hx
   ~⟨sl,(hs.2 b (C3 (B8 (Heap.lt_size e) (I.ok.cab x c hfn hc)))).trans e1⟩
  ·A6⟨o',e1⟩:=I.base.there b o e hx
   ~⟨o',(hs.2 b (C3 (B8 (Heap.lt_size e) (I.ok.cab x c hfn hc)))).trans e1⟩
  ·by_cases hj:j=i
   ·subst hj
    rw[hi]at e1;cases e1
    rw[P4 MF]at e2
    cases e2
    ~⟨u,r,.inr ⟨.inl hk,c,hc,hc'⟩⟩
   ·rw[Q4 (Ne.symm hj)]at e2
    A6⟨u',r',q⟩:=hl j y v' e1 e2 e3
    &⟨u',r',?_⟩
    rcases q with q | ⟨k,c',e,z'⟩
    ·~.inl q
    ·&.inr ⟨k,c',e,z'.sameBut hs ?_⟩
     rintro rfl
     ~hj (xU hN e1 (I.ok.inj _ _ _ e hc▸hi))
  ·by_cases hcc:c'=c
   ·subst hcc;~⟨_,hc'⟩
   ·A6⟨w2,z2⟩:=I.cell y c' e
    ~⟨w2,z2.sameBut hs hcc⟩
  ·A6⟨e,n,ne,nf,d⟩:=I.pin p hp
   &⟨(hs.2 p.1 ?_).trans e,n,ne,nf,d⟩
   intro q
   rw[q,hoc]at e
   have q':oc=p.2:=D9 e
   ~d w' (by rw[←q'];~HN)
A8 xV{M:Model}{A:Around}{E:Value→Shared→Prop}{i:Nat}{x:Str}{v:V}{u:Value}{Q:Unit→Shared→Prop}(I:Inv X pins σ H s)(hN:X.N.Nodup)(hi:X.N[i]?=some x)(hx:Loc X.env.scope x)(r:RelV v u)
  (h:∀s',Inv X pins (σ.set i (some v)) H s'→Q () s') (hf:X.fn x=true∨X.env.scope.names.lookup x=some .local:=by first | ~.inl rfl | ~.inr rfl | assumption):wpAny M A (storeName X.env x u) Q E s:=
 uF I hN hi hx r (fun s' I' _=>h s' I') hf
A8 Inv.call'{s':Shared}{ch:List Addr}(I:Inv X pins σ H s)(ho:s'.os=s.os)(u:Un (frs X.stack) ch H H' s.heap s'.heap)(hok:jU X.prog X.w H' s'.heap)(hg:AllBare s'.gens)
  (hch:∀b∈ch,(b∈X.ex∨X.s₀.heap.objs.size≤b)∧b≠X.env.locals∧(∀x c,X.env.cells.lookup x=some c→c≠b)∧∀p∈X.pn++pins,p.1≠b):Inv X pins σ H' s':=by
 A6⟨h',g',d',t',o'⟩:=s'
 have e:o'=s.os:=ho
 subst e
 ~I.call (g':=g') (t':=t') (d':=d') u hok hg hch
end
abbrev XK:=Value→Option Addr→Hp→Prop
abbrev St:=List (Option V)
abbrev VK:=V→Hp→Prop
abbrev TE:=St→Hp→VK→Prop
abbrev TT:=St→Hp→(Bool→Hp→Prop)→Prop
abbrev TA:=St→Hp→(List V→Hp→Prop)→Prop
structure Ends where
 nx:St→Hp→Prop
 rt:VK
 bk:St→Hp→Prop:=fun _ _=>False
 ct:St→Hp→Prop:=fun _ _=>False
abbrev TS:=Ends→St→Hp→Prop
def EP(X:Cx)(pins:List (Addr×Obj))(σ:St)(Q:VK)(u:Value)(s':Shared):Prop:=∃v H',Inv X pins σ H' s'∧RelV v u∧Q v H'
def TP(X:Cx)(pins:List (Addr×Obj))(σ:St)(Q:Bool→Hp→Prop)(b:Bool)(s':Shared):Prop:=∃H',Inv X pins σ H' s'∧Q b H'
def AP(X:Cx)(pins:List (Addr×Obj))(σ:St)(Q:List V→Hp→Prop)(us:List Value)(s':Shared):Prop:=∃vs H',Inv X pins σ H' s'∧Vals vs us∧Q vs H'
def SP(X:Cx)(pins:List (Addr×Obj))(D:Ends)(f:Flow)(s':Shared):Prop:=
 match f with
 | .next=>∃σ' H',Inv X pins σ' H' s'∧D.nx σ' H'
 | .brk=>∃σ' H',Inv X pins σ' H' s'∧D.bk σ' H'
 | .cont=>∃σ' H',Inv X pins σ' H' s'∧D.ct σ' H'
 | .ret u=>∃v σ' H',Inv X pins σ' H' s'∧RelV v u∧D.rt v H'
def PE(X:Cx)(e:Expr)(t:TE):Prop:=
 ∀(pins:List (Addr×Obj))(s:Shared)(σ:St)(H:Hp)(Q:VK),Inv X pins σ H s→t σ H Q→wpAny (model X.prog X.w) X.A (eval e X.env) (EP X pins σ Q) X.xe s
def PT(X:Cx)(e:Expr)(t:TT):Prop:=
 ∀(pins:List (Addr×Obj))(s:Shared)(σ:St)(H:Hp)(Q:Bool→Hp→Prop),Inv X pins σ H s→t σ H Q→wpAny (model X.prog X.w) X.A (isTrue e X.env (eval e X.env)) (TP X pins σ Q) X.xe s
def PW(X:Cx)(e:Expr)(t:TT):Prop:=
 ∀(whole:Sem Value)(pins:List (Addr×Obj))(s:Shared)(σ:St)(H:Hp)(Q:Bool→Hp→Prop),Inv X pins σ H s→t σ H Q→wpAny (model X.prog X.w) X.A (isTrue e X.env whole) (TP X pins σ Q) X.xe s
A8 PW.pt{X:Cx}{e:Expr}{t:TT}(h:PW X e t):PT X e t:=h _
def PA(X:Cx)(es:List Expr)(t:TA):Prop:=
 ∀(pos:Pos)(pins:List (Addr×Obj))(s:Shared)(σ:St)(H:Hp)(Q:List V→Hp→Prop),Inv X pins σ H s→t σ H Q→wpAny (model X.prog X.w) X.A (spliced (backTo pos (starEach es X.env))) (AP X pins σ Q) X.xe s
def PS(X:Cx)(st:Stmt)(t:TS):Prop:=
 ∀(pins:List (Addr×Obj))(s:Shared)(σ:St)(H:Hp)(D:Ends),Inv X pins σ H s→t D σ H→wpAny (model X.prog X.w) X.A (exec st X.env) (SP X pins D) X.xe s
def Af(X:Cx)(st:List Stmt)(t:TS):Prop:=
 ∀(pins:List (Addr×Obj))(s:Shared)(σ:St)(H:Hp)(D:Ends),Inv X pins σ H s→t D σ H→wpAny (model X.prog X.w) X.A (execs st X.env) (SP X pins D) X.xe s
A8 cG{α:Type}{t:Sem α}{Q Q':α→Shared→Prop}{M:Model}{A:Around}{E:Value→Shared→Prop}{s:Shared}(h:wpAny M A t Q E s)(hQ:∀a s,Q a s→Q' a s):wpAny M A t Q' E s:=wpAny_mono h hQ fun _ _ x=>x
end L2
namespace L2
open PySem PySem.Spec PyProof.Rows
section
variable{X:Cx}
def tV(i:Nat):TE:=fun σ H Q=>∃v,σ[i]?=some (some v)∧Q v H
def tC(v:V):TE:=fun _ H Q=>Q v H
A8 Tz{i:Nat}{x:Str}{pos:Pos}(hN:X.N[i]?=some x)(hv:DR X.env.scope x)(hd:(x==("__debug__" : Str))=false:=by decide) (hcd:(x==("__classdict__" : Str))=false:=by decide):PE X (.Name x pos) (tV i):=by
  intro pins s σ H Q I h
  A6⟨v,e,h⟩:=h
  A6⟨m,hn,hl⟩:=I.loc
  A6⟨u,r,l⟩:=hl i x v hN e hv
  have fin:EP X pins σ Q u s:=⟨v,H,I,r,h⟩
  rcases l with ⟨hk,hm⟩ | ⟨hk,c,hc,hcell⟩
  · ~wpAny_Name (wpAny_loadName_local I.ok.kind hk hn hm fin) hd
  · rcases hk with hk | hk
    · ~wpAny_Name (wpAny_loadName_cell I.ok.kind hk hc hcell fin) hd
    · ~wpAny_Name (wpAny_loadName_free I.ok.kind hk hc hcell fin hcd) hd
A8 Ua{i j pos}:PE X (.Constant (.int i) j pos) (tC (.int i)):=fun _ _ _ H _ I h=>wpAny_Constant_int ⟨.int i,H,I.tok _,⟨_,rfl⟩,h⟩
A8 Yn{b j pos}:PE X (.Constant (.bool b) j pos) (tC (.bl b)):=fun _ _ _ H _ I h=>Constant_bool ⟨.bl b,H,I,rfl,h⟩
A8 Ub{x j pos}:PE X (.Constant (.str x) j pos) (tC (.str x)):=fun _ _ _ H _ I h=>Calls.Constant_str ⟨.str x,H,I.tok _,⟨_,rfl⟩,h⟩
def Gl(X:Cx)(x:Str):Prop:=X.env.kindOf x=some .globalImplicit
A8 De{E:Value→Shared→Prop}{pins:List (Addr×Obj)}{s:Shared}{σ:St}{H:Hp}{x:Str}{u:Value}{pos:Pos}{Q:Value→Shared→Prop}(I:Inv X pins σ H s)(hg:Gl X x)(hm:X.mg x=some u)(h:Q u s)
  (hd:(x==("__debug__" : Str))=false:=by decide):wpAny (model X.prog X.w) X.A (eval (.Name x pos) X.env) Q E s:=
 Calls.Name_function_global I.ok.kind hg (Calls.loadGlobal_global (by rw[I.ok.glob];~I.mod.glob.keeps I.bk) hm h) hd
A8 vP{E:Value→Shared→Prop}{pins:List (Addr×Obj)}{s:Shared}{σ:St}{H:Hp}{x:Str}{u:Value}{pos:Pos}{Q:Value→Shared→Prop}(I:Inv X pins σ H s)(hg:Gl X x)(hm:X.mg x=none)(hv:bootBuiltins x=some u)(h:Q u s)
  (hn:x ≠ "__name__" := by decide) (hd:(x==("__debug__" : Str))=false:=by decide):wpAny (model X.prog X.w) X.A (eval (.Name x pos) X.env) Q E s:=by
 A6⟨mb,h1,h2⟩:=I.mod.blt
 ~Calls.Name_function_global I.ok.kind hg (Calls.loadGlobal_builtin (by rw[I.ok.glob];~I.mod.glob.keeps I.bk) hm (by rw[I.ok.blt];~h1.keeps I.bk) ((h2 x hn).trans hv) h) hd
A8 Ny{x:Str}{v:V}{u:Value}{pos:Pos}(hg:Gl X x)(hm:X.mg x=some u)(r:RelV v u)(hd:(x==("__debug__" : Str))=false:=by decide):PE X (.Name x pos) (tC v):=
 fun _ _ _ H _ I h=>De I hg hm ⟨v,H,I,r,h⟩ hd
A8 pF{x:Str}{v:V}{u:Value}{pos:Pos}(hg:Gl X x)(hm:X.mg x=none)(hv:bootBuiltins x=some u)(r:RelV v u)(hn:x ≠ "__name__" := by decide) (hd:(x==("__debug__" : Str))=false:=by decide):PE X (.Name x pos) (tC v):=
 fun _ _ _ H _ I h=>vP I hg hm hv ⟨v,H,I,r,h⟩ hn hd
variable{a b:Expr}{ta tb:TE}{pos:Pos}
def PC(X:Cx)(op:CmpOp)(a b:Expr)(t:TE):Prop:=
 ∀(pins:List (Addr×Obj))(s:Shared)(σ:St)(H:Hp)(Q:VK),Inv X pins σ H s→t σ H Q →
  wpAny (model X.prog X.w) X.A (eval a X.env) (fun v s₁=>wpAny (model X.prog X.w) X.A (eval b X.env) (fun u s₂=>wpAny (model X.prog X.w) X.A (compareOp op v u) (EP X pins σ Q) X.xe s₂) X.xe s₁) X.xe s
def tB(t:TE):TT:=fun σ H Q=>t σ H fun x H1=>∃c,x=.bl c∧Q c H1
A8 Io{op:CmpOp}{t:TE}(h:PC X op a b t)(h1:behindInMarks op b=false:=by first | ~nobehind _ A4 A4 | rfl):PE X (.Compare a [op] [b] pos) t:=fun pins s σ H Q I hw=>wpAny_Compare1 (h pins s σ H Q I hw) h1
A8 Uc{op:CmpOp}{t:TE}(h:PC X op a b t)(h1:behindInMarks op b=false:=by first | ~nobehind _ A4 A4 | rfl):PT X (.Compare a [op] [b] pos) (tB t):=by
 intro pins s σ H Q I hw
 &wpAny_isTrue_Compare1 (cG (h pins s σ H _ I hw) fun v s1 h1=>cG h1 fun u s2 h2=>cG h2 fun c s3 ⟨x,H1,I1,r1,q1⟩=>?_) h1
 A6⟨d,rfl,q⟩:=q1
 cases r1
 ~wpAny_truthy_bool ⟨H1,I1,q⟩
A8 Ud{e:Expr}{t:TE}(h:PE X e t)(he:∀whole,isTrue e X.env whole=(do let v ←whole;standAt e.pos;holding [v] (truthy v)):=by intro _;rfl):PT X e (tB t):=by
 intro pins s σ H Q I hw
 &isTrue_plain (cG (h pins s σ H _ I hw) fun v s1 ⟨x,H1,I1,r1,q1⟩=>?_) (he _)
 A6⟨d,rfl,q⟩:=q1
 cases r1
 ~wpAny_truthy_bool ⟨H1,I1,q⟩
variable{tA DX:TT}{rest:List Expr}
def Ue(t u:TT):TT:=fun σ H Q=>t σ H fun c H1=>if c=true then u σ H1 Q else Q false H1
def HQ(t u:TT):TT:=fun σ H Q=>t σ H fun c H1=>if c=true then Q true H1 else u σ H1 Q
def Ug(t:TT):TT:=fun σ H Q=>t σ H fun c H1=>Q (!c) H1
A8 Nz(ha:PT X a tA):PW X (.BoolOp .And [a] pos) tA:=by
 intro wh pins s σ H Q I h
 &isTrue_and (cG (ha pins s σ H Q I h) fun c s1 e=>?_)
 cases c with
 | true=>~isTrue_and_nil e
 | false=>~e
A8 Uh(ha:PT X a tA):PW X (.BoolOp .Or [a] pos) tA:=by
 intro wh pins s σ H Q I h
 &isTrue_or (cG (ha pins s σ H Q I h) fun c s1 e=>?_)
 cases c with
 | false=>~isTrue_or_nil e
 | true=>~e
A8 Ui(ha:PT X a tA)(hb:PW X (.BoolOp .And (b::rest) pos) DX):PW X (.BoolOp .And (a::b::rest) pos) (Ue tA DX):=by
 intro wh pins s σ H Q I h
 &isTrue_and (cG (ha pins s σ H _ I h) fun c s1 ⟨H1,I1,q1⟩=>?_)
 cases c with
 | true=>~hb wh pins s1 σ H1 Q I1 q1
 | false=>~⟨H1,I1,q1⟩
A8 Yo(ha:PT X a tA)(hb:PW X (.BoolOp .Or (b::rest) pos) DX):PW X (.BoolOp .Or (a::b::rest) pos) (HQ tA DX):=by
 intro wh pins s σ H Q I h
 &isTrue_or (cG (ha pins s σ H _ I h) fun c s1 ⟨H1,I1,q1⟩=>?_)
 cases c with
 | true=>~⟨H1,I1,q1⟩
 | false=>~hb wh pins s1 σ H1 Q I1 q1
A8 Uj(ha:PT X a tA):PT X (.UnaryOp .Not a pos) (Ug tA):=by
 intro pins s σ H Q I h
 ~isTrue_not (ha pins s σ H (fun c H1=>Q (!c) H1) I h)
def Ro(ta tb:TE):TE:=fun σ H Q=>ta σ H fun x H1=>∃c,x=.bl c∧if c=true then tb σ H1 Q else Q (.bl false) H1
def Rp(ta:TE):TE:=fun σ H Q=>ta σ H fun x H1=>∃c,x=.bl c∧Q (.bl (!c)) H1
A8 Uk{op}{t:TE}(h:PE X a t):PE X (.BoolOp op [a] pos) t:=fun pins s σ H Q I hw=>BoolOp_one (h pins s σ H Q I hw)
A8 Ul(ha:PE X a ta)(hb:PE X (.BoolOp .And (b::rest) pos) tb):PE X (.BoolOp .And (a::b::rest) pos) (Ro ta tb):=by
 intro pins s σ H Q I h
 &BoolOp_and (cG (ha pins s σ H _ I h) fun v s1 ⟨x,H1,I1,r1,q1⟩=>?_)
 A6⟨c,rfl,q1⟩:=q1
 cases r1
 &wpAny_truthy_bool ?_
 cases c with
 | true=>~hb pins s1 σ H1 Q I1 q1
 | false=>~⟨.bl false,H1,I1,rfl,q1⟩
A8 Um(ha:PE X a ta):PE X (.UnaryOp .Not a pos) (Rp ta):=by
 intro pins s σ H Q I h
 &UnaryOp_ (cG (ha pins s σ H _ I h) fun v s1 ⟨x,H1,I1,r1,q1⟩=>?_)
 A6⟨c,rfl,q1⟩:=q1
 cases r1
 ~not_of (wpAny_truthy_bool ⟨.bl (!c),H1,I1,rfl,q1⟩)
end
end L2
namespace L2
open PySem PySem.Spec PyProof.Rows
def gW(K:aA)(H:Hp)(a:Addr)(xs:List V):Prop:=
 Rd H a (.lst xs) ∨
  ∃(o:Obj)(its:Array Value)(n:Nat),K.lookup a=some o∧o.cls=.type "list" ∧ o.dict=none∧o.data=.seq its n∧its.size≤sizeLine∧Vals xs its.toList
def jP(K:aA)(H:Hp)(a:Addr)(xs:List V):Prop:=
 Rd H a (.tup xs) ∨
  ∃(o:Obj)(its:Array Value)(n:Nat),K.lookup a=some o∧o.cls=.type "tuple" ∧ o.data=.seq its n∧its.size≤sizeLine∧Vals xs its.toList
def HR:Value→Option V
 | .none=>some .non
 | .bool b=>some (.bl b)
 | .int i _=>some (.int i)
 | .str x _=>some (.str x)
 | .bytes b _=>some (.byt b)
 | .float b _=>some (.flt b)
 | .ref a=>some (.ref a)
 | .type n=>some (.ty n)
 | _=>none
A8 RelV.abs{x:V}{u:Value}(r:RelV x u):HR u=some x:=by
 cases x with
 | non=>cases r;rfl
 | bl _=>cases r;rfl
 | int _=>A6⟨t,rfl⟩:=r;rfl
 | str _=>A6⟨t,rfl⟩:=r;rfl
 | byt _=>A6⟨t,rfl⟩:=r;rfl
 | flt _=>A6⟨t,rfl⟩:=r;rfl
 | ref _=>cases r;rfl
 | ty _=>cases r;rfl
A8 RelV.inj{x y:V}{u:Value}(r:RelV x u)(q:RelV y u):x=y:=D9 (r.abs.symm.trans q.abs)
A8 Vals.inj:∀{xs ys:List V} {us:List Value},Vals xs us→Vals ys us→xs=ys
 | _,_,_,.nil,.nil=>rfl
 | _,_,_,.cons r t,.cons r' t'=>by rw[r.inj r',Vals.inj t t']
section
variable{X:Cx}{pins:List (Addr×Obj)}{σ:St}{H:Hp}{s:Shared}{a:Addr}{xs ys:List V}
A8 gW.of{K:aA}(h:H a=some (.lst xs)):gW K H a xs:=.inl (.inl h)
A8 jP.of{K:aA}(h:H a=some (.tup xs)):jP K H a xs:=.inl (.inl h)
A8 Inv.list(I:Inv X pins σ H s)(h:gW X.K H a xs):∃its:List Value,Vals xs its∧PlainL s.heap a its.toArray∧xs.length≤sizeLine:=by
 rcases h with h | ⟨o,its,n,hk,hc,hd,hs,hz,r⟩
 ·A6⟨z,its,n,r,e⟩:=h.ok I.hok
  ~⟨its,r,⟨_,n,e,rfl,rfl,rfl⟩,z⟩
 ·&⟨its.toList,r,⟨o,n,I.vN a o hk,hc,hd,by simpa using hs⟩,?_⟩
  have e:=r.length
  simp only[K2]at e
  omega
A8 Inv.tuple(I:Inv X pins σ H s)(h:jP X.K H a xs):∃its:List Value,Vals xs its∧IsTup s.heap a its.toArray∧xs.length≤sizeLine:=by
 rcases h with h | ⟨o,its,n,hk,hc,hs,hz,r⟩
 ·A6⟨z,its,r,p⟩:=h.ok I.hok
  ~⟨its,r,p,z⟩
 ·&⟨its.toList,r,⟨o,I.vN a o hk,hc,n,by simpa using hs⟩,?_⟩
  have e:=r.length
  simp only[K2]at e
  omega
A8 Inv.xW(I:Inv X pins σ H s)(h:gW X.K H a xs)(h':gW X.K H a ys):xs=ys:=by
 A6⟨its,r,⟨o,n,e,_,_,d⟩,_⟩:=I.list h
 A6⟨its',r',⟨o',n',e',_,_,d'⟩,_⟩:=I.list h'
 rw[e]at e';cases e'
 rw[d]at d'
 injection d' with d1 _
 have:its=its':=by simpa using congrArg U3 d1
 subst this
 ~r.inj r'
A8 Inv.uG(I:Inv X pins σ H s)(h:jP X.K H a xs)(h':jP X.K H a ys):xs=ys:=by
 A6⟨its,r,⟨o,e,_,n,d⟩,_⟩:=I.tuple h
 A6⟨its',r',⟨o',e',_,n',d'⟩,_⟩:=I.tuple h'
 rw[e]at e';cases e'
 rw[d]at d'
 injection d' with d1 _
 have:its=its':=by simpa using congrArg U3 d1
 subst this
 ~r.inj r'
end
abbrev Cx.wish(X:Cx)(E:Value→Shared→Prop):Cx:={X with xe:=E}
abbrev Cx.Uo(X:Cx):Cx:=X.wish fun _ _=>False
A8 Cx.Ok.wish{X:Cx}(ok:X.Ok)(E:Value→Shared→Prop):(X.wish E).Ok:=
 ⟨ok.mod,ok.kind,ok.glob,ok.blt,ok.above,ok.inj,ok.has,ok.cab,ok.hd,ok.frames,ok.DW,ok.LK,ok.bs,ok.Rn,ok.Il,ok.Nx,ok.pW,ok.Yd⟩
A8 Cx.Ok.gY{X:Cx}{E:Value→Shared→Prop}(ok:(X.wish E).Ok):X.Ok:=
 ⟨ok.mod,ok.kind,ok.glob,ok.blt,ok.above,ok.inj,ok.has,ok.cab,ok.hd,ok.frames,ok.DW,ok.LK,ok.bs,ok.Rn,ok.Il,ok.Nx,ok.pW,ok.Yd⟩
section
variable{X:Cx}{pins:List (Addr×Obj)}{σ:St}{H:Hp}{s:Shared}{E:Value→Shared→Prop}
A8 Inv.wish(I:Inv X pins σ H s)(E:Value→Shared→Prop):Inv (X.wish E) pins σ H s:=⟨I.ok.wish E,I.os,I.bare,I.base,I.loc,I.cell,I.free,I.gK,I.pin,I.hok,I.len⟩
A8 Inv.gY(I:Inv (X.wish E) pins σ H s):Inv X pins σ H s:=⟨I.ok.gY,I.os,I.bare,I.base,I.loc,I.cell,I.free,I.gK,I.pin,I.hok,I.len⟩
A8 SP.gY{D:Ends}{f:Flow}{s':Shared}(h:SP (X.wish E) pins D f s'):SP X pins D f s':=by
 cases f with
 | next=>A6⟨σ',H',I,q⟩:=h;~⟨σ',H',I.gY,q⟩
 | brk=>A6⟨σ',H',I,q⟩:=h;~⟨σ',H',I.gY,q⟩
 | cont=>A6⟨σ',H',I,q⟩:=h;~⟨σ',H',I.gY,q⟩
 | ret u=>A6⟨v,σ',H',I,r,q⟩:=h;~⟨v,σ',H',I.gY,r,q⟩
A8 Af.Uo{st:List Stmt}{t:TS}(h:Af X.Uo st t):Af X st t:=fun pins s σ H D I hw=>
 wpAny_mono (h pins s σ H D (I.wish _) hw) (fun _ _ q=>q.gY) fun _ _ z=>False.elim z
end
section
variable{X:Cx}{st:Stmt}{rest:List Stmt}{t u:TS}{e:Expr}{te:TE}{pos:Pos}
def Rq:TS:=fun D σ H=>D.nx σ H
def Up(t u:TS):TS:=fun D σ H=>t {D with nx:=u D} σ H
A8 Oa:Af X [] Rq:=fun _ _ σ H _ I h=>wpAny_execs_nil ⟨σ,H,I,h⟩
A8 Ip(h1:PS X st t)(h2:Af X rest u):Af X (st::rest) (Up t u):=by
 intro pins s σ H D I h
 &wpAny_execs_cons (cG (h1 pins s σ H {D with nx:=u D} I h) fun f s1 q=>?_)
 cases f with
 | next=>
  A6⟨σ',H',I',q⟩:=q
  ~h2 pins s1 σ' H' D I' q
 | ret v=>~q
 | brk=>~q
 | cont=>~q
A8 Ob(h1:PS X st t):Af X [st] t:=by
 intro pins s σ H D I h
 &wpAny_execs_cons (cG (h1 pins s σ H D I h) fun f s1 q=>?_)
 cases f with
 | next=>~wpAny_execs_nil q
 | ret v=>~q
 | brk=>~q
 | cont=>~q
A8 Inv.quiet{pins:List (Addr×Obj)}{σ:St}{H:Hp}{s:Shared}(I:Inv X pins σ H s):interactive X.env=false:=by simp[interactive,I.ok.kind]
def nU(te:TE):TS:=fun D σ H=>te σ H fun _ H1=>D.nx σ H1
A8 pG(he:PE X e te)(hs:swapsWith e none pos.line X.env=pure false:=by rfl):PS X (.Expr e pos) (nU te):=by
 intro pins s σ H D I h
 ~wpAny_Expr_any (cG (he pins s σ H _ I h) fun v s1 ⟨x,H1,I1,r1,q1⟩=>⟨σ,H1,I1,q1⟩) I.quiet hs
def Yp(te:TE):TS:=fun D σ H=>te σ H D.rt
A8 Uq(he:PE X e te):PS X (.Return (some e) pos) (Yp te):=by
 intro pins s σ H D I h
 ~wpAny_Return_some (cG (he pins s σ H _ I h) fun v s1 ⟨x,H1,I1,r1,q1⟩=>⟨x,σ,H1,I1,r1,q1⟩)
def Yq(c:TT)(t u:TS):TS:=fun D σ H=>c σ H fun b H1=>if b=true then t D σ H1 else u D σ H1
A8 Yr{c:Expr}{a b:List Stmt}{tc:TT}(hc:PT X c tc)(ha:Af X a t)(hb:Af X b u):PS X (.If c a b pos) (Yq tc t u):=by
 intro pins s σ H D I h
 &wpAny_If (cG (hc pins s σ H _ I h) fun d s1 ⟨H1,I1,q1⟩=>?_)
 cases d with
 | true=>~ha pins s1 σ H1 D I1 q1
 | false=>~hb pins s1 σ H1 D I1 q1
def Ir:TS:=fun _ _ _=>False
A8 Iu:PS X st Ir:=fun _ _ _ _ _ _ h=>h.elim
end
abbrev TG:=V→St→Hp→(St→Hp→Prop)→Prop
def PG(X:Cx)(target:Expr)(t:TG):Prop:=
 ∀(pins:List (Addr×Obj))(s:Shared)(σ:St)(H:Hp)(v:V)(u:Value)(Q:St→Hp→Prop),Inv X pins σ H s→RelV v u→t v σ H Q →
  wpAny (model X.prog X.w) X.A (assign target X.env u) (fun _ s'=>∃σ' H',Inv X pins σ' H' s'∧Q σ' H') X.xe s
section
variable{X:Cx}{pos:Pos}
def bZ(i:Nat):TG:=fun v σ H Q=>Q (σ.set i (some v)) H
A8 jF{i:Nat}{x:Str}(hN:X.N.Nodup)(hi:X.N[i]?=some x)(hx:Loc X.env.scope x)(hf:X.fn x=true∨X.env.scope.names.lookup x=some .local:=by first | ~.inl rfl | ~.inr rfl | assumption):PG X (.Name x pos) (bZ i):=by
 intro pins s σ H v u Q I r h
 ~wpAny_assign_Name (xV I hN hi hx r (fun s' I'=>⟨_,H,I',h⟩) hf)
def xX(te:TE)(g:TG):TS:=fun D σ H=>te σ H fun x H1=>g x σ H1 D.nx
A8 cF{i:Nat}{x:Str}{e:Expr}{te:TE}{pos':Pos}(hN:X.N.Nodup)(hi:X.N[i]?=some x)(hx:Loc X.env.scope x)(he:PE X e te)(hs:swapsWith e (some (.Name x pos')) pos.line X.env=pure false:=by rfl)(hf:X.fn x=true∨X.env.scope.names.lookup x=some .local:=by first | ~.inl rfl | ~.inr rfl | assumption) :
  PS X (.Assign [.Name x pos'] e pos) (xX te (bZ i)):=by
 intro pins s σ H D I h
 &wpAny_Assign_Name (cG (he pins s σ H _ I h) fun v s1 ⟨y,H1,I1,r1,q1⟩=>?_) hs
 ~xV I1 hN hi hx r1 (fun s2 I2=>⟨_,H1,I2,q1⟩) hf
end
section
variable{X:Cx}{pos:Pos}
end
structure It where
 go:Nat→Hp→Prop
 Ys:Nat→Hp→V→Hp→Prop
 stop:Nat→Hp→Prop
def vQ(X:Cx)(pins:List (Addr×Obj))(H:Hp)(b:Addr):Prop:=
 H b=none∧b≠X.env.locals∧b∉X.fs∧(b∈X.ex∨X.s₀.heap.objs.size≤b)∧(∀x c,X.env.cells.lookup x=some c→c≠b)∧∀p∈X.pn++pins,p.1≠b
A8 Inv.Ur{X:Cx}{pins:List (Addr×Obj)}{σ:St}{H H':Hp}{s:Shared}{b:Addr}(I:Inv X pins σ H s)(hb:s.heap.objs.size≤b)(hn:H' b=none):vQ X pins H' b:=by
 &⟨hn,J6 (B8 I.lt hb),I.HJ hb,.inr (E7 I.sz hb),fun x c e z=>?_,fun p hp z=>?_⟩
 ·A6⟨v,q⟩:=I.cell x c e
  ~absurd (B8 q.lt (by rw[z];~hb)) (F1 _)
 ·~absurd (B8 (Heap.lt_size (I.pin p hp).1) (by rw[z];~hb)) (F1 _)
structure Turn(P:Program)(w:World)(K:aA)(tg:Expr)(J:It)(fp:List Addr)(it:Addr)(tn:Nat→Heap→Prop):Prop where
 mem:it∈fp
 obj:∀i h,tn i h→∀b∈fp,∃o,h.get? b=some o∧∀v,o.data≠.cell v
 keep:∀i h h',tn i h→(∀b∈fp,∀o,h.get? b=some o→h'.get? b=some o)→tn i h'
 item:∀(X:Cx),X.prog=P→X.w=w→X.K=K→X.calm=true→∀(i:Nat)(pins:List (Addr×Obj))(s:Shared)(σ:St)(H:Hp)(E:Value→Shared→Prop),Inv X pins σ H s→(∀b∈fp,vQ X pins H b)→tn i s.heap→J.go i H →
  wpAny (model P w) X.A (pyNext (.ref it)) (fun r s1=>∃u,r=some u ∧
   wpAny (model P w) X.A (letOwnedTupleGo tg (.ref it) u) (fun _ s2=>∃x H',Inv X pins σ H' s2∧RelV x u∧J.Ys i H x H'∧tn (i+1) s2.heap∧∀b∈fp,H' b=none) E s1) E s
 done:∀(X:Cx),X.prog=P→X.w=w→X.K=K→X.calm=true→∀(i:Nat)(pins:List (Addr×Obj))(s:Shared)(σ:St)(H:Hp)(E:Value→Shared→Prop),Inv X pins σ H s→(∀b∈fp,vQ X pins H b)→tn i s.heap→J.stop i H →
  wpAny (model P w) X.A (pyNext (.ref it)) (fun r s1=>r=none∧Inv X pins σ H s1) E s
 self:∀(A:Around)(i:Nat)(s:Shared)(Q:Value→Shared→Prop)(E:Value→Shared→Prop),tn i s.heap→Q (.ref it) s→wpAny (model P w) A (pyIter (.ref it)) Q E s
abbrev TI:=St→Hp→(It→Hp→Prop)→Prop
def PIE(X:Cx)(pins:List (Addr×Obj))(σ:St)(tg:Expr)(R:It→Hp→Prop)(itv:Value)(s2:Shared):Prop:=
 ∃(it:Addr)(fp:List Addr)(tn:Nat→Heap→Prop)(J:It)(H':Hp),itv=.ref it∧Inv X pins σ H' s2∧Turn X.prog X.w X.K tg J fp it tn∧tn 0 s2.heap∧(∀b∈fp,vQ X pins H' b)∧R J H'
def PI(X:Cx)(tg iter:Expr)(wi:TI):Prop:=
 ∀(pins:List (Addr×Obj))(s:Shared)(σ:St)(H:Hp)(R:It→Hp→Prop),Inv X pins σ H s→wi σ H R →
  wpAny (model X.prog X.w) X.A (eval iter X.env) (fun v s1=>wpAny (model X.prog X.w) X.A (pyIter v) (PIE X pins σ tg R) X.xe s1) X.xe s
A8 Iv{M:Model}{A:Around}{E:Value→Shared→Prop}{s:Shared}{tg:Expr}{it:Addr}{u:Value}{o:Obj}{n:String}{vs:Array Value}{Q:Unit→Shared→Prop}(ho:s.heap.get? it=some o)(hc:o.cls=.type n)(hd:o.data=.fields vs)
    (hn:["enumerate", "zip", "dict_itemiterator", "dict_reverseitemiterator", "odict_iterator", "itertools.zip_longest", "itertools.pairwise"].contains n=false) (hQ:Q () s):wpAny M A (letOwnedTupleGo tg (.ref it) u) Q E s:=by
  A7 letOwnedTupleGo
  cases tg<;>first
    | ~wpAny_pure hQ
    | (cases u<;>first
        | ~wpAny_pure hQ
        | (&wpAny_bind (wpAny_load ho ?_)
           rw[hc,hd]
           show wpAny M A (if(["enumerate", "zip", "dict_itemiterator", "dict_reverseitemiterator", "odict_iterator", "itertools.zip_longest", "itertools.pairwise"].contains n&&vs[0]?==some (rawInt _))=true then _ else _) Q E s
           rw[if_neg (by intro h;rw[hn,Bool.false_and]at h;cases h)]
           ~wpAny_pure hQ))
def HS(K:aA)(a:Addr):It:=
 ⟨fun i H=>∃xs x,gW K H a xs∧xs[i]?=some x,fun i H x H'=>H'=H∧∀xs,gW K H a xs→xs[i]?=some x,fun i H=>∃xs,gW K H a xs∧xs.length≤i⟩
def HW(K:aA)(a:Addr):It:=
 ⟨fun i H=>∃xs x,jP K H a xs∧xs[i]?=some x,fun i H x H'=>H'=H∧∀xs,jP K H a xs→xs[i]?=some x,fun i H=>∃xs,jP K H a xs∧xs.length≤i⟩
A8 Fy{P:Program}{w:World}{K:aA}{tg:Expr}(a it:Addr):Turn P w K tg (HS K a) [it] it (fun i h=>h.IsListIter it a i) where
 mem:=by simp
 obj:=fun i h st b hb=>by
  have e:b=it:=by simpa using hb
  subst e
  A6⟨o,e,c,d⟩:=st
  ~⟨o,e,fun v z=>by rw[d]at z;cases z⟩
 keep:=fun i h h' st k=>st.at fun o e=>k it (by simp) o e
 item:=by
  intro X hP hw hK hc i pins s σ H E I hf st hg
  subst hP hw hK
  A6⟨xs,x,hq,hx⟩:=hg
  A6⟨its,rv,p,hz⟩:=I.list hq
  A6⟨u,hu,ru⟩:=rv.get hx
  A6⟨f0,f1,f2,f3,f4,f5⟩:=hf it (by simp)
  &wpAny_pyNext_list_item st p.isList (x:=u) (by simpa using hu) fun h' st' sb=>?_
  have I1:Inv X pins σ H {s with heap:=h'}:=I.turned (t':=s.toks) (fun b o hb e=>(sb.2 b hb).trans e) f0 f1 f3 f4 f5
  A6⟨o,e,c,d⟩:=id st'
  ~⟨u,rfl,Iv (s:={s with heap:=h'}) e c d A4 ⟨x,H,I1,ru,⟨rfl,fun ys hy=>by rw[I.xW hy hq];~hx⟩,st',fun b hb=>(hf b hb).1⟩⟩
 done:=by
  intro X hP hw hK hc i pins s σ H E I hf st hg
  subst hP hw hK
  A6⟨xs,hq,hx⟩:=hg
  A6⟨its,rv,p,hz⟩:=I.list hq
  A6⟨f0,f1,f2,f3,f4,f5⟩:=hf it (by simp)
  have hl:=rv.length
  ~wpAny_pyNext_list_end (I.ok.hd hc) st p.isList (by simp;omega) fun h' eb=>⟨rfl,I.turned (t':=s.toks) (fun b o hb e=>eb b o hb e) f0 f1 f3 f4 f5⟩
 self:=fun _ _ _ _ _ st h=>wpAny_pyIter_listiter st h
A8 Ai{P:Program}{w:World}{K:aA}{tg:Expr}(a it:Addr):Turn P w K tg (HW K a) [it] it (fun i h=>h.IsTupleIter it a i) where
 mem:=by simp
 obj:=fun i h st b hb=>by
  have e:b=it:=by simpa using hb
  subst e
  A6⟨o,e,c,d⟩:=st
  ~⟨o,e,fun v z=>by rw[d]at z;cases z⟩
 keep:=fun i h h' st k=>st.at fun o e=>k it (by simp) o e
 item:=by
  intro X hP hw hK hc i pins s σ H E I hf st hg
  subst hP hw hK
  A6⟨xs,x,hq,hx⟩:=hg
  A6⟨its,rv,p,hz⟩:=I.tuple hq
  A6⟨u,hu,ru⟩:=rv.get hx
  A6⟨f0,f1,f2,f3,f4,f5⟩:=hf it (by simp)
  &wpAny_pyNext_tuple_item st (show s.heap.IsTuple a its.toArray from p) (x:=u) (by simpa using hu) fun h' st' sb=>?_
  have I1:Inv X pins σ H {s with heap:=h'}:=I.turned (t':=s.toks) (fun b o hb e=>(sb.2 b hb).trans e) f0 f1 f3 f4 f5
  A6⟨o,e,c,d⟩:=id st'
  ~⟨u,rfl,Iv (s:={s with heap:=h'}) e c d A4 ⟨x,H,I1,ru,⟨rfl,fun ys hy=>by rw[I.uG hy hq];~hx⟩,st',fun b hb=>(hf b hb).1⟩⟩
 done:=by
  intro X hP hw hK hc i pins s σ H E I hf st hg
  subst hP hw hK
  A6⟨xs,hq,hx⟩:=hg
  A6⟨its,rv,p,hz⟩:=I.tuple hq
  A6⟨f0,f1,f2,f3,f4,f5⟩:=hf it (by simp)
  have hl:=rv.length
  ~wpAny_pyNext_tuple_end (I.ok.hd hc) st (show s.heap.IsTuple a its.toArray from p) (by simp;omega) fun h' eb=>⟨rfl,I.turned (t':=s.toks) (fun b o hb e=>eb b o hb e) f0 f1 f3 f4 f5⟩
 self:=fun _ _ _ _ _ st h=>wpAny_pyIter_tupleiter st h
end L2
namespace L2
open PySem PySem.Spec PyProof.Rows
section
variable{X:Cx}{tg:Expr}
def Rr(K:aA)(tl:TE):TI:=fun σ H R=>tl σ H fun x H1=>∃a,x=.ref a∧(∃xs,gW K H1 a xs)∧R (HS K a) H1
def Yt(K:aA)(tl:TE):TI:=fun σ H R=>tl σ H fun x H1=>∃a,x=.ref a∧(∃xs,jP K H1 a xs)∧R (HW K a) H1
A8 Oc{l:Expr}{tl:TE}(hl:PE X l tl):PI X tg l (Rr X.K tl):=by
 intro pins s σ H R I h
 &cG (hl pins s σ H _ I h) fun v s1 ⟨x,H1,I1,r1,q1⟩=>?_
 A6⟨a,e,⟨xs,hq⟩,q⟩:=q1
 subst e
 cases r1
 A6⟨its,rv,p,hz⟩:=I1.list hq
 &wpAny_pyIter_list p.isList ?_
 &⟨s1.heap.objs.size,[s1.heap.objs.size],_,_,H1,rfl,I1.kept (t':=s1.toks) fun b o e=>Heap.get?_push_of_some _ e,Fy a _,⟨_,Heap.get?_push_size _ rfl,rfl,rfl⟩,fun b hb=>?_,q⟩
 have e:b=s1.heap.objs.size:=by simpa using hb
 subst e
 ~I1.Ur (B6 _) (I1.hok.fresh (B6 _))
A8 Us{l:Expr}{tl:TE}(hl:PE X l tl):PI X tg l (Yt X.K tl):=by
 intro pins s σ H R I h
 &cG (hl pins s σ H _ I h) fun v s1 ⟨x,H1,I1,r1,q1⟩=>?_
 A6⟨a,e,⟨xs,hq⟩,q⟩:=q1
 subst e
 cases r1
 A6⟨its,rv,p,hz⟩:=I1.tuple hq
 &wpAny_pyIter_tuple (show s1.heap.IsTuple a its.toArray from p) ?_
 &⟨s1.heap.objs.size,[s1.heap.objs.size],_,_,H1,rfl,I1.kept (t':=s1.toks) fun b o e=>Heap.get?_push_of_some _ e,Ai a _,⟨_,Heap.get?_push_size _ rfl,rfl,rfl⟩,fun b hb=>?_,q⟩
 have e:b=s1.heap.objs.size:=by simpa using hb
 subst e
 ~I1.Ur (B6 _) (I1.hok.fresh (B6 _))
def Ut(wi:TI)(g:TG)(tb:TS):TS:=fun D σ H=>wi σ H fun J H1=>∃W:Nat→Nat→St→Hp→Prop,(∃m,W 0 m σ H1)∧∀i m σ H,W i m σ H →
 (J.stop i H∧D.nx σ H)∨(J.go i H∧∃N:St→Hp→Prop,(∀σ' H',N σ' H'→∃m',m'<m∧W (i+1) m' σ' H')∧∀x H',J.Ys i H x H'→g x σ H' fun σ2 H2=>tb {D with nx:=N,ct:=N,bk:=D.nx} σ2 H2)
def pX(fp:List Addr)(h:Heap):List (Addr×Obj):=fp.filterMap fun b=>(h.get? b).map fun o=>(b,o)
A8 fZ{fp:List Addr}{h:Heap}{b:Addr}{o:Obj}(hb:b∈fp)(e:h.get? b=some o):(b,o)∈pX fp h:=R3.mpr ⟨b,hb,by rw[e];rfl⟩
A8 Fz{fp:List Addr}{h:Heap}{p:Addr×Obj}(hp:p∈pX fp h):p.1∈fp∧h.get? p.1=some p.2:=by
 A6⟨b,hb,e⟩:=R3.mp hp
 cases q:h.get? b with
 | none=>rw[q]at e;cases e
 | some o=>
  rw[q]at e
  have e':(b,o)=p:=D9 e
  subst e'
  ~⟨hb,q⟩
A8 Inv.pinned{pins:List (Addr×Obj)}{σ:St}{H:Hp}{s:Shared}{fp:List Addr}(I:Inv X pins σ H s)(hf:∀b∈fp,vQ X pins H b)(ho:∀b∈fp,∃o,s.heap.get? b=some o∧∀v,o.data≠.cell v):Inv X (pins++pX fp s.heap) σ H s:=
 I.Dd fun p hp=>(E4.mp hp).elim (fun z=>I.pin p (C8 _ z)) fun z=>by
  A6⟨hb,e⟩:=Fz z
  A6⟨f0,f1,f2,_⟩:=hf p.1 hb
  A6⟨o,e',d⟩:=ho p.1 hb
  rw[e]at e';cases e'
  ~⟨e,f0,f1,f2,d⟩
A8 Inv.lH{pins pl:List (Addr×Obj)}{σ:St}{H:Hp}{s:Shared}(I:Inv X (pins++pl) σ H s):Inv X pins σ H s:=I.Dd fun p hp=>I.pin p (C8 _ (G5 _ hp))
A8 Uu{iter:Expr}{body:List Stmt}{wi:TI}{g:TG}{tb:TS}{pos:Pos}(hp:PassesOwn (model X.prog X.w) X.A X.env X.xe)(hc:X.calm=true)(hi:PI X tg iter wi)(hg:PG X tg g)(hb:Af X body tb)
  (hs:∀x,foldedSetIterable iter X.env x=pure x:=by intro _;rfl):PS X (.For tg iter body [] pos) (Ut wi g tb):=by
 intro pins s σ H D I h
 &wpAny_For (cG (hi pins s σ H _ I h) fun v s1 h1=>cG h1 fun itv s2 h2=>?_) hs
 A6⟨it,fp,tn,J,H2,e,I2,T,st2,f2,W,⟨m0,w0⟩,turn⟩:=h2
 subst e
 have stat:∀{H':Hp},(∀b∈fp,H' b=none)→∀b∈fp,vQ X pins H' b:=fun hn b hb=>⟨hn b hb,(f2 b hb).2⟩
 &codeAny_forLoop_any (fun n s'=>∃i σ' H',Inv X pins σ' H' s'∧tn i s'.heap∧(∀b∈fp,H' b=none)∧W i n σ' H') ?_ m0 ⟨0,σ,H2,I2,st2,fun b hb=>(f2 b hb).1,w0⟩
 rintro n s3 ⟨i,σ3,H3,I3,st3,fr3,w3⟩
 rcases turn i n σ3 H3 w3 with ⟨stop,qn⟩ | ⟨go,N,hN,step⟩
 ·&wpAny_passesOwn hp (cG (T.done X rfl rfl rfl hc i pins s3 σ3 H3 X.xe I3 (stat fr3) st3 stop) fun r s4 ⟨hr,I4⟩=>?_)
  subst hr
  ~wpAny_execs_nil ⟨σ3,H3,I4,qn⟩
 ·&wpAny_passesOwn hp (cG (T.item X rfl rfl rfl hc i pins s3 σ3 H3 X.xe I3 (stat fr3) st3 go) fun r s4 ⟨u,hr,h4⟩=>?_)
  subst hr
  &wpAny_passesOwn hp (cG h4 fun _ s5 ⟨x,H5,I5,r5,y5,st5,fr5⟩=>?_)
  have QK:=I5.pinned (stat fr5) (T.obj _ _ st5)
  &wpAny_passesOwn hp (cG (hg _ s5 σ3 H5 x u _ QK r5 (step x H5 y5)) fun _ s6 ⟨σ6,H6,I6,q6⟩=>?_)
  &wpAny_passesOwn hp (cG (hb _ s6 σ6 H6 _ I6 q6) fun f s7 q7=>?_)
  have again:∀{σ7:St} {H7:Hp},Inv X (pins++pX fp s5.heap) σ7 H7 s7→N σ7 H7→∃m,m<n∧∃i σ' H',Inv X pins σ' H' s7∧tn i s7.heap∧(∀b∈fp,H' b=none)∧W i m σ' H':=fun{σ7 H7} I7 n7=>by
   A6⟨m',hm,w7⟩:=hN σ7 H7 n7
   &⟨m',hm,i+1,σ7,H7,I7.lH,T.keep _ _ _ st5 fun b hb o e=>(I7.pin (b,o) (C8 _ (C8 _ (fZ hb e)))).1,fun b hb=>?_,w7⟩
   A6⟨o,e,d⟩:=T.obj _ _ st5 b hb
   ~(I7.pin (b,o) (C8 _ (C8 _ (fZ hb e)))).2.1
  cases f with
  | next=>A6⟨σ7,H7,I7,n7⟩:=q7;~again I7 n7
  | cont=>A6⟨σ7,H7,I7,n7⟩:=q7;~again I7 n7
  | brk=>A6⟨σ7,H7,I7,q7⟩:=q7;~⟨σ7,H7,I7.lH,q7⟩
  | ret v=>A6⟨x7,σ7,H7,I7,r7,q7⟩:=q7;~⟨x7,σ7,H7,I7.lH,r7,q7⟩
end
end L2
namespace L2
open PySem PySem.Spec PyProof.Rows
abbrev R2:=V→V→Hp→VK→Prop
def jQ(X:Cx)(f:Value→Value→Sem Value)(r:R2):Prop:=
 ∀(pins:List (Addr×Obj))(s:Shared)(σ:St)(H:Hp)(x y:V)(v u:Value)(Q:VK),Inv X pins σ H s→RelV x v→RelV y u→r x y H Q →
  wpAny (model X.prog X.w) X.A (f v u) (EP X pins σ Q) X.xe s
def dY(X:Cx)(f:Value)(r:List V→Hp→VK→Prop):Prop:=
 ∀(pins:List (Addr×Obj))(s:Shared)(σ:St)(H:Hp)(xs:List V)(us:List Value)(Q:VK),Inv X pins σ H s→Vals xs us→r xs H Q →
  wpAny (model X.prog X.w) X.A (call f us) (EP X pins σ Q) X.xe s
def xY(r:R2)(ta tb:TE):TE:=fun σ H Q=>ta σ H fun x H1=>tb σ H1 fun y H2=>r x y H2 Q
def MJ(r:V→Hp→VK→Prop)(ta:TE):TE:=fun σ H Q=>ta σ H fun x H1=>r x H1 Q
def rI(C:Int→Int→Prop)(g:Int→Int→V):R2:=fun x y H Q=>∃i j,x=.int i∧y=.int j∧C i j∧Q (g i j) H
def Nj(g:Int→Int→V):R2:=fun x y H Q=>∃i j,x=.int i∧y=.int j∧Q (g i j) H
section
variable{X:Cx}{a b c:Expr}{ta tb tc:TE}{pos:Pos}
A8 Uv(ha:PE X a ta)(hb:PE X b tb){pins:List (Addr×Obj)}{s:Shared}{σ:St}{H:Hp}{R:V→V→Hp→Prop}(I:Inv X pins σ H s)
  (h:ta σ H fun x H1=>tb σ H1 fun y H2=>R x y H2) {Q:Value→Shared→Prop} {f:Value→Value→Sem Value}
  (hf:∀v u s2 x y H2,Inv X pins σ H2 s2→RelV x v→RelV y u→R x y H2→wpAny (model X.prog X.w) X.A (f v u) Q X.xe s2) :
  wpAny (model X.prog X.w) X.A (eval a X.env) (fun v s₁=>wpAny (model X.prog X.w) X.A (eval b X.env) (fun u s₂=>wpAny (model X.prog X.w) X.A (f v u) Q X.xe s₂) X.xe s₁) X.xe s:=by
 &cG (ha pins s σ H _ I h) fun v s1 ⟨x,H1,I1,r1,q1⟩=>?_
 &cG (hb pins s1 σ H1 _ I1 q1) fun u s2 ⟨y,H2,I2,r2,q2⟩=>?_
 ~hf v u s2 x y H2 I2 r1 r2 q2
A8 Yu{op:Operator}{r:R2}(ho:jQ X (binaryOp op) r)(ha:PE X a ta)(hb:PE X b tb):PE X (.BinOp a op b pos) (xY r ta tb):=by
 intro pins s σ H Q I h
 ~wpAny_BinOp (Uv ha hb I h fun v u s2 x y H2 I2 rx ry q=>ho pins s2 σ H2 x y v u Q I2 rx ry q)
A8 Yv{f:Value→Value→Sem Value}{C:Int→Int→Prop}{g:Int→Int→Int}
  (rule:∀(i j:Int)(t u:Tok)(s:Shared)(Q:Value→Shared→Prop)(E:Value→Shared→Prop),C i j→Q (.int (g i j) s.toks) {s with toks:=s.toks+1}→wpAny (model X.prog X.w) X.A (f (.int i t) (.int j u)) Q E s) :
  jQ X f (rI C fun i j=>.int (g i j)):=by
 intro pins s σ H x y v u Q I rx ry h
 A6⟨i,j,rfl,rfl,hc,q⟩:=h
 A6⟨t,rfl⟩:=rx
 A6⟨t',rfl⟩:=ry
 ~rule i j t t' s _ _ hc ⟨.int (g i j),H,I.tok _,⟨_,rfl⟩,q⟩
A8 Yw{f:Value→Value→Sem Value}{g:Int→Int→Int}
  (rule:∀(i j:Int)(t u:Tok)(s:Shared)(Q:Value→Shared→Prop)(E:Value→Shared→Prop),Q (.int (g i j) s.toks) {s with toks:=s.toks+1}→wpAny (model X.prog X.w) X.A (f (.int i t) (.int j u)) Q E s) :
  jQ X f (Nj fun i j=>.int (g i j)):=by
 intro pins s σ H x y v u Q I rx ry h
 A6⟨i,j,rfl,rfl,q⟩:=h
 A6⟨t,rfl⟩:=rx
 A6⟨t',rfl⟩:=ry
 ~rule i j t t' s _ _ ⟨.int (g i j),H,I.tok _,⟨_,rfl⟩,q⟩
A8 HX{f:Value→Value→Sem Value}{g:Int→Int→Bool}
  (rule:∀(i j:Int)(t u:Tok)(s:Shared)(Q:Value→Shared→Prop)(E:Value→Shared→Prop),Q (.bool (g i j)) s→wpAny (model X.prog X.w) X.A (f (.int i t) (.int j u)) Q E s) :
  jQ X f (Nj fun i j=>.bl (g i j)):=by
 intro pins s σ H x y v u Q I rx ry h
 A6⟨i,j,rfl,rfl,q⟩:=h
 A6⟨t,rfl⟩:=rx
 A6⟨t',rfl⟩:=ry
 ~rule i j t t' s _ _ ⟨.bl (g i j),H,I,rfl,q⟩
def Ga(i j:Int):Prop:=0<j∧j<1073741824
def Gb(i j:Int):Prop:=0≤j∧j≤1000000∧i.natAbs<2 ^ 64
def vR(i j:Int):Prop:=(-(2 ^ 64)<i∧i<2 ^ 64)∨(-(2 ^ 64)<j∧j<2 ^ 64)
A8 vR.ok{i j:Int}(h:vR i j):IntMulOk i j:=by
 rcases h with ⟨h1,h2⟩ | ⟨h1,h2⟩
 ·~.of_left (intBits_le_64 h1 h2)
 ·~.of_right (intBits_le_64 h1 h2)
A8 Uw:jQ X (binaryOp .Add) (Nj fun i j=>.int (i+j)):=Yw fun _ _ _ _ _ _ _ q=>add_int q
A8 Ux:jQ X (binaryOp .Sub) (Nj fun i j=>.int (i-j)):=Yw fun _ _ _ _ _ _ _ q=>sub_int q
A8 Uy:jQ X (binaryOp .Mult) (rI vR fun i j=>.int (i*j)):=Yv fun _ _ _ _ _ _ _ hc q=>mul_int q hc.ok
A8 Od:jQ X (binaryOp .FloorDiv) (rI Ga fun i j=>.int (i/j)):=Yv fun i j _ _ _ _ _ hc q=>by
 have h1:(0:Int)<j:=hc.1
 have h2:j<1073741824:=hc.2
 ~floordiv_int A0 (by rw[Int.fdiv_eq_ediv_of_nonneg i A0];~q) (.inl (PyProof.noPylong_small A0))
A8 Uz:jQ X (binaryOp .Mod) (rI (fun _ j=>0<j) fun i j=>.int (i%j)):=Yv fun i j _ _ _ _ _ hc q=>by
 have h1:(0:Int)<j:=hc
 ~mod_int' A0 (by rw[Int.fmod_eq_emod_of_nonneg i A0];~q)
A8 Va:jQ X (binaryOp .Pow) (rI Gb fun i j=>.int (i ^ j.toNat)):=Yv fun _ _ _ _ _ _ _ hc q=>pow_int_small hc.1 hc.2.1 hc.2.2 q
end
def Gd:V→V→Bool
  | .non,.non=>true | .non,.int _=>true | .int _,.non=>true | .non,.bl _=>true | .bl _,.non=>true | .non,.str _=>true | .str _,.non=>true
  | .int _,.int _=>true | .bl _,.bl _=>true | .str _,.str _=>true | .byt _,.byt _=>true
  | .int _,.str _=>true | .str _,.int _=>true | .bl _,.str _=>true | .str _,.bl _=>true
  | _,_=>false
def HY:R2:=fun x y H Q=>Gd x y=true∧Q (.bl (decide (x=y))) H
def MK:R2:=fun x y H Q=>Gd x y=true∧Q (.bl (!decide (x=y))) H
A8 Df{i j:Int}:decide (V.int i=V.int j)=(i==j):=by
 rw[K3]
 simp
A8 Iw{i j:Bool}:decide (V.bl i=V.bl j)=(i==j):=by
 rw[K3]
 simp
A8 Dg{i j:Str}:decide (V.str i=V.str j)=(i==j):=by
 rw[K3]
 simp
A8 Dh{i j:Array UInt8}:decide (V.byt i=V.byt j)=(i.toList==j.toList):=by
 rw[K3]
 cases i
 cases j
 simp
section
variable{X:Cx}{a b c:Expr}{ta tb tc:TE}{pos:Pos}
A8 aY{pins:List (Addr×Obj)}{σ:St}{H:Hp}{s:Shared}{Q:VK}{k k':Bool}(I:Inv X pins σ H s)(q:Q (.bl k) H)(e:k=k'):EP X pins σ Q (.bool k') s:=by
 subst e
 ~⟨.bl k,H,I,rfl,q⟩
A8 Yx:jQ X (compareOp .Eq) HY:=by
 intro pins s σ H x y v u Q I rx ry h
 A6⟨hs,q⟩:=h
 cases x with
 | non=>
  cases rx
  cases y with
  | non=>cases ry;~PySem.EqNone.eq_none_none (aY I q (by simp))
  | bl j=>cases ry;~PySem.EqNone.eq_none_bool (aY I q (by simp))
  | int j=>A6⟨t',rfl⟩:=ry;~PySem.EqNone.eq_none_int (aY I q (by simp))
  | str j=>A6⟨t',rfl⟩:=ry;~PySem.EqNone.eq_none_str (aY I q (by simp))
  | _=>~absurd (show false=true from hs) C6
 | bl i=>
  cases rx
  cases y with
  | non=>cases ry;~PySem.EqNone.eq_bool_none (aY I q (by simp))
  | bl j=>cases ry;~eq_bool (aY I q Iw)
  | str j=>A6⟨t',rfl⟩:=ry;~PySem.EqMixed.eq_bool_str (aY I q (by simp))
  | _=>~absurd (show false=true from hs) C6
 | int i=>
  A6⟨t,rfl⟩:=rx
  cases y with
  | non=>cases ry;~PySem.EqNone.eq_int_none (aY I q (by simp))
  | int j=>A6⟨t',rfl⟩:=ry;~eq_int (aY I q Df)
  | str j=>A6⟨t',rfl⟩:=ry;~PySem.EqMixed.eq_int_str (aY I q (by simp))
  | _=>~absurd (show false=true from hs) C6
 | str i=>
  A6⟨t,rfl⟩:=rx
  cases y with
  | non=>cases ry;~PySem.EqNone.eq_str_none (aY I q (by simp))
  | bl j=>cases ry;~PySem.EqMixed.eq_str_bool (aY I q (by simp))
  | int j=>A6⟨t',rfl⟩:=ry;~PySem.EqMixed.eq_str_int (aY I q (by simp))
  | str j=>A6⟨t',rfl⟩:=ry;~eq_str (aY I q Dg)
  | _=>~absurd (show false=true from hs) C6
 | byt i=>
  A6⟨t,rfl⟩:=rx
  cases y with
  | byt j=>A6⟨t',rfl⟩:=ry;~PySem.W.eq_bytes (aY I q Dh)
  | _=>~absurd (show false=true from hs) C6
 | _=>cases y<;>~absurd (show false=true from hs) C6
A8 Yy:jQ X (compareOp .NotEq) MK:=by
 intro pins s σ H x y v u Q I rx ry h
 A6⟨hs,q⟩:=h
 cases x with
 | non=>
  cases rx
  cases y with
  | non=>cases ry;~PySem.EqNone.ne_none_none (aY I q (by simp))
  | bl j=>cases ry;~PySem.EqNone.ne_none_bool (aY I q (by simp))
  | int j=>A6⟨t',rfl⟩:=ry;~PySem.EqNone.ne_none_int (aY I q (by simp))
  | str j=>A6⟨t',rfl⟩:=ry;~PySem.EqNone.ne_none_str (aY I q (by simp))
  | _=>~absurd (show false=true from hs) C6
 | bl i=>
  cases rx
  cases y with
  | non=>cases ry;~PySem.EqNone.ne_bool_none (aY I q (by simp))
  | bl j=>cases ry;~ne_bool (aY I q (congrArg not Iw))
  | str j=>A6⟨t',rfl⟩:=ry;~PySem.EqMixed.ne_bool_str (aY I q (by simp))
  | _=>~absurd (show false=true from hs) C6
 | int i=>
  A6⟨t,rfl⟩:=rx
  cases y with
  | non=>cases ry;~PySem.EqNone.ne_int_none (aY I q (by simp))
  | int j=>A6⟨t',rfl⟩:=ry;~ne_int (aY I q (congrArg not Df))
  | str j=>A6⟨t',rfl⟩:=ry;~PySem.EqMixed.ne_int_str (aY I q (by simp))
  | _=>~absurd (show false=true from hs) C6
 | str i=>
  A6⟨t,rfl⟩:=rx
  cases y with
  | non=>cases ry;~PySem.EqNone.ne_str_none (aY I q (by simp))
  | bl j=>cases ry;~PySem.EqMixed.ne_str_bool (aY I q (by simp))
  | int j=>A6⟨t',rfl⟩:=ry;~PySem.EqMixed.ne_str_int (aY I q (by simp))
  | str j=>A6⟨t',rfl⟩:=ry;~ne_str (aY I q (congrArg not Dg))
  | _=>~absurd (show false=true from hs) C6
 | byt i=>
  A6⟨t,rfl⟩:=rx
  cases y with
  | byt j=>A6⟨t',rfl⟩:=ry;~PySem.W.ne_bytes (aY I q (congrArg not Dh))
  | _=>~absurd (show false=true from hs) C6
 | _=>cases y<;>~absurd (show false=true from hs) C6
A8 Rt:jQ X (compareOp .Lt) (Nj fun i j=>.bl (decide (i<j))):=HX fun _ _ _ _ _ _ _ q=>lt_int q
A8 jQ.or{f:Value→Value→Sem Value}{r r':R2}(h:jQ X f r)(h':jQ X f r'):jQ X f (fun x y H Q=>r x y H Q∨r' x y H Q):=by
 intro pins s σ H x y v u Q I rx ry q
 rcases q with q | q
 ·~h pins s σ H x y v u Q I rx ry q
 ·~h' pins s σ H x y v u Q I rx ry q
A8 eQ(b:Expr){op:CmpOp}(h:op≠.In:=by decide)(h2:op≠.NotIn:=by decide):behindInMarks op b=false:=by
 have e1:(op==CmpOp.In)=false:=by cases op<;>first | rfl | ~absurd rfl h
 have e2:(op==CmpOp.NotIn)=false:=by cases op<;>first | rfl | ~absurd rfl h2
 cases b<;>simp[behindInMarks,e1,e2]
A8 Oe{op:CmpOp}{r:R2}(ho:jQ X (compareOp op) r)(ha:PE X a ta)(hb:PE X b tb)(hm:behindInMarks op b=false):PE X (.Compare a [op] [b] pos) (xY r ta tb):=by
 intro pins s σ H Q I h
 ~wpAny_Compare1 (Uv ha hb I h fun v u s2 x y H2 I2 rx ry q=>ho pins s2 σ H2 x y v u Q I2 rx ry q) hm
def Iz(t:TE):TT:=fun σ H Q=>t σ H fun x H'=>∃k,x=.bl k∧Q k H'
A8 Og{op:CmpOp}{r:R2}(ho:jQ X (compareOp op) r)(ha:PE X a ta)(hb:PE X b tb)(hm:behindInMarks op b=false):PT X (.Compare a [op] [b] pos) (Iz (xY r ta tb)):=by
 intro pins s σ H Q I h
 &wpAny_isTrue_Compare1 (cG (ha pins s σ H _ I h) fun v s1 ⟨x,H1,I1,r1,q1⟩=>cG (hb pins s1 σ H1 _ I1 q1) fun u s2 ⟨y,H2,I2,r2,q2⟩=>
  cG (ho pins s2 σ H2 x y v u _ I2 r1 r2 q2) fun c s3 ⟨z,H3,I3,r3,k,e,q3⟩=>?_) hm
 subst e
 cases r3
 ~wpAny_truthy_bool ⟨H3,I3,q3⟩
A8 vU:(sizeLine:Nat)<2 ^ 63:=by rw[sizeLine_eq];decide
A8 vals1{x:V}{us:List Value}(r:Vals [x] us):∃u,us=[u]∧RelV x u:=by
 cases r with
 | cons r1 r2=>cases r2;~⟨_,rfl,r1⟩
A8 vals2{x y:V}{us:List Value}(r:Vals [x,y] us):∃u w',us=[u,w']∧RelV x u∧RelV y w':=by
 cases r with
 | cons r1 r2=>
  cases r2 with
  | cons r3 r4=>cases r4;~⟨_,_,rfl,r1,r3⟩
end
end L2
namespace L2
open PySem PySem.Spec PyProof.Rows
structure Vb(h:Heap)(x dx C:Addr)(mA:Str→Option Value):Prop where
 obj:h.get? x=some (P0 C dx)
 ns:h.Ns1 dx mA
 ne:dx≠x
A8 Ge{h:Heap}{dx:Addr}{mA:Str→Option Value}(n:h.Ns1 dx mA):∃od,h.get? dx=some od∧∀name,P7 name od=some (mA name):=by
 A6⟨o,es,ep,ho,hd,hk,_,hm⟩:=n
 &⟨o,ho,fun name=>?_⟩
 have e:=hm name
 A7 nsFind findBy at e
 rw[←Array.find?_toList]at e
 A7 P7
 rw[hd]
 dsimp only
 split
 ·rename_i y q
  rw[q]at e
  ~congrArg some e
 ·rename_i q
  rw[q]at e
  have a:es.toList.any (·.refKey)=false:=by
   rw[List.any_eq_false]
   intro y hy
   A6⟨z,t,hkey⟩:=hk y (Array.mem_toList_iff.mp hy)
   simp[DictEntry.refKey,hkey]
  have a':¬es.toList.any (·.refKey)=true:=by rw[a];~C6
  rw[if_neg a']
  ~congrArg some e
A8 Vb.look{h:Heap}{x dx C:Addr}{mA:Str→Option Value}(I:Vb h x dx C mA):∃od,PySem.W.InstAt h x (P0 C dx) C (some od)∧∀name,P7 name od=some (mA name):=
 let ⟨od,ho,hl⟩:=Ge I.ns
 ⟨od,⟨I.obj,rfl,rfl,ho⟩,hl⟩
section
variable{prog:Program}{w:World}{A:Around}{E:Value→Shared→Prop}{s:Shared}{K:aA}{x dx C f:Addr}{mA:Str→Option Value}{name:Str}{v:Value}
end
A8 oM.some_of{v:V}{o:Option Value}(r:oM (some v) o):∃u,o=some u∧RelV v u:=by
 cases o with
 | none=>~(show False from r).elim
 | some u=>~⟨u,rfl,r⟩
section
variable{P:Program}{w:World}{H H':Hp}{h h':Heap}{a C dx:Addr}{fs fs':List (Str×V)}
A8 Oh(hok:jU P w H h)(e:H a=some (.ins C dx fs)):∃mA,Vb h a dx C mA∧(∀f,oM (fs.lookup f) (mA f))∧U2 mA (fs.map (·.1))∧fs.length≤1000∧H dx=some (.own a):=by
 A6⟨d,z,ne,ob,mA,n,r,q⟩:=(show bN P w H h a (.ins C dx fs)from hok a _ e)
 ~⟨mA,⟨ob,n,ne⟩,r,q,z,d⟩
end
structure DY(K:aA)(C:Addr):Prop where
 pg:S4 K C Str.empty=true
 hd:PySem.W.hasDictIn K C=true
 po:PySem.W.plainOver K C=true
 sa:G4 K (.ref C) "__setattr__" = some (some (.builtin "object.__setattr__"))
A8 DY.get{K:aA}{C:Addr}(c:DY K C)(f:Str):S4 K C f=true:=c.pg
def Vc(K:aA)(C:Addr)(f:Str):Prop:=G4 K (.ref C) f=some none
structure VN(K:aA)(C:Addr)(f:Str)(v:V)(u:Value):Prop where
 at_:G4 K (.ref C) f=some (some u)
 rel:RelV v u
 get:N4 K u "__get__" = some none
 cp:PySem.W.copiedNames.contains f=false
structure Meth(K:aA)(C:Addr)(m:Str)(f:Addr):Prop where
 at_:G4 K (.ref C) m=some (some (.ref f))
 fn:U4 K (.ref f)=true
 kp:G0 K (.ref f)=true
section
variable{X:Cx}{pins:List (Addr×Obj)}{σ:St}{H:Hp}{s:Shared}{a C dx:Addr}{fs:List (Str×V)}{f:Str}{v:V}{A:Around}{E:Value→Shared→Prop}
end
section
variable{X:Cx}{o e value:Expr}{f:Str}{pos pos' tpos:Pos}{ta tv:TE}
end
section
variable{X:Cx}{pins:List (Addr×Obj)}{σ:St}{H:Hp}{s:Shared}{A:Around}{E:Value→Shared→Prop}{Q:Value→Shared→Prop}{c:Value}{b:Bool}
inductive oO(K:aA)(H:Hp):V→Value→Prop where
 | non:oO K H .non (.type "NoneType")
 | bl (x:Bool):oO K H (.bl x) (.type "bool")
 | int (i:Int):oO K H (.int i) (.type "int")
 | str (x:Str):oO K H (.str x) (.type "str")
 | flt (x:UInt64):oO K H (.flt x) (.type "float")
 | lst {a:Addr} {xs:List V} (e:H a=some (.lst xs)):oO K H (.ref a) (.type "list")
 | eV {a:Addr} {o:Obj} {xs:List V} (e:H a=some (.eV o (.lst xs))):oO K H (.ref a) (.type "list")
 | tup {a:Addr} {xs:List V} (e:H a=some (.tup xs)):oO K H (.ref a) (.type "tuple")
 | dK {a:Addr} {kvs:List (Key×V)} (e:H a=some (.dK kvs)):oO K H (.ref a) (.type "dict")
 | dT {a:Addr} {kvs:List (List Key×V)} (e:H a=some (.dT kvs)):oO K H (.ref a) (.type "dict")
 | ins {a C dx:Addr} {fs:List (Str×V)} (e:H a=some (.ins C dx fs)) (cl:DY K C) (ha:G4 K (.ref C) "__class__" = some (some (.builtin "object.__class__")))
   (hn:N4 K (.builtin "object.__class__") "__get__" = some (some (.builtin "getset_descriptor.__get__"))) (htk:T0 K (.builtin "object.__class__")=some true)
   (hm:T9 K C (.type "object")=some true):oO K H (.ref a) (.ref C)
A8 uH{x:V}{u t:Value}(I:Inv X pins σ H s)(rx:RelV x u)(ty:oO X.K H x t)(e:E1 X.K t c=some b)(h:∀tk,Q (.bool b) {s with toks:=tk}) :
  wpAny (model X.prog X.w) A (call (.builtin "isinstance") [u,c]) Q E s:=by
 cases ty with
 | non=>cases(show u=Value.none from rx);~E5 PySem.W.kitx_none I.vN True.intro e (fun z=>nomatch z) h
 | bl y=>cases(show u=Value.bool y from rx);~E5 PySem.W.kitx_bool I.vN True.intro e (fun z=>nomatch z) h
 | int i=>A6⟨t,q⟩:=(show ∃t,u=Value.int i t from rx);cases q;~E5 PySem.W.kitx_int I.vN True.intro e (fun z=>nomatch z) h
 | str y=>A6⟨t,q⟩:=(show ∃t,u=Value.str y t from rx);cases q;~E5 PySem.W.kitx_str I.vN True.intro e (fun z=>nomatch z) h
 | flt y=>A6⟨t,q⟩:=(show ∃t,u=Value.float y t from rx);cases q;~E5 PySem.W.kitx_float I.vN True.intro e (fun z=>nomatch z) h
 | @lst a xs ea=>
  cases(show u=Value.ref a from rx)
  A6⟨_,_,n,_,h1⟩:=(show bN X.prog X.w H s.heap a (.lst xs)from I.hok a _ ea)
  ~E5 N5 I.vN ⟨_,h1,rfl⟩ e (fun z=>nomatch z) h
 | @eV a ob xs ea=>
  cases(show u=Value.ref a from rx)
  A6⟨_,_,_,n,_,h1⟩:=(show bN X.prog X.w H s.heap a (.eV ob (.lst xs))from I.hok a _ ea)
  ~E5 N5 I.vN ⟨_,h1,rfl⟩ e (fun z=>nomatch z) h
 | @tup a xs ea=>
  cases(show u=Value.ref a from rx)
  A6⟨_,_,_,p⟩:=(show bN X.prog X.w H s.heap a (.tup xs)from I.hok a _ ea)
  A6⟨o,h1,h2,_⟩:=p
  ~E5 R4 I.vN ⟨o,h1,h2⟩ e (fun z=>nomatch z) h
 | @dK a kvs ea=>
  cases(show u=Value.ref a from rx)
  A6⟨_,_,vs,_,p⟩:=(show bN X.prog X.w H s.heap a (.dK kvs)from I.hok a _ ea)
  A6⟨o,es,ep,h1,h2,_⟩:=p
  ~E5 S0 I.vN ⟨o,h1,h2.1⟩ e (fun z=>nomatch z) h
 | @dT a kvs ea=>
  cases(show u=Value.ref a from rx)
  A6⟨_,_,xs,_,o,es,ep,h1,h2,_⟩:=(show bN X.prog X.w H s.heap a (.dT kvs)from I.hok a _ ea)
  ~E5 S0 I.vN ⟨o,h1,h2.1⟩ e (fun z=>nomatch z) h
 | @ins a C dx fs ea cl ha hn htk hm=>
  cases(show u=Value.ref a from rx)
  A6⟨mA,O,_⟩:=Oh I.hok ea
  A6⟨od,J,_⟩:=O.look
  ~E5 (PySem.W.kitx_own (cl.get _) cl.hd ha hn htk hm) I.vN J e (fun z=>nomatch z) h
end
end L2
namespace L2
open PySem PySem.Spec PyProof.Rows
structure dH(k:Nat)(A:Around):Prop where
 hd:A.handled=none
 dp:A.depth+3*k+5<recursionLimit
 un:A.units+16*k+200<cLine
A8 dH.mono{j k:Nat}{A:Around}(r:dH k A)(h:j≤k):dH j A:=⟨r.hd,by have:=r.dp;omega,by have:=r.un;omega⟩
A8 dH.deeper{k:Nat}{A:Around}(r:dH (k+1) A)(env:Env):dH k (A.deeper env):=
 ⟨r.hd,by have:=r.dp;show A.depth+1+3*k+5<_;omega,by have:=r.un;show A.units+3+16*k+200<_;omega⟩
A8 dH.depth{k:Nat}{A:Around}(r:dH k A):A.depth<recursionLimit:=by have:=r.dp;omega
A8 dH.units{k:Nat}{A:Around}(r:dH k A):A.units+64<cLine:=by have:=r.un;omega
def oR:TA:=fun _ H Q=>Q [] H
def eX(ta:TE)(tr:TA):TA:=fun σ H Q=>ta σ H fun x H1=>tr σ H1 fun xs H2=>Q (x::xs) H2
section
variable{X:Cx}{e:Expr}{es:List Expr}{te:TE}{t:TA}{pos:Pos}
A8 mJ:PA X [] oR:=fun _ _ _ _ H Q I h=>Calls.spliced_nil ⟨[],H,I,.nil,h⟩
A8 gA(ha:PE X e te)(hr:PA X es t)(hs:starEach (e::es) X.env=(false,eval e X.env)::starEach es X.env:=by rfl):PA X (e::es) (eX te t):=by
 intro pos pins s σ H Q I h
 rw[hs]
 show wpAny _ _ (spliced ((false,eval e X.env)::backTo pos (starEach es X.env))) _ _ s
 &Calls.spliced_cons (cG (ha pins s σ H _ I h) fun u s1 ⟨x,H1,I1,r1,q1⟩=>?_)
 ~cG (hr pos pins s1 σ H1 _ I1 q1) fun us s2 ⟨xs,H2,I2,r2,q2⟩=>⟨x::xs,H2,I2,.cons r1 r2,q2⟩
def Vd(t:TA):TE:=fun σ H Q=>t σ H fun xs H1=>xs.length≤sizeLine∧∀p,H1 p=none→Q (.ref p) (upd H1 p (.tup xs))
def Ja(t:TA):TE:=fun σ H Q=>t σ H fun xs H1=>xs.length≤sizeLine∧∀p,H1 p=none→Q (.ref p) (upd H1 p (.lst xs))
A8 Ve{x1}(h:PA X es t):PE X (.Tuple es x1 pos) (Vd t):=by
 intro pins s σ H Q I hq
 &wpAny_Tuple_spliced (cG (h pos pins s σ H _ I hq) fun us s1 ⟨xs,H1,I1,r,z,q⟩=>⟨by rw[←r.length];~z,?_⟩)
 have hf:H1 s1.heap.objs.size=none:=I1.hok.fresh (B6 _)
 &⟨.ref s1.heap.objs.size,upd H1 s1.heap.objs.size (.tup xs),I1.laid (t':=s1.toks) (fun b u e=>Heap.get?_push_of_some _ e) (B6 _) ?_,rfl,q _ hf⟩
 ~⟨z,us,r,⟨_,Heap.get?_push_size _ rfl,rfl,_,rfl⟩⟩
A8 Jb(h:PA X es t):PE X (.List es pos) (Ja t):=by
 intro pins s σ H Q I hq
 &wpAny_List_spliced (cG (h pos pins s σ H _ I hq) fun us s1 ⟨xs,H1,I1,r,z,q⟩=>⟨by rw[←r.length];~z,?_⟩)
 have hf:H1 s1.heap.objs.size=none:=I1.hok.fresh (B6 _)
 &⟨.ref s1.heap.objs.size,upd H1 s1.heap.objs.size (.lst xs),I1.laid (t':=s1.toks) (fun b u e=>Heap.get?_push_of_some _ e) (B6 _) ?_,rfl,q _ hf⟩
 ~⟨z,us,0,r,Heap.get?_push_size _ rfl⟩
end
abbrev Sp:=List V→Hp→VK→XK→Prop
abbrev Gf:=List Env→Hp→Shared→XK→Value→Shared→Prop
structure Oi(P:Program)(w:World)(K:aA)(mg:Str→Option Value)(base:Heap)(A:Around)(outer:List Env)(s:Shared)(H:Hp):Prop where
 frames:A.frames=some outer
 mod:Mod K mg base
 bs:∀b o,base.get? b=some o→s.heap.get? b=some o∧H b=none
 Rn:base.objs.size≤s.heap.objs.size
 pW:s.heap.FunFrames base outer
 Yd:∀b∈frs outer,H b=none
 hok:jU P w H s.heap
 bare:AllBare s.gens
def CE(outer:List Env)(P:Program)(w:World)(H:Hp)(s:Shared)(Q:VK)(u:Value)(s':Shared):Prop:=
 ∃v H',s'.os=s.os∧AllBare s'.gens∧Un (frs outer) [] H H' s.heap s'.heap∧jU P w H' s'.heap∧RelV v u∧Q v H'
def CR(CX:Gf)(outer:List Env)(P:Program)(w:World)(H:Hp)(s:Shared)(Q:VK)(E:XK)(r:Result)(s':Shared):Prop:=
 match r with
 | .ok (.ret u)=>CE outer P w H s Q u s'
 | .ok _=>False
 | .error e=>CX outer H s E e s'
structure mK(P:Program)(w:World)(K:aA)(mg:Str→Option Value)(base:Heap)(CX:Gf)(k:Nat)(f:Addr)(fd:FuncData)(ps:List Str)(sp:Sp):Prop where
 len:∀vs H Q E,sp vs H Q E→vs.length=ps.length
 run:∀(A:Around)(outer:List Env)(s:Shared)(H:Hp)(args:Args)(us:List Value)(vs:List V)(Q:VK)(E:XK),dH k A→Oi P w K mg base A outer s H→BindsTo s fd args (ps.zip us)→Vals vs us→sp vs H Q E →
  codeAny (model P w) A (.call (.ref f) args) (CR CX outer P w H s Q E) s
section
variable{X:Cx}{pins:List (Addr×Obj)}{σ:St}{H:Hp}{s s':Shared}
A8 Inv.env0(I:Inv X pins σ H s):Oi X.prog X.w X.K X.mg X.base X.A X.stack s H:=
 ⟨I.ok.frames,I.ok.mod,I.bs,E7 I.ok.Rn I.sz,I.stack,I.Dc,I.hok,I.bare⟩
A8 Inv.after{Q:VK}{u:Value}(I:Inv X pins σ H s)(h:CE X.stack X.prog X.w H s Q u s'):EP X pins σ Q u s':=by
 A6⟨v,H',os,bare,un,hok,r,q⟩:=h
 A6⟨hh,g,d,t,os'⟩:=s'
 A6 rfl:os'=s.os:=os
 ~⟨v,H',I.call (h':=hh) (g':=g) (d':=d) (t':=t) (ch:=[]) un hok bare (fun b z=>absurd z (by simp)),r,q⟩
end
def xZ(sp:Sp)(Ru:List V)(E:XK)(t:TA):TE:=fun σ H Q=>t σ H fun vs H1=>sp (vs++Ru) H1 Q E
def Binds(K:aA)(fd:FuncData)(ps:List Str)(ds:List Value):Prop:=
 ∀(s:Shared)(us:List Value),K.In s.heap→(us++ds).length=ps.length→BindsTo s fd ⟨us,[]⟩ (ps.zip (us++ds))
A8 Binds.all{K:aA}{fd:FuncData}{ps:List Str}(h:∀us:List Value,us.length=ps.length→bindArgs fd ⟨us,[]⟩=pure (ps.zip us)):Binds K fd ps []:=fun s us _ hl=>by
 rw[L8]at hl ⊢
 ~.of_eq (h us hl)
def Passes(CX:Gf)(X:Cx)(E:XK):Prop:=∀(pins:List (Addr×Obj))(σ:St)(H:Hp)(s:Shared)(e:Value)(s':Shared),Inv X pins σ H s→CX X.stack H s E e s'→X.xe e s'
section
variable{X:Cx}{CX:Gf}{k:Nat}{f C:Addr}{fd:FuncData}{ps:List Str}{sp:Sp}{Ru:List V}{ds:List Value}{E:XK}{x m:Str}{p pos apos:Pos}{e o:Expr}{es:List Expr}{ta:TE}{t:TA}
A8 Vf{pins:List (Addr×Obj)}{σ:St}{H:Hp}{s:Shared}{Q:VK}{us:List Value}{vs:List V}(F:mK X.prog X.w X.K X.mg X.base CX k f fd ps sp)(hr:dH k X.A)(hb:Binds X.K fd ps ds)(hd:Vals Ru ds)(hx:Passes CX X E)
  (I:Inv X pins σ H s) (r:Vals vs us) (h:sp (vs++Ru) H Q E):wpAny (model X.prog X.w) X.A (call (.ref f) us) (EP X pins σ Q) X.xe s:=by
 have r2:Vals (vs++Ru) (us++ds):=r.append hd
 have hl:(us++ds).length=ps.length:=by rw[←r2.length];~F.len _ _ _ _ h
 &wpAny_call (codeAny_mono (F.run X.A X.stack s H ⟨us,[]⟩ (us++ds) (vs++Ru) Q E hr I.env0 (hb s us I.vN hl) r2 h) fun r s' hq=>?_)
 cases r with
 | error e=>~hx pins σ H s e s' I hq
 | ok fl=>
  cases fl with
  | ret u=>~I.after hq
  | next=>~False.elim hq
  | brk=>~False.elim hq
  | cont=>~False.elim hq
A8 Oj(F:mK X.prog X.w X.K X.mg X.base CX k f fd ps sp)(hr:dH k X.A)(hg:Gl X x)(hm:X.mg x=some (.ref f))(hk:G0 X.K (.ref f)=true)(hb:Binds X.K fd ps ds)(hd:Vals Ru ds)(hx:Passes CX X E)
  (ha:PA X (e::es) t) (hdb:(x==("__debug__" : Str))=false:=by decide) (he:starEach (e::es) X.env=(false,eval e X.env)::starEach es X.env:=by rfl) (hpl:(backTo pos (starEach es X.env)).any (·.1)=false:=by rfl) :
  PE X (.Call (.Name x p) (e::es) [] pos) (xZ sp Ru E t):=by
 intro pins s σ H Q I h
 &wpAny_Call_Name_kw (De I hg hm ?_ hdb)
 &PySem.W.callWith_K (h₀:=X.base) I.ok.mod.HF hk (cG (ha pos pins s σ H _ I h) fun us s1 ⟨vs,H1,I1,r,q⟩=>⟨I1.vN,?_⟩) he hpl
 ~Vf F hr hb hd hx I1 r q
structure Mk(K:aA)(C f:Addr):Prop where
 makes:PySem.W.makesIn K C=true
 init:G4 K (.ref C) "__init__" = some (some (.ref f))
 fn:U4 K (.ref f)=true
 kp:G0 K (.ref C)=true
end
section
variable{X:Cx}{CX:Gf}{k:Nat}{f C:Addr}{fd:FuncData}{ps ks:List Str}{sp:Sp}{E:XK}{x m:Str}{p pos apos kpos:Pos}{e o:Expr}{es:List Expr}{kws:List Keyword}{te ta:TE}{t tk:TA}{nm:Option Str}
structure IK(K:aA)(fd:FuncData)(ps ks:List Str)(g:List Value→List Value→List Value)(gV:List V→List V→List V):Prop where
 to:∀(s:Shared)(us ws:List Value),K.In s.heap→(g us ws).length=ps.length→BindsTo s fd ⟨us,ks.zip ws⟩ (ps.zip (g us ws))
 rel:∀{vs:List V} {us:List Value} {zs:List V} {ws:List Value},Vals vs us→Vals zs ws→Vals (gV vs zs) (g us ws)
variable{g:List Value→List Value→List Value}{gV:List V→List V→List V}
end
structure bJ(N P:List Str)(sc:Scope):Prop where
 kind:sc.kind=.function
 co:sc.isCoroutine=false
 gen:sc.isGenerator=false
 nd:N.Nodup
 pre:N.take P.length=P
 par:∀x∈P,sc.names.lookup x=some .local∨sc.names.lookup x=some .cell
 Vg:∀y∈sc.names,y.2≠.free
A8 uI{kindOf:Str→Option NameKind}{x:Str}:∀{binds:List (Str×Value)} {m:Str→Option Value},(∀v,(x,v)∉binds)→bindL kindOf binds m x=m x
 | [],_,_=>rfl
 | (n,v)::r,m,h=>by
  A7 bindL
  rw[uI fun w hw=>h w (C5 _ hw)]
  split
  ·have:x≠n:=by rintro rfl;~h v C9
   simp[this]
  ·rfl
A8 uJ{kindOf:Str→Option NameKind}{x:Str}:∀{binds:List (Str×Value)} {m:Str→Option Value},(∀v,(x,v)∉binds)→bindC kindOf binds m x=m x
 | [],_,_=>rfl
 | (n,v)::r,m,h=>by
  A7 bindC
  rw[uJ fun w hw=>h w (C5 _ hw)]
  split
  ·rfl
  ·have:x≠n:=by rintro rfl;~h v C9
   simp[this]
A8 uK{kindOf:Str→Option NameKind}{x:Str}{v:Value}:∀{P:List Str} {vs:List Value} {i:Nat} {m:Str→Option Value},P.Nodup→P[i]?=some x→vs[i]?=some v→kindOf x=some .local →
  bindL kindOf (P.zip vs) m x=some v
 | [],_,_,_,_,h,_,_=>by simp at h
 | _::_,[],_,_,_,_,h,_=>by simp at h
 | p::P,w::vs,0,m,nd,h1,h2,hk=>by
  simp at h1 h2;subst h1;subst h2
  show bindL kindOf ((p,w)::P.zip vs) m p=_
  A7 bindL
  rw[uI fun v hv=>(G1.mp nd).1 (P1 hv).1,if_pos hk]
  simp
 | p::P,w::vs,i+1,m,nd,h1,h2,hk=>by
  show bindL kindOf ((p,w)::P.zip vs) m x=_
  A7 bindL
  ~uK (i:=i) (G1.mp nd).2 (by simpa using h1) (by simpa using h2) hk
A8 uL{kindOf:Str→Option NameKind}{x:Str}{v:Value}:∀{P:List Str} {vs:List Value} {i:Nat} {m:Str→Option Value},P.Nodup→P[i]?=some x→vs[i]?=some v→kindOf x≠some .local →
  bindC kindOf (P.zip vs) m x=some v
 | [],_,_,_,_,h,_,_=>by simp at h
 | _::_,[],_,_,_,_,h,_=>by simp at h
 | p::P,w::vs,0,m,nd,h1,h2,hk=>by
  simp at h1 h2;subst h1;subst h2
  show bindC kindOf ((p,w)::P.zip vs) m p=_
  A7 bindC
  rw[uJ fun v hv=>(G1.mp nd).1 (P1 hv).1,if_neg hk]
  simp
 | p::P,w::vs,i+1,m,nd,h1,h2,hk=>by
  show bindC kindOf ((p,w)::P.zip vs) m x=_
  A7 bindC
  ~uL (i:=i) (G1.mp nd).2 (by simpa using h1) (by simpa using h2) hk
def start(N:List Str)(vs:List V):St:=vs.map some++E2 (N.length-vs.length) none
def vV(CX:Gf)(P:Program)(w:World)(K:aA)(mg:Str→Option Value)(base:Heap)(N:List Str)(qual:Str)(scope:Scope)(f:Addr)(cd:Value)(A:Around)(outer:List Env)(s:Shared)(H:Hp)(E:XK):Cx where
 prog:=P
 w:=w
 K:=K
 mg:=mg
 base:=base
 A:=A.deeper (envOfC qual scope s.heap.objs.size f cd)
 N:=N
 s₀:=s
 H₀:=H
 env:=envOfC qual scope s.heap.objs.size f cd
 outer:=outer
 stack:=envOfC qual scope s.heap.objs.size f cd::outer
 ex:=[]
 calm:=true
 fn:=fun _=>true
 pn:=[]
 xe:=fun e s'=>wpAny (model P w) (A.deeper (envOfC qual scope s.heap.objs.size f cd)) (leaving (envOfC qual scope s.heap.objs.size f cd) e) (fun _ s''=>CX outer H s E e s'') (fun e' s''=>CX outer H s E e' s'') s'
A8 yC{sc:Scope}{n:Nat}{x:Str}(h:sc.names.lookup x=some .cell):∃c,(cellsFrom n sc.names []).lookup x=some c:=by
 have q:=P5 sc.names n [] (.inl h)
 ~O1.mp q
A8 Gg{CX:Gf}{P:Program}{w:World}{K:aA}{mg:Str→Option Value}{base:Heap}{N ps:List Str}{qual:Str}{scope:Scope}{f:Addr}{cd:Value}{A:Around}{outer:List Env}{s s1:Shared}{H:Hp}{E:XK}{us:List Value}{vs:List V}
  (S:bJ N ps scope) (hd:A.handled=none) (e0:Oi P w K mg base A outer s H) (hl:vs.length=ps.length) (r:Vals vs us)
  (x:InCallC s s.heap.objs.size (bindL (envOfC qual scope s.heap.objs.size f cd).kindOf (ps.zip us) fun _=>none) (cellsFrom (s.heap.objs.size+1) scope.names []) (bindC (envOfC qual scope s.heap.objs.size f cd).kindOf (ps.zip us) fun _=>none) s1) :
  Inv (vV CX P w K mg base N qual scope f cd A outer s H E) [] (start N vs) H s1:=by
 have hpl:ps.length≤N.length:=by have:=congrArg List.length S.pre;rw[J9]at this;omega
 A6⟨h1,tk,rfl,hk⟩:=x.done
 have Yz:∀b:Addr,b∉(vV CX P w K mg base N qual scope f cd A outer s H E).ex:=fun b z=>absurd (show b∈([]:List Addr)from z) (by simp)
 &⟨⟨e0.mod,S.kind,rfl,rfl,B6 _,fun y z c h1 h2=>?_,fun y hy=>?_,fun y c _ h=>?_,fun _=>hd,Around.frames_deeper e0.frames,.inr ⟨rfl,rfl⟩,fun b z=>absurd z (Yz b),e0.bs,e0.Rn,fun b _ _=>Yz b,fun b z=>absurd z (Yz b),e0.pW,e0.Yd⟩,
  rfl,e0.bare,Un.kept hk,⟨_,x.toInCall.ns,fun i y v h1 h2 h3=>?_⟩,fun y c h=>⟨_,x.cell y c h⟩,e0.hok.fresh (B6 _),fun y c h=>?_,fun p hp=>absurd (show p∈([]:List (Addr×Obj))from hp) (by simp),e0.hok.kept hk,?_⟩
 ·~name_of_addr x.apart (G2 h1) (G2 h2)
 ·have hy:scope.names.lookup y=some .cell∨scope.names.lookup y=some .free:=hy
  rcases hy with hy | hy
  ·~yC hy
  ·~absurd rfl (S.Vg _ (G2 hy))
 ·~J4 (x.above y c (G2 h))
 ·have hi:i<vs.length:=by
   A7 start at h2
   by_cases hi:i<vs.length
   ·~hi
   ·rw[N2 (by simpa using hi)]at h2
    rw[O6]at h2
    split at h2<;>cases h2
  have ha:vs[i]?=some v:=by
   A7 start at h2
   rw[N9 (by simpa using hi),C4]at h2
   cases e:vs[i]? with
   | none=>rw[e]at h2;cases h2
   | some a=>rw[e]at h2;cases h2;rfl
  A6⟨u,hu,rv⟩:=r.get ha
  have hp:ps[i]?=some y:=by
   rw[←S.pre,List.getElem?_take_of_lt A0];~h1
  have MN:ps.Nodup:=by rw[←S.pre];~S.nd.sublist (S1 _ _)
  &⟨u,rv,?_⟩
  rcases S.par y (E8 hp)with k | k
  ·~.inl ⟨k,uK MN hp hu k⟩
  ·A6⟨c,e⟩:=yC (n:=s.heap.objs.size+1) k
   &.inr ⟨.inl k,c,e,?_⟩
   have q:=x.cell y c e
   rw[uL MN hp hu (by show scope.names.lookup y≠_;rw[k];decide)]at q
   ~q
 ·~e0.hok.fresh (J4 (x.above y c (G2 h)))
 ·A7 start
  show _=N.length
  rw[D7,B4,P8]
  omega
A8 Za{CX:Gf}{P:Program}{w:World}{K:aA}{mg:Str→Option Value}{base:Heap}{k:Nat}{f:Addr}{name qual:Str}{params:Arguments}{body:List Stmt}{scope:Scope}{dV kV doc pm cdv ct oc:Value}{an od:Option Addr}
  {osl:Array (Option Value)} {N ps:List Str} {sp:Sp} (lk:K.lookup f=some ⟨oc,od,.func (E9 name qual params body scope dV kV doc pm an cdv ct),osl⟩) (hcd:J7 K cdv qual=true) (S:bJ N ps scope)
  (len:∀vs H Q E,sp vs H Q E→vs.length=ps.length)
  (hbody:∀(A:Around)(outer:List Env)(s:Shared)(H:Hp)(vs:List V)(Q:VK)(E:XK),dH k (A.deeper (envOfC qual scope s.heap.objs.size f cdv))→sp vs H Q E →
   ∃t,Af (vV CX P w K mg base N qual scope f cdv A outer s H E) body t∧t {nx:=fun _ H'=>Q .non H',rt:=Q} (start N vs) H) :
  mK P w K mg base CX (k+1) f (E9 name qual params body scope dV kV doc pm an cdv ct) ps sp:=by
 &⟨len,fun A outer s H args us vs Q E hr e0 hb r hsp=>?_⟩
 have hl:=len _ _ _ _ hsp
 have KX:K.In s.heap:=e0.mod.HF.keeps fun b o e=>(e0.bs b o e).1
 have lim:s.heap.NoLimit:=e0.mod.nolimit.keeps fun b o e=>(e0.bs b o e).1
 have hkind:∀y∈ps.zip us,scope.names.lookup y.1=some .local∨(scope.names.lookup y.1=some .cell∧((cellsFrom (s.heap.objs.size+1) scope.names []).lookup y.1).isSome=true):=fun⟨n,v⟩ hy=>by
  rcases S.par n (P1 hy).1 with q | q
  ·~.inl q
  ·~.inr ⟨q,P5 _ _ _ (.inl q)⟩
 &codeAny_call_function hr.depth (KX _ _ lk) rfl S.co S.gen rfl (PySem.W.codeRec_of KX hcd) (hb _ _ _ _ ?_)
 &wpAny_newFunctionEnv_cells S.kind hkind fun env he s1 x=>?_
 subst he
 &⟨lim.keeps x.toInCall.keep,codeAny_func ?_⟩
 A6⟨t,ht,hq⟩:=hbody A outer s H vs Q E (hr.deeper _) hsp
 have I:Inv (vV CX P w K mg base N qual scope f cdv A outer s H E) [] (start N vs) H s1:=Gg S hr.hd e0 hl r x
 &wpAny_mono (ht [] s1 (start N vs) H _ I hq) (fun fl s' hs=>?_) fun e s' hs=>hs
 have fin:∀{σ':St} {H':Hp} {v:V} {u:Value},Inv (vV CX P w K mg base N qual scope f cdv A outer s H E) [] σ' H' s'→RelV v u→Q v H'→CE outer P w H s Q u s':=
  fun{σ' H' v u} J rv q=>⟨v,H',J.os,J.bare,J.base,J.hok,rv,q⟩
 cases fl with
 | ret u=>
  A6⟨v,σ',H',J,rv,q⟩:=hs
  ~fin J rv q
 | next=>
  A6⟨σ',H',J,q⟩:=hs
  ~fin (v:=V.non) (u:=Value.none) J rfl q
 | brk=>
  A6⟨_,_,_,q⟩:=hs
  ~False.elim q
 | cont=>
  A6⟨_,_,_,q⟩:=hs
  ~False.elim q
end L2
namespace L2
open PySem PySem.Spec PyProof.Rows
section
variable{X:Cx}{x:Str}{p pos:Pos}{e:Expr}{es:List Expr}{t:TA}{id T:String}{r:List V→Hp→VK→Prop}
def Ol(r:List V→Hp→VK→Prop)(t:TA):TE:=fun σ H Q=>t σ H fun vs H1=>r vs H1 Q
A8 pY(hc:dY X (.builtin id) r)(hg:Gl X x)(hm:X.mg x=none)(hv:bootBuiltins x=some (.builtin id))(ha:PA X (e::es) t)(hn:x ≠ "__name__" := by decide) (hdb:(x==("__debug__" : Str))=false:=by decide)
  (he:starEach (e::es) X.env=(false,eval e X.env)::starEach es X.env:=by rfl) (hpl:(backTo pos (starEach es X.env)).any (·.1)=false:=by rfl):PE X (.Call (.Name x p) (e::es) [] pos) (Ol r t):=by
 intro pins s σ H Q I h
 &wpAny_Call_Name_kw (vP I hg hm hv ?_ hn hdb)
 ~L9 (cG (ha pos pins s σ H _ I h) fun us s1 ⟨vs,H1,I1,r1,q1⟩=>hc pins s1 σ H1 vs us Q I1 r1 q1) he hpl
A8 Gh(hc:dY X (.type T) r)(hg:Gl X x)(hm:X.mg x=none)(hv:bootBuiltins x=some (.type T))(ha:PA X (e::es) t)(hn:x ≠ "__name__" := by decide) (hdb:(x==("__debug__" : Str))=false:=by decide)
  (he:starEach (e::es) X.env=(false,eval e X.env)::starEach es X.env:=by rfl) (hpl:(backTo pos (starEach es X.env)).any (·.1)=false:=by rfl):PE X (.Call (.Name x p) (e::es) [] pos) (Ol r t):=by
 intro pins s σ H Q I h
 &wpAny_Call_Name_kw (vP I hg hm hv ?_ hn hdb)
 ~PyProof.Rows.callWith_type1 (cG (ha pos pins s σ H _ I h) fun us s1 ⟨vs,H1,I1,r1,q1⟩=>hc pins s1 σ H1 vs us Q I1 r1 q1) he hpl
end
end L2
namespace HT
open PySem PyProof.Rows
section
open PySem.SeqAt
open PySem.AutoSeq1 (wpAny_loadPart')
open PySem.MeetsSeq PySem.MeetsSeq2 PySem.MeetsSeq3
end
section
variable{prog:Program}{w:World}{A:Around}{E:Value→Shared→Prop}{s:Shared}
def oU(n d:Nat):Option Int→Nat
 | none=>d
 | some v=>if v<0 then(v+(n:Int)).toNat else min v.toNat n
A8 Om(n d k:Nat):oU n d (some (k:Int))=min k n:=by
 show (if(k:Int)<0 then((k:Int)+(n:Int)).toNat else min (k:Int).toNat n)=min k n
 rw[if_neg A0,S2]
end
end HT
namespace L2
open PySem PySem.Spec PyProof.Rows
abbrev TO:=St→Hp→(Option Int→Hp→Prop)→Prop
def PO(X:Cx)(e:Option Expr)(t:TO):Prop:=
 ∀(pins:List (Addr×Obj))(s:Shared)(σ:St)(H:Hp)(Q:Option Int→Hp→Prop),Inv X pins σ H s→t σ H Q →
  wpAny (model X.prog X.w) X.A (evalPart e X.env) (fun u s'=>∃o H',Inv X pins σ H' s'∧IsPart u o∧Q o H') X.xe s
def Di:TO:=fun _ H Q=>Q none H
def Rw(t:TE):TO:=fun σ H Q=>t σ H fun x H1=>∃i,x=.int i∧Q (some i) H1
section
variable{X:Cx}{e:Expr}{te:TE}{lo hi:Option Expr}{tl th:TO}{pos p2:Pos}
A8 Oo:PO X none Di:=by
 intro pins s σ H Q I h
 rw[evalPart_none]
 ~wpAny_pure ⟨none,H,I,.none,h⟩
A8 Oq(h:PE X e te):PO X (some e) (Rw te):=by
 intro pins s σ H Q I hw
 rw[evalPart_some]
 &cG (h pins s σ H _ I hw) fun u s1 ⟨x,H1,I1,r1,q1⟩=>?_
 A6⟨i,rfl,q⟩:=q1
 A6⟨t,rfl⟩:=r1
 ~⟨some i,H1,I1,.int i t,q⟩
def IV(X:Cx)(r:V→Option Int→Option Int→Hp→VK→Prop):Prop:=
 ∀(pins:List (Addr×Obj))(s:Shared)(σ:St)(H:Hp)(x:V)(v vl vu:Value)(lo hi:Option Int)(sl:Addr)(Q:VK),Inv X pins σ H s→RelV x v→s.heap.IsSliceOf sl vl vu .none→IsPart vl lo→IsPart vu hi→r x lo hi H Q →
  ∃T id,typeLookup (.type T) "__getitem__" = pure (some (.builtin id))∧s.TypeIs v T∧wpAny (model X.prog X.w) X.A (getItem v (.ref sl)) (EP X pins σ Q) X.xe s
def IW(r:V→Option Int→Option Int→Hp→VK→Prop)(te:TE)(tl th:TO):TE:=fun σ H Q=>te σ H fun x H1=>tl σ H1 fun l H2=>th σ H2 fun u H3=>r x l u H3 Q
A8 yD{r:V→Option Int→Option Int→Hp→VK→Prop}(hr:IV X r)(he:PE X e te)(hl:PO X lo tl)(hu:PO X hi th):PE X (.Subscript e (.Slice lo hi none p2) pos) (IW r te tl th):=by
 intro pins s σ H Q I h
 &Subscript_ (cG (he pins s σ H _ I h) fun v s1 ⟨x,H1,I1,r1,q1⟩=>?_)
 &wpAny_Slice (cG (hl pins s1 σ H1 _ I1 q1) fun vl s2 ⟨l,H2,I2,pl,q2⟩=>cG (hu pins s2 σ H2 _ I2 q2) fun vu s3 ⟨u,H3,I3,pu,q3⟩=>?_)
 rw[evalPart_none]
 &wpAny_pure ?_
 have I4:Inv X pins σ H3 {s3 with heap:=s3.heap.push {cls:=.type "slice", data:=.fields #[vl,vu,.none]}}:=I3.kept (t':=s3.toks) fun b ob q=>Heap.get?_push_of_some _ q
 A6⟨T,id,hT,ht,hg⟩:=hr pins {s3 with heap:=s3.heap.push {cls:=.type "slice", data:=.fields #[vl,vu,.none]}} σ H3 x v vl vu l u s3.heap.objs.size Q I4 r1 (Heap.IsSliceOf.new ..) pl pu q3
 show wpAny (model X.prog X.w) X.A (subscriptTail e (.Slice lo hi none p2) v (.ref s3.heap.objs.size)) (EP X pins σ Q) X.xe {s3 with heap:=s3.heap.push {cls:=.type "slice", data:=.fields #[vl,vu,.none]}}
 ~tail_any (ops:=[.ref s3.heap.objs.size,v]) ht hT hg (by with_unfolding_all rfl)
def Aj(xs:List V)(lo hi:Option Int):List V:=(xs.drop (HT.oU xs.length 0 lo)).take (HT.oU xs.length xs.length hi-HT.oU xs.length 0 lo)
A8 yE(xs:List V)(lo hi:Option Int):(Aj xs lo hi).length≤xs.length:=by
 A7 Aj
 rw[J9,L4]
 omega
end
end L2
namespace L2
open PySem PySem.Spec PyProof.Rows
def Zb(n:Nat)(i:Int):Option Nat:=if 0≤i then(if i<n then some i.toNat else none)else if -(n:Int)≤i then some (i+n).toNat else none
def Jc{α:Type}(xs:List α)(i:Int):Option α:=(Zb xs.length i).bind fun j=>xs[j]?
A8 Ot{n:Nat}{i:Int}{j:Nat}(h:Zb n i=some j):seqIndex? i n=some j∧j<n∧-(n:Int)≤i∧i<n:=by
 A7 Zb at h
 by_cases h0:0≤i
 ·rw[if_pos h0]at h
  by_cases h1:i<n
  ·rw[if_pos h1]at h
   have e:i.toNat=j:=D9 h
   ~⟨by rw[seqIndex_of h0 h1,e],by omega,by omega,h1⟩
  ·rw[if_neg h1]at h;cases h
 ·rw[if_neg h0]at h
  by_cases h1:-(n:Int)≤i
  ·rw[if_pos h1]at h
   have e:(i+n).toNat=j:=D9 h
   ~⟨by rw[seqIndex_neg A0 h1,e],by omega,h1,by omega⟩
  ·rw[if_neg h1]at h;cases h
A8 vW{α:Type}{xs:List α}{i:Int}{v:α}(h:Jc xs i=some v):∃j,seqIndex? i xs.length=some j∧xs[j]?=some v∧j<xs.length∧-(xs.length:Int)≤i∧i<xs.length:=by
 A7 Jc at h
 cases e:Zb xs.length i with
 | none=>rw[e]at h;cases h
 | some j=>
  rw[e]at h
  A6⟨h1,h2,h3,h4⟩:=Ot e
  ~⟨j,h1,h,h2,h3,h4⟩
def Dj(b:Expr):Prop:=∀o i,subscripted b false o i=operate [o,i] (getItem o i)
def Nk(X:Cx)(r:R2):Prop:=
 ∀(value slice:Expr)(pins:List (Addr×Obj))(s:Shared)(σ:St)(H:Hp)(x y:V)(v u:Value)(Q:VK),Inv X pins σ H s→RelV x v→RelV y u→r x y H Q →
  subscripted slice false v u=operate [v,u] (getItem v u)→wpAny (model X.prog X.w) X.A (subscriptTail value slice v u) (EP X pins σ Q) X.xe s
def QL(X:Cx)(id:String)(r:V→List V→Hp→VK→Prop):Prop:=
 ∀(pins:List (Addr×Obj))(s:Shared)(σ:St)(H:Hp)(x:V)(xs:List V)(v:Value)(us:List Value)(Q:VK),Inv X pins σ H s→RelV x v→Vals xs us→r x xs H Q →
  wpAny (model X.prog X.w) X.A (call (.builtin id) (v::us)) (EP X pins σ Q) X.xe s
section
variable{X:Cx}{a b:Expr}{ta tb:TE}{pos:Pos}
A8 Nk.or{r r':R2}(h:Nk X r)(h':Nk X r'):Nk X (fun x y H Q=>r x y H Q∨r' x y H Q):=by
 intro value slice pins s σ H x y v u Q I rx ry q hs
 rcases q with q | q
 ·~h value slice pins s σ H x y v u Q I rx ry q hs
 ·~h' value slice pins s σ H x y v u Q I rx ry q hs
A8 Zc{r:R2}(hr:Nk X r)(ha:PE X a ta)(hb:PE X b tb)(hs:Dj b):PE X (.Subscript a b pos) (xY r ta tb):=by
 intro pins s σ H Q I h
 ~Subscript_ (Uv ha hb I h fun v u s2 x y H2 I2 rx ry q=>hr a b pins s2 σ H2 x y v u Q I2 rx ry q (hs _ _))
def Zd(K:aA):R2:=fun x y H Q=>∃p xs i v,x=.ref p∧y=.int i∧gW K H p xs∧Jc xs i=some v∧Q v H
def Ze(K:aA):R2:=fun x y H Q=>∃p xs i v,x=.ref p∧y=.int i∧jP K H p xs∧Jc xs i=some v∧Q v H
def Zf:R2:=fun x y H Q=>∃z i c,x=.str z∧y=.int i∧z.length≤sizeLine∧Jc z.cps.toList i=some c∧Q (.str ⟨#[c]⟩) H
A8 Ou:Nk X (Zd X.K):=by
 intro value slice pins s σ H x y v u Q I rx ry h hs
 A6⟨p,xs,i,z,rfl,rfl,hq,he,q⟩:=h
 cases rx
 A6⟨t,rfl⟩:=ry
 A6⟨its,r,pl,hz⟩:=I.list hq
 A6⟨j,h1,h2,h3,h4,h5⟩:=vW he
 A6⟨w,ew,Gi⟩:=r.get h2
 have hl:=r.length
 have hn:=vU
 have fin:EP X pins σ Q w s:=⟨z,H,I,Gi,q⟩
 by_cases h0:0≤i
 ·have hj:i.toNat=j:=by
   rw[seqIndex_of h0 h5]at h1
   ~D9 h1
  ~item_listR pl.isList h0 A0 (by rw[hj];simpa using ew) fin hs
 ·have hj:(i+(its.toArray.size:Int)).toNat=j:=by
   rw[seqIndex_neg A0 h4]at h1
   rw[B0,←hl]
   ~D9 h1
  ~subscriptTail_builtinR (x:=w) pl.isList.typeIs slot_list_getitem.lookup
   (wpAny_getItem_list_neg (Q:=fun r s'=>r=w∧EP X pins σ Q r s') pl.isList A0 (by rw[B0]<;>omega) A0 (by rw[hj];simpa using ew) ⟨rfl,fin⟩) hs
A8 Vh:Nk X (Ze X.K):=by
 intro value slice pins s σ H x y v u Q I rx ry h hs
 A6⟨p,xs,i,z,rfl,rfl,hq,he,q⟩:=h
 cases rx
 A6⟨t,rfl⟩:=ry
 A6⟨its,r,pl,hz⟩:=I.tuple hq
 A6⟨j,h1,h2,h3,h4,h5⟩:=vW he
 A6⟨w,ew,Gi⟩:=r.get h2
 have hl:=r.length
 have hn:=vU
 have fin:EP X pins σ Q w s:=⟨z,H,I,Gi,q⟩
 ~subscriptTail_builtinR (x:=w) pl.typeIs slot_tuple_getitem.lookup
  (getItem_tuple (j:=j) (Q:=fun r s'=>r=w∧EP X pins σ Q r s') pl A0 A0 (by rw[B0,←hl];~h1) (by simpa using ew) ⟨rfl,fin⟩) hs
A8 Vi:Nk X Zf:=by
 intro value slice pins s σ H x y v u Q I rx ry h hs
 A6⟨z,i,c,rfl,rfl,hz,he,q⟩:=h
 A6⟨t,rfl⟩:=rx
 A6⟨t',rfl⟩:=ry
 A6⟨j,h1,h2,h3,h4,h5⟩:=vW he
 have hl:z.cps.toList.length=z.length:=by simp[Str.length]
 rw[hl]at h1 h4 h5
 have hn:=vU
 ~tail_any (typeIs_str s z t) slot_str_getitem.lookup (getItem_str (c:=c) (by
  have e1:decide (i < -(2 ^ 63:Int))=false:=decide_eq_false A0
  have e2:decide (i≥2 ^ 63)=false:=decide_eq_false A0
  rw[e1,e2,Bool.or_false]) (by rw[h1];simpa using h2) ⟨.str ⟨#[c]⟩,H,I.tok _,⟨_,rfl⟩,q⟩) hs
def JB(K:aA):R2:=fun x y H Q=>Zd K x y H Q∨Ze K x y H Q∨Zf x y H Q
A8 Vj:Nk X (JB X.K):=Ou.or (Vh.or Vi)
A8 vX(lo hi:Option Int)(n:Nat):(sliceBounds lo hi none n).1=((HT.oU n 0 lo:Nat):Int)∧(sliceBounds lo hi none n).2.1=((HT.oU n n hi:Nat):Int)∧(sliceBounds lo hi none n).2.2=1:=by
 &⟨?_,?_,rfl⟩
 ·cases lo with
  | none=>simp[sliceBounds,HT.oU]
  | some i=>
   simp only[sliceBounds,HT.oU,S5,show (1:Int) > 0 by decide,if_true]
   by_cases h:i<0
   ·simp only[h,if_true]<;>omega
   ·simp only[h,if_false]<;>omega
 ·cases hi with
  | none=>simp[sliceBounds,HT.oU]
  | some i=>
   simp only[sliceBounds,HT.oU,S5,show (1:Int) > 0 by decide,if_true]
   by_cases h:i<0
   ·simp only[h,if_true]<;>omega
   ·simp only[h,if_false]<;>omega
A8 tW(its:List Value)(lo hi:Option Int):slicePick its.toArray lo hi none=((its.drop (HT.oU its.length 0 lo)).take (HT.oU its.length its.length hi-HT.oU its.length 0 lo)).toArray:=by
 A6⟨h1,h2,h3⟩:=vX lo hi its.toArray.size
 A7 slicePick
 rw[h1,h2,h3]
 simp only[sliceRange_one,pick_run,B0]<;>rfl
def Ov(K:aA):V→Option Int→Option Int→Hp→VK→Prop:=fun x lo hi H Q=>∃a xs,x=.ref a∧gW K H a xs∧∀p,H p=none→Q (.ref p) (upd H p (.lst (Aj xs lo hi)))
A8 Ox:IV X (Ov X.K):=by
 intro pins s σ H x v vl vu lo hi sl Q I rx hs pl pu h
 A6⟨a,xs,rfl,hx,q⟩:=h
 cases rx
 A6⟨its,r,ht,hz⟩:=I.list hx
 have hlen:=r.length
 &⟨"list", _,slot_list_getitem.lookup,ht.isList.typeIs,?_⟩
 &wpAny_getItem_list_slice ht.isList hs pl pu .none (by simp) ?_ (by rw[B0]<;>omega)
 rw[tW,←hlen]
 &⟨.ref s.heap.objs.size,_,I.laid (t':=s.toks) (o:=.lst (Aj xs lo hi)) (fun b ob q=>Heap.get?_push_of_some _ q) (B6 _) ?_,rfl,q _ (I.hok.fresh (B6 _))⟩
 ~⟨E7 (yE xs lo hi) hz,_,0,(r.drop (HT.oU xs.length 0 lo)).take (HT.oU xs.length xs.length hi-HT.oU xs.length 0 lo),Heap.get?_push_size _ rfl⟩
A8 vY:dY X (.builtin "len") (fun xs H Q=>∃p ys,xs=[.ref p]∧(gW X.K H p ys∨jP X.K H p ys)∧Q (.int ys.length) H):=by
 intro pins s σ H xs us Q I r h
 A6⟨p,ys,rfl,hq,q⟩:=h
 A6⟨u,rfl,rx⟩:=vals1 r
 cases rx
 have hn:=vU
 rcases hq with hq | hq
 ·A6⟨its,r',pl,hz⟩:=I.list hq
  have hlen:=r'.length
  ~Calls.call_len_list pl.isList (by simp only[B0]<;>omega) ⟨.int ys.length,H,I.tok _,⟨s.toks+1,by rw[B0,hlen]⟩,q⟩
 ·A6⟨its,r',pl,hz⟩:=I.tuple hq
  have hlen:=r'.length
  ~len_tuple pl (by simp only[B0]<;>omega) ⟨.int ys.length,H,I.tok _,⟨s.toks+1,by rw[B0,hlen]⟩,q⟩
A8 vZ:dY X (.type "list") (fun xs H Q=>∃p ys,xs=[.ref p]∧(gW X.K H p ys∨jP X.K H p ys)∧∀l,H l=none→Q (.ref l) (upd H l (.lst ys))):=by
 intro pins s σ H xs us Q I r h
 A6⟨p,ys,rfl,hq,q⟩:=h
 A6⟨u,rfl,rx⟩:=vals1 r
 cases rx
 have fin:∀(its:List Value),Vals ys its→ys.length≤sizeLine→∀(h':Heap)(c':Nat),(∀b o',s.heap.get? b=some o'→h'.get? b=some o') →
   h'.get? s.heap.objs.size=some {cls:=.type "list", dict:=none,data:=.seq its.toArray c',slots:=#[]}→EP X pins σ Q (.ref s.heap.objs.size) {s with heap:=h'}:=fun its r' hz h' c' kp e=>
  ⟨.ref s.heap.objs.size,_,I.laid (t':=s.toks) kp (B6 _) (show bN X.prog X.w _ h' _ (.lst ys)from⟨hz,its,c',r',e⟩),rfl,q _ (I.hok.fresh (B6 _))⟩
 rcases hq with hq | hq
 ·A6⟨its,r',pl,hz⟩:=I.list hq
  have hlen:=r'.length
  A6⟨o,ho,hc,n,hd⟩:=pl.isList
  ~call_list_seq p (.inl rfl) ho hc hd (fun h' c' kp e=>fin its r' hz h' c' kp e) (by simp only[B0]<;>omega)
 ·A6⟨its,r',pl,hz⟩:=I.tuple hq
  have hlen:=r'.length
  A6⟨o,ho,hc,n,hd⟩:=pl
  ~call_list_seq p (.inr rfl) ho hc hd (fun h' c' kp e=>fin its r' hz h' c' kp e) (by simp only[B0]<;>omega)
def MP(K:aA)(T:String)(x:V)(H:Hp):Prop:=match x with
 | .str _=>T = "str"
 | .int _=>T = "int"
 | .ref p=>(T = "list" ∧ ∃xs,gW K H p xs)∨(T = "tuple" ∧ ∃o,K.lookup p=some o∧o.cls=.type "tuple" ∧ o.dict=none) ∨
   (T = "dict" ∧ ((∃kvs,H p=some (.dK kvs))∨∃kvs,H p=some (.dT kvs)))∨(T = "set" ∧ ∃S n,H p=some (.set S n))
 | _=>False
A8 Vk{pins:List (Addr×Obj)}{σ:St}{H:Hp}{s:Shared}{T:String}{x:V}{v:Value}(I:Inv X pins σ H s)(r:RelV x v)(ty:MP X.K T x H) :
  s.TypeIs v T∧∀a,v=.ref a→∃ob,s.heap.get? a=some ob∧ob.dict=none:=by
 cases x with
 | str z=>
  A6⟨t,rfl⟩:=r
  cases(show T = "str" from ty)
  ~⟨typeIs_str s z t,fun _ e=>nomatch e⟩
 | int i=>
  A6⟨t,rfl⟩:=r
  cases(show T = "int" from ty)
  ~⟨typeIs_int s i t,fun _ e=>nomatch e⟩
 | ref p=>
  cases r
  rcases ty with ⟨rfl,xs,hq⟩ | ⟨rfl,o,hk,hc,hd⟩ | ⟨rfl,hk⟩ | ⟨rfl,S,n,hk⟩
  ·A6⟨its,_,pl,_⟩:=I.list hq
   &⟨pl.isList.typeIs,fun a e=>?_⟩
   cases e
   A6⟨o,n,e,c,hd,_⟩:=pl
   ~⟨o,e,hd⟩
  ·&⟨⟨o,I.vN p o hk,hc⟩,fun a e=>?_⟩
   cases e
   ~⟨o,I.vN _ o hk,hd⟩
  ·have z:∃o,s.heap.get? p=some o∧o.ExactDict:=by
    rcases hk with ⟨kvs,hk⟩ | ⟨kvs,hk⟩
    ·A6⟨_,_,_,_,o,_,_,e,ex,_⟩:=I.hok p _ hk
     ~⟨o,e,ex⟩
    ·A6⟨_,_,_,_,o,_,_,e,ex,_⟩:=I.hok p _ hk
     ~⟨o,e,ex⟩
   A6⟨o,e,ex⟩:=z
   &⟨⟨o,e,ex.1⟩,fun a e2=>?_⟩
   cases e2
   ~⟨o,e,ex.2.1⟩
  ·A6⟨o,_,_,_,e,ex,_⟩:=I.hok p _ hk
   &⟨⟨o,e,ex.1⟩,fun a e2=>?_⟩
   cases e2
   ~⟨o,e,ex.2.1⟩
 | _=>~False.elim ty
def EY(K:aA)(T:String)(r:V→List V→Hp→VK→Prop)(to:TE)(t:TA):TE:=fun σ H Q=>to σ H fun x H1=>MP K T x H1∧t σ H1 fun xs H2=>r x xs H2 Q
variable{o e:Expr}{es:List Expr}{to:TE}{t:TA}{name:Str}{apos cpos:Pos}{T id:String}{r:V→List V→Hp→VK→Prop}
A8 Rx(pa:PlainAttrs T)(slot:Slot T name id)(hty:typeOf (.builtin id)=pure (.type "method_descriptor")) (hm:QL X id r) (ho:PE X o to) (ha:PA X (e::es) t)
  (hbase:attributeBase o name X.env (eval o X.env)=eval o X.env:=by rfl)
  (hfew:((backTo cpos (starEach (e::es) X.env)).all (fun x=>!x.1)&&(backToKw cpos (keywordEach [] X.env)).all (fun x=>x.1.isSome)
   && decide ((e::es).length+([]:List Keyword).length+(if([]:List Keyword).isEmpty then 0 else 1)<30))=true:=by rfl)
  (hline:(apos.endLine==cpos.line)=true:=by rfl) (hs:starEach (e::es) X.env=(false,eval e X.env)::starEach es X.env:=by rfl) (hplain:(backTo cpos (starEach es X.env)).any (·.1)=false:=by rfl) :
  PE X (.Call (.Attribute o name apos) (e::es) [] cpos) (EY X.K T r to t):=by
 intro pins s σ H Q I h
 &wpAny_Call_method_late hbase hfew hline rfl (cG (ho pins s σ H _ I h) fun v s1 ⟨x,H1,I1,r1,ty,q1⟩=>?_)
 A6⟨h1,h2⟩:=Vk I1 r1 ty
 &⟨T,id,pa,slot,hty,h1,h2,?_⟩
 have hA:=ha cpos pins s1 σ H1 _ I1 q1
 rw[hs]at hA ⊢
 &Calls.callWith_builtin (by show (false||(backTo cpos (starEach es X.env)).any (·.1))=false;rw[hplain]<;>rfl) (Calls.evalArgs_plain ?_)
 ~cG hA fun us s2 ⟨vs,H2,I2,r2,q2⟩=>hm pins s2 σ H2 x vs v us Q I2 r1 r2 q2
end
end L2
namespace L2
open PySem PySem.Spec PyProof.Rows
def QM(X:Cx)(id:String)(r:V→List V→Hp→VK→Prop):Prop:=
 ∀(pins:List (Addr×Obj))(s:Shared)(σ:St)(H:Hp)(x:V)(xs:List V)(v:Value)(us:List Value)(Q:VK),Inv X pins σ H s→RelV x v→Vals xs us→r x xs H Q →
  wpAny (model X.prog X.w) X.A (call (.builtin id) (v::us)) (EP X pins σ Q) X.xe s
A8 Vals.one:∀{x:V} {us:List Value},Vals [x] us→∃u,us=[u]∧RelV x u
 | _,_,.cons r .nil=>⟨_,rfl,r⟩
section
variable{X:Cx}{pins:List (Addr×Obj)}{σ:St}{H:Hp}{s:Shared}{l b:Addr}{xs ys zs:List V}
A8 Inv.JC{its its':List Value}{n:Nat}{f:Array Value→Array Value}{t':Nat}(I:Inv X pins σ H s)(hH:H l=some (.lst xs))
  (e:s.heap.get? l=some {cls:=.type "list", data:=.seq its.toArray n}) (hf:f its.toArray=its'.toArray) (hv:Vals ys its') (hz:ys.length≤sizeLine) :
  Inv X pins σ (upd H l (.lst ys)) {s with heap:=s.heap.update l (Obj.mapSeq f),toks:=t'}:=by
 have q:=PySem.IsL.update e f
 rw[hf]at q
 &I.write (x:=l) (e:=l) (by rw[hH];~trivial) (.inl rfl) (fun b' u hb hu=>(Heap.get?_update_other s.heap (Obj.mapSeq f) (Ne.symm hb)).trans hu) ⟨_,q⟩ ?_
 ~⟨hz,its',_,hv,q⟩
A8 Inv.Zg{its:List Value}{t':Nat}(I:Inv X pins σ H s)(hv:Vals ys its)(hz:ys.length≤sizeLine) :
  Inv X pins σ (upd H s.heap.objs.size (.lst ys)) {s with heap:=s.heap.push {cls:=.type "list", data:=.seq its.toArray},toks:=t'}:=
 I.laid (fun _ _ q=>Heap.get?_push_of_some _ q) (B6 _) ⟨hz,its,0,hv,Heap.get?_push_size _ rfl⟩
A8 Inv.fresh(I:Inv X pins σ H s):H s.heap.objs.size=none:=I.hok.fresh (B6 _)
A8 Inv.JD(I:Inv X pins σ H s)(hH:H l=some (.lst xs)):xs.length≤sizeLine∧∃(its:List Value)(n:Nat),Vals xs its∧xs.length=its.length∧s.heap.get? l=some {cls:=.type "list", data:=.seq its.toArray n}:=by
 A6⟨z,its,n,r,e⟩:=I.hok l _ hH
 ~⟨z,its,n,r,r.length,e⟩
end
section
variable{X:Cx}
def pH:V→List V→Hp→VK→Prop:=fun x vs H Q=>∃l xs y,x=.ref l∧vs=[y]∧H l=some (.lst xs)∧xs.length<sizeLine∧Q .non (upd H l (.lst (xs++[y])))
A8 mL:QM X "list.append" pH:=by
 intro pins s σ H x vs v us Q I rx rv h
 A6⟨l,xs,y,rfl,rfl,hH,hz,q⟩:=h
 cases rx
 A6⟨u,rfl,ru⟩:=rv.one
 A6⟨z,its,n,r,hl,e⟩:=I.JD hH
 &call_meets F.slot_list_append ⟨_,e,rfl⟩ F.entry_list_append (F.args_list_append_2 _ _) (PySem.list_append l its.toArray n u (by rw[B0];omega)) ⟨e,?_⟩
 &⟨.non,_,I.JC (its':=its++[u]) hH e (by simp) (r.append (.cons ru .nil)) ?_,rfl,q⟩
 rw[D7,List.length_singleton]
 omega
end
section
variable{prog:Program}{w:World}{A:Around}{E:Value→Shared→Prop}{s:Shared}
end
section
variable{X:Cx}
end
end L2
namespace L2
open PySem PySem.Spec PyProof.Rows
section
variable{κ:Type} [DecidableEq κ]
def gP(kvs:List (κ×V))(k:κ):Option V:=(kvs.find? fun kv=>decide (kv.1=k)).map (·.2)
def putK(kvs:List (κ×V))(k:κ)(v:V):List (κ×V):=
 if(kvs.any fun kv=>decide (kv.1=k))=true then kvs.map (fun kv=>if kv.1=k then(kv.1,v)else kv)else kvs++[(k,v)]
def pZ(kvs:List (κ×V))(k:κ):List (κ×V):=kvs.filter fun kv=>decide (kv.1≠k)
A8 qC{p:κ×V}{r:List (κ×V)}{k:κ}(e:p.1=k):gP (p::r) k=some p.2:=by simp[gP,J0,e]
A8 qD{p:κ×V}{r:List (κ×V)}{k:κ}(e:¬p.1=k):gP (p::r) k=gP r k:=by simp[gP,J0,e]
A8 qF(k:κ):∀kvs:List (κ×V),(kvs.any fun kv=>decide (kv.1=k))=(gP kvs k).isSome
 | []=>rfl
 | p::r=>by
  rw[Q7]
  by_cases e:p.1=k
  ·simp only[qC e,decide_eq_true e,Bool.true_or,Option.isSome_some]
  ·rw[qD e,decide_eq_false e,Bool.false_or];~qF k r
A8 nW(kvs:List (κ×V))(k:κ)(v:V):(putK kvs k v).length≤kvs.length+1:=by
 A7 putK
 split
 ·rw[B4];omega
 ·rw[D7,F0,T2];omega
A8 oM.eY{o:Option V}{u:Option Value}(r:oM o u):o.isSome=u.isSome:=by
 cases o with
 | none=>cases u with
  | none=>rfl
  | some _=>~(show False from r).elim
 | some _=>cases u with
  | none=>~(show False from r).elim
  | some _=>rfl
A8 KV.val{kvs:List (κ×V)}{vs:List (κ×Value)}(r:KV kvs vs)(k:κ):oM (gP kvs k) (valueAt vs k):=by
 A7 KV at r
 induction r with
 | nil=>~True.intro
 | @cons p q ps qs h t ih=>
  A6⟨h1,h2⟩:=h
  by_cases e:p.1=k
  ·have e':q.1=k:=h1.symm.trans e
   have b:valueAt (q::qs) k=some q.2:=by simp[valueAt,J0,e']
   rw[qC e,b];~h2
  ·have e':¬q.1=k:=fun z=>e (h1.trans z)
   have b:valueAt (q::qs) k=valueAt qs k:=by simp[valueAt,J0,e']
   rw[qD e,b];~ih
A8 KV.any{kvs:List (κ×V)}{vs:List (κ×Value)}(r:KV kvs vs)(k:κ):(kvs.any fun kv=>decide (kv.1=k))=vs.any fun kv=>decide (kv.1=k):=by
 A7 KV at r
 induction r with
 | nil=>rfl
 | cons h t ih=>rw[Q7,Q7,ih,h.1]
A8 KV.repl{kvs:List (κ×V)}{vs:List (κ×Value)}(r:KV kvs vs)(k:κ){y:V}{u:Value}(ry:RelV y u) :
  KV (kvs.map fun kv=>if kv.1=k then(kv.1,y)else kv) (vs.map fun kv=>if kv.1=k then(kv.1,u)else kv):=by
 A7 KV at r ⊢
 induction r with
 | nil=>~.nil
 | @cons p q ps qs h t ih=>
  rw[B3,B3]
  &.cons ?_ ih
  A6⟨h1,h2⟩:=h
  by_cases e:p.1=k
  ·rw[if_pos e,if_pos (h1.symm.trans e)];~⟨h1,ry⟩
  ·rw[if_neg e,if_neg (fun z=>e (h1.trans z))];~⟨h1,h2⟩
A8 KV.put{kvs:List (κ×V)}{vs:List (κ×Value)}(r:KV kvs vs)(k:κ){y:V}{u:Value}(ry:RelV y u):KV (putK kvs k y) (stored vs k u):=by
 A7 putK stored
 rw[r.any k]
 by_cases e:(vs.any fun kv=>decide (kv.1=k))=true
 ·rw[if_pos e,if_pos e];~r.repl k ry
 ·rw[if_neg e,if_neg e];~Paired.snoc r ⟨rfl,ry⟩
A8 KV.drop{kvs:List (κ×V)}{vs:List (κ×Value)}(r:KV kvs vs)(k:κ):KV (pZ kvs k) (without vs k):=by
 A7 KV at r ⊢
 A7 pZ without
 induction r with
 | nil=>~.nil
 | @cons p q ps qs h t ih=>
  A6⟨h1,h2⟩:=h
  rw[G7,G7]
  by_cases e:p.1=k
  ·have a:¬decide (p.1≠k)=true:=by simp[e]
   have b:¬decide (q.1≠k)=true:=by simp[h1.symm.trans e]
   rw[if_neg a,if_neg b];~ih
  ·have e':¬q.1=k:=fun z=>e (h1.trans z)
   have a:decide (p.1≠k)=true:=by simp[e]
   have b:decide (q.1≠k)=true:=by simp[e']
   rw[if_pos a,if_pos b];~.cons ⟨h1,h2⟩ ih
A8 KV.keys{kvs:List (κ×V)}{vs:List (κ×Value)}(r:KV kvs vs):kvs.map (·.1)=vs.map (·.1):=by
 A7 KV at r
 induction r with
 | nil=>rfl
 | cons h t ih=>rw[B3,B3,ih,h.1]
A8 KV.length{kvs:List (κ×V)}{vs:List (κ×Value)}(r:KV kvs vs):kvs.length=vs.length:=Paired.length r
A8 Jd(kvs:List (κ×V))(k:κ):(pZ kvs k).length≤kvs.length:=J8 _ _
end
A8 uM{P:Program}{w:World}{k:Key}{u:Value}(r:RelV (kV k) u):(aP P w).is k u=true:=by
 cases k with
 | inl i=>A6⟨t,e⟩:=(show ∃t,u=Value.int i t from r);subst e;~nT P w i t
 | inr x=>A6⟨t,e⟩:=(show ∃t,u=Value.str x t from r);subst e;~xT P w x t
A8 uN{P:Program}{w:World}:∀{ks:List Key} {us:List Value},Vals (ks.map kV) us→ItemsAre (aP P w) ks us
 | [],_,r=>by rw[D4]at r;cases r;~.nil
 | k::ks,_,r=>by
  rw[B3]at r
  cases r with
  | cons h t=>~.cons (uM h) (uN t)
abbrev KT(H:Hp):List (List Key×V)→List (List Key×Addr×Value)→Prop:=Paired fun p q=>p.1=q.1∧H q.2.1=some (.tup (p.1.map kV))∧RelV p.2 q.2.2
A8 KT.val{H:Hp}{kvs:List (List Key×V)}{xs:List (List Key×Addr×Value)}(r:KT H kvs xs)(k:List Key):oM (gP kvs k) ((atKey xs k).map (·.2)):=by
 induction r with
 | nil=>~True.intro
 | @cons p q ps qs h t ih=>
  A6⟨h1,_,h2⟩:=h
  by_cases e:p.1=k
  ·have e':q.1=k:=h1.symm.trans e
   have b:atKey (q::qs) k=some q.2:=by simp[atKey,J0,e']
   rw[qC e,b];~h2
  ·have e':¬q.1=k:=fun z=>e (h1.trans z)
   have b:atKey (q::qs) k=atKey qs k:=by simp[atKey,J0,e']
   rw[qD e,b];~ih
A8 KT.repl{H:Hp}{kvs:List (List Key×V)}{xs:List (List Key×Addr×Value)}(r:KT H kvs xs)(k:List Key){y:V}{u:Value}(ry:RelV y u) :
  KT H (kvs.map fun kv=>if kv.1=k then(kv.1,y)else kv) (xs.map (putAt k u)):=by
 induction r with
 | nil=>~.nil
 | @cons p q ps qs h t ih=>
  rw[B3,B3]
  &.cons ?_ ih
  A6⟨h1,h2,h3⟩:=h
  A7 putAt
  by_cases e:p.1=k
  ·rw[if_pos e,if_pos (h1.symm.trans e)];~⟨h1,h2,ry⟩
  ·rw[if_neg e,if_neg (fun z=>e (h1.trans z))];~⟨h1,h2,h3⟩
A8 KT.put{H:Hp}{kvs:List (List Key×V)}{xs:List (List Key×Addr×Value)}(r:KT H kvs xs)(k:List Key){b:Addr}{y:V}{u:Value}(hb:H b=some (.tup (k.map kV)))(ry:RelV y u) :
  KT H (putK kvs k y) (storedH xs k b u):=by
 have e:(kvs.any fun kv=>decide (kv.1=k))=(atKey xs k).isSome:=by
  rw[qF,(r.val k).eY,N6]
 A7 putK storedH
 rw[e]
 by_cases q:(atKey xs k).isSome=true
 ·rw[if_pos q,if_pos q];~r.repl k ry
 ·rw[if_neg q,if_neg q];~Paired.snoc r ⟨rfl,hb,ry⟩
A8 KT.keeps{H H':Hp}{kvs:List (List Key×V)}{xs:List (List Key×Addr×Value)}(r:KT H kvs xs)(ht:∀b ys,H b=some (.tup ys)→H' b=some (.tup ys)):KT H' kvs xs:=
 Paired.Tw r fun _ _ z=>⟨z.1,ht _ _ z.2.1,z.2.2⟩
section
variable{P:Program}{w:World}{H:Hp}{h:Heap}{a:Addr}
A8 Ry{u:HO}(ok:jU P w H h)(e:Rd H a u):bN P w H h a u:=e.ok ok
A8 qG{kvs:List (Key×V)}(ok:jU P w H h)(e:Rd H a (.dK kvs)):kvs.length≤sizeLine∧(a==sysModules)=false∧∃vs,KV kvs vs∧h.DictOf (aP P w) a vs:=
 show bN P w H h a (.dK kvs)from Ry ok e
A8 Rz{kvs:List (Key×V)}(ok:jU P w H h)(e:H a=some (.dK kvs)):kvs.length≤sizeLine∧(a==sysModules)=false∧∃vs,KV kvs vs∧h.DictOf (aP P w) a vs:=qG ok (.inl e)
A8 qH{ks:List Key}(ok:jU P w H h)(e:H a=some (.tup (ks.map kV))):(tupleKind (aP P w)).is h ks a:=by
 A6⟨_,its,r,o,h1,h2,n,h3⟩:=(show bN P w H h a (.tup (ks.map kV))from ok a _ e)
 ~⟨o,its.toArray,n,h1,h2,h3,by simpa using uN r⟩
A8 uO{kvs:List (List Key×V)}(ok:jU P w H h)(e:Rd H a (.dT kvs)):kvs.length≤sizeLine∧(a==sysModules)=false ∧
  ∃xs,KT H kvs xs∧h.DictOfH (tupleKind (aP P w)) a xs:=by
 A6⟨z,y,xs,r,o,es,ep,h1,h2,h3,h4,h5⟩:=(show bN P w H h a (.dT kvs)from Ry ok e)
 &⟨z,y,xs,r,o,es,ep,h1,h2,h3,h4,fun x hx=>?_,h5⟩
 have all:∀{l:List (List Key×V)} {m:List (List Key×Addr×Value)},KT H l m→∀x∈m,(tupleKind (aP P w)).is h x.1 x.2.1:=by
  intro l m q
  induction q with
  | nil=>intro x hx;~nomatch hx
  | @cons p q ps qs hq t ih=>
   intro x hx
   rcases E3.mp hx with e | hx
   ·subst e
    ~qH ok (by rw[←hq.1];~hq.2.1)
   ·~ih x hx
 ~all r x hx
A8 Zh{kvs:List (List Key×V)}(ok:jU P w H h)(e:H a=some (.dT kvs)):kvs.length≤sizeLine∧(a==sysModules)=false ∧
  ∃xs,KT H kvs xs∧h.DictOfH (tupleKind (aP P w)) a xs:=uO ok (.inl e)
end
def yF(H:Hp)(a:Addr)(y:V)(r:Option V):Prop:=
 (∃kvs k,Rd H a (.dK kvs)∧y=kV k∧r=gP kvs k)∨∃kvs k b,Rd H a (.dT kvs)∧y=.ref b∧H b=some (.tup (k.map kV))∧r=gP kvs k
def Zi(H:Hp)(a:Addr)(y v:V)(H':Hp):Prop:=
 (∃kvs k,H a=some (.dK kvs)∧y=kV k∧kvs.length<sizeLine∧H'=upd H a (.dK (putK kvs k v))) ∨
 ∃kvs k b,H a=some (.dT kvs)∧y=.ref b∧H b=some (.tup (k.map kV))∧kvs.length<sizeLine∧H'=upd H a (.dT (putK kvs k v))
section
variable{X:Cx}{pins:List (Addr×Obj)}{σ:St}{H:Hp}{s:Shared}{a:Addr}{y v:V}{u r:Value}{o:Option V}{A:Around}{E:Value→Shared→Prop}
A8 Inv.big(I:Inv X pins σ H s):sysModules<s.heap.objs.size:=by
 have h:mainGlobals<s.heap.objs.size:=(I.mod.glob.keeps I.bk).lt
 ~M3 A4 h
A8 Gj{Q:Value→Shared→Prop}(hu:A.units+1<cLine)(I:Inv X pins σ H s)(g:yF H a y (some v))(ry:RelV y u)(h:∀w' s',Inv X pins σ H s'→RelV v w'→Q w' s') :
  wpAny (model X.prog X.w) A (getItem (.ref a) u) Q E s:=by
 rcases g with ⟨kvs,k,e,ey,l⟩ | ⟨kvs,k,b,e,ey,eb,l⟩
 ·subst ey
  A6⟨z,hd,vs,rel,dd⟩:=qG I.hok e
  A6⟨w',hw,Gi⟩:=oM.some_of (v:=v) (o:=valueAt vs k) (by rw[l];~rel.val k)
  ~wpAny_getItem_of (uM ry) dd.mapOf hw (h w' _ (I.tok _) Gi)
 ·subst ey
  cases(show u=Value.ref b from ry)
  A6⟨z,hd,xs,rel,dd⟩:=uO I.hok e
  A6⟨w',hw,Gi⟩:=oM.some_of (v:=v) (o:=(atKey xs k).map (·.2)) (by rw[l];~rel.val k)
  A6⟨p,hp,hp2⟩:=cR hw
  &wpAny_getItem_heap (tupleKind_room_in1 hu) (qH I.hok eb) dd hp ?_
  rw[hp2]
  ~h w' _ (I.tok _) Gi
A8 JF{Q:Value→Shared→Prop}(hu:A.units+1<cLine)(I:Inv X pins σ H s)(g:yF H a y o)(ry:RelV y u)(h:∀s',Inv X pins σ H s'→Q (.bool o.isSome) s') :
  wpAny (model X.prog X.w) A (compareOp .In u (.ref a)) Q E s:=by
 rcases g with ⟨kvs,k,e,ey,l⟩ | ⟨kvs,k,b,e,ey,eb,l⟩
 ·subst ey
  A6⟨z,hd,vs,rel,dd⟩:=qG I.hok e
  &wpAny_in_of (uM ry) hd dd.mapOf ?_
  rw[←(rel.val k).eY,←l]
  ~h _ (I.tok _)
 ·subst ey
  cases(show u=Value.ref b from ry)
  A6⟨z,hd,xs,rel,dd⟩:=uO I.hok e
  &wpAny_in_heap (tupleKind_room_in1 hu) (qH I.hok eb) hd dd ?_
  have q:=(rel.val k).eY
  rw[N6]at q
  rw[←q,←l]
  ~h _ (I.tok _)
A8 Oz{Q:Value→Shared→Prop}(hu:A.units+1<cLine)(I:Inv X pins σ H s)(g:yF H a y o)(ry:RelV y u)(h:∀s',Inv X pins σ H s'→Q (.bool (!o.isSome)) s') :
  wpAny (model X.prog X.w) A (compareOp .NotIn u (.ref a)) Q E s:=by
 rcases g with ⟨kvs,k,e,ey,l⟩ | ⟨kvs,k,b,e,ey,eb,l⟩
 ·subst ey
  A6⟨z,hd,vs,rel,dd⟩:=qG I.hok e
  &wpAny_notIn_of (uM ry) hd dd.mapOf ?_
  rw[←(rel.val k).eY,←l]
  ~h _ (I.tok _)
 ·subst ey
  cases(show u=Value.ref b from ry)
  A6⟨z,hd,xs,rel,dd⟩:=uO I.hok e
  &wpAny_notIn_heap (tupleKind_room_in1 hu) (qH I.hok eb) hd dd ?_
  have q:=(rel.val k).eY
  rw[N6]at q
  rw[←q,←l]
  ~h _ (I.tok _)
A8 wA{h':Heap}{t':Nat}{ob:HO}(I:Inv X pins σ H s)(mu:Yc (H a))(hs:Heap.SameBut a s.heap h')(he:∃q,h'.get? a=some q)(new:bN X.prog X.w (upd H a ob) h' a ob) :
  Inv X pins σ (upd H a ob) {s with heap:=h',toks:=t'}:=
 I.write (x:=a) (e:=a) mu (.inl rfl) (fun b q hb z=>(hs.2 b hb).trans z) he new
A8 Ak{P:Program}{w:World}{H':Hp}{h':Heap}{kvs:List (Key×V)}{vs:List (Key×Value)}(z:kvs.length≤sizeLine)(hd:(a==sysModules)=false)(rel:KV kvs vs)(dd:h'.DictOf (aP P w) a vs) :
  bN P w H' h' a (.dK kvs):=⟨z,hd,vs,rel,dd⟩
A8 Gk{H':Hp}{Q:Unit→Shared→Prop}(hu:A.units+1<cLine)(I:Inv X pins σ H s)(g:Zi H a y v H')(ry:RelV y u)(rv:RelV v r)(h:∀s',Inv X pins σ H' s'→Q () s') :
  wpAny (model X.prog X.w) A (setItem (.ref a) u r) Q E s:=by
 rcases g with ⟨kvs,k,e,ey,l,eH⟩ | ⟨kvs,k,b,e,ey,eb,l,eH⟩
 ·subst ey eH
  A6⟨z,hd,vs,rel,dd⟩:=Rz I.hok e
  have hz:vs.length≤sizeLine:=by rw[←rel.length];~z
  have hl:(putK kvs k v).length≤sizeLine:=by have:=nW kvs k v;omega
  &wpAny_setItem_pairs (hsz:=hz) (uM ry) dd fun h' Vl hs=>h _ ?_
  have he:∃q,h'.get? a=some q:=let ⟨q,_,_,hq,_⟩:=Vl;⟨q,hq⟩
  ~wA I (by rw[e];~True.intro) hs he (Ak hl hd (rel.put k rv) Vl)
 ·subst ey eH
  cases(show u=Value.ref b from ry)
  A6⟨z,hd,xs,rel,dd⟩:=Zh I.hok e
  have hz:xs.length≤sizeLine:=by rw[←Paired.length rel];~z
  have hl:(putK kvs k v).length≤sizeLine:=by have:=nW kvs k v;omega
  &wpAny_setItem_heap (hsz:=hz) (tupleKind_room_in1 hu) (qH I.hok eb) dd fun h' Vl hs=>h _ ?_
  A6⟨q,es,ep,hq,h2,h3,h4,_,h5⟩:=Vl
  &wA I (by rw[e];~True.intro) hs ⟨q,hq⟩ ⟨hl,hd,_,(rel.put k eb rv).keeps fun c ys ec=>?_,q,es,ep,hq,h2,h3,h4,h5⟩
  rw[aJ (Yl ec e (fun z=>nomatch z))]
  ~ec
end
section
variable{X:Cx}{pins:List (Addr×Obj)}{σ:St}{H:Hp}{s:Shared}{a:Addr}{kvs:List (Key×V)}{k:Key}{u:Value}{A:Around}{E:Value→Shared→Prop}
A8 Zj{v:V}{more:List Value}{Q:Value→Shared→Prop}(I:Inv X pins σ H s)(e:H a=some (.dK kvs))(ry:RelV (kV k) u)(l:gP kvs k=some v)(hm:more=[]∨∃x,more=[x])
  (h:∀w' s',Inv X pins σ (upd H a (.dK (pZ kvs k))) s'→RelV v w'→Q w' s'):wpAny (model X.prog X.w) A (call (.builtin "dict.pop") (.ref a::u::more)) Q E s:=by
 A6⟨z,hd,vs,rel,dd⟩:=Rz I.hok e
 A6⟨w',hw,Gi⟩:=oM.some_of (v:=v) (o:=valueAt vs k) (by rw[←l];~rel.val k)
 have hp:(keyPart u).isSome=true:=by
  cases k with
  | inl i=>A6⟨t,q⟩:=(show ∃t,u=Value.int i t from ry);subst q;rfl
  | inr x=>A6⟨t,q⟩:=(show ∃t,u=Value.str x t from ry);subst q;rfl
 have ha:argsOk "dict.pop" ⟨.ref a::u::more,[]⟩:=by
  rcases hm with q | ⟨x,q⟩
  ·subst q;~PySem.F.args_dict_pop_2 _ _
  ·subst q;~PySem.F.args_dict_pop_3 _ _ _
 &call_meetsIn P9 dd.typeIs PySem.F.entry_dict_pop ha (meets_dict_pop_there (aP X.prog X.w) a (uM ry) more hm hp)
  ⟨vs,w',dd,by rw[←rel.length];~z,hw,fun h' Vl hs=>h w' _ ?_ Gi⟩
 have he:∃q,h'.get? a=some q:=let ⟨q,_,_,hq,_⟩:=Vl;⟨q,hq⟩
 ~wA I (by rw[e];~True.intro) hs he (Ak (E7 (Jd kvs k) z) hd (rel.drop k) Vl)
end
def Vm(i:Expr):Prop:=∀ov iv,subscripted i false ov iv=operate [ov,iv] (getItem ov iv)
A8 Pa{prog:Program}{w:World}{A:Around}{E:Value→Shared→Prop}{s:Shared}{env:Env}{value slice:Expr}{pos:Pos}{T id:String}{Q:Value→Shared→Prop}
  (hl:typeLookup (.type T) "__getitem__" = pure (some (.builtin id))) (hs:Vm slice)
  (h:wpAny (model prog w) A (eval value env) (fun o s₁=>wpAny (model prog w) A (eval slice env) (fun i s₂=>s₂.TypeIs o T∧wpAny (model prog w) A (getItem o i) Q E s₂) E s₁) E s) :
  wpAny (model prog w) A (eval (.Subscript value slice pos) env) Q E s:=by
 &Subscript_ (wpAny_mono h (fun o s₁ h₁=>wpAny_mono h₁ (fun i s₂ h₂=>?_) fun _ _ x=>x) fun _ _ x=>x)
 A6⟨hT,h₂⟩:=h₂
 A7 subscriptTail
 &wpAny_bind ?_
 rw[getitemInPython_of_ne hT.not_modules]
 &wpAny_bind (wpAny_specialOf hT hl ?_)
 have fin:wpAny (model prog w) A (subscripted slice false o i) (fun r s₃=>wpAny (model prog w) A (letTemporaryGo value o r >>= fun _=>pure r) Q E s₃) E s₂:=by
  rw[hs o i]
  ~wpAny_operating (wpAny_mono h₂ (fun r s₃ h₃=>wpAny_bind (wpAny_letTemporaryGo (wpAny_pure h₃))) fun _ _ x=>x)
 first
  | ~wpAny_pure (wpAny_bind fin)
  | ~wpAny_bind (wpAny_pure (wpAny_bind fin))
  | ~wpAny_bind fin
A8 yG{X:Cx}{pins:List (Addr×Obj)}{σ:St}{H:Hp}{s:Shared}{a:Addr}{y:V}{o:Option V}(I:Inv X pins σ H s)(g:yF H a y o):s.TypeIs (.ref a) "dict" := by
 rcases g with ⟨kvs,k,e,_,_⟩ | ⟨kvs,k,b,e,_,_,_⟩
 ·A6⟨_,_,vs,_,dd⟩:=qG I.hok e
  ~dd.typeIs
 ·A6⟨_,_,xs,_,dd⟩:=uO I.hok e
  ~dd.typeIs
def Sd(td ty:TE):TE:=fun σ H Q=>td σ H fun x H1=>ty σ H1 fun y H2=>∃a v,x=.ref a∧yF H2 a y (some v)∧Q v H2
def Vn(ty td:TE):TE:=fun σ H Q=>ty σ H fun y H1=>td σ H1 fun x H2=>∃a o,x=.ref a∧yF H2 a y o∧Q (.bl o.isSome) H2
def wB(ty td:TE):TE:=fun σ H Q=>ty σ H fun y H1=>td σ H1 fun x H2=>∃a o,x=.ref a∧yF H2 a y o∧Q (.bl (!o.isSome)) H2
def Dk(td ty tv:TE):TS:=fun D σ H=>tv σ H fun v H1=>td σ H1 fun x H2=>ty σ H2 fun y H3=>∃a H4,x=.ref a∧Zi H3 a y v H4∧D.nx σ H4
section
variable{X:Cx}{o i e value:Expr}{pos pos' tpos:Pos}{td ty tv:TE}
A8 Pb(hu:X.A.units+1<cLine)(ho:PE X o td)(hi:PE X i ty)(hs:Vm i):PE X (.Subscript o i pos) (Sd td ty):=by
 intro pins s σ H Q I h
 &Pa PySem.F.slot_dict_getitem.lookup hs (cG (ho pins s σ H _ I h) fun u s1 ⟨x,H1,I1,rx,q1⟩=>cG (hi pins s1 σ H1 _ I1 q1) fun iv s2 ⟨y,H2,I2,ry,a,v,ex,g,q2⟩=>?_)
 subst ex
 A6 rfl:u=Value.ref a:=rx
 ~⟨yG I2 g,Gj hu I2 g ry fun w' s3 I3 Gi=>⟨v,H2,I3,Gi,q2⟩⟩
A8 Je(hu:X.A.units+1<cLine)(hi:PE X i ty)(ho:PE X o td):PC X .In i o (Vn ty td):=by
 intro pins s σ H Q I h
 &cG (hi pins s σ H _ I h) fun iv s1 ⟨y,H1,I1,ry,q1⟩=>cG (ho pins s1 σ H1 _ I1 q1) fun u s2 ⟨x,H2,I2,rx,a,ov,ex,g,q2⟩=>?_
 subst ex
 A6 rfl:u=Value.ref a:=rx
 ~JF hu I2 g ry fun s3 I3=>⟨.bl ov.isSome,H2,I3,rfl,q2⟩
A8 uP(hu:X.A.units+1<cLine)(hi:PE X i ty)(ho:PE X o td):PC X .NotIn i o (wB ty td):=by
 intro pins s σ H Q I h
 &cG (hi pins s σ H _ I h) fun iv s1 ⟨y,H1,I1,ry,q1⟩=>cG (ho pins s1 σ H1 _ I1 q1) fun u s2 ⟨x,H2,I2,rx,a,ov,ex,g,q2⟩=>?_
 subst ex
 A6 rfl:u=Value.ref a:=rx
 ~Oz hu I2 g ry fun s3 I3=>⟨.bl (!ov.isSome),H2,I3,rfl,q2⟩
A8 pI(hu:X.A.units+1<cLine)(ho:PE X o td)(hi:PE X i ty)(hv:PE X value tv)(hs:swapsWith value (some (.Subscript o i pos')) pos.line X.env=pure false) :
  PS X (.Assign [.Subscript o i pos'] value pos) (Dk td ty tv):=by
 intro pins s σ H D I h
 &wpAny_Assign_Subscript (cG (hv pins s σ H _ I h) fun r s1 ⟨v,H1,I1,rv,q1⟩=>cG (ho pins s1 σ H1 _ I1 q1) fun u s2 ⟨x,H2,I2,rx,q2⟩=>cG (hi pins s2 σ H2 _ I2 q2) fun iv s3 ⟨y,H3,I3,ry,a,H4,ex,g,q3⟩=>?_) hs
 subst ex
 A6 rfl:u=Value.ref a:=rx
 ~Gk hu I3 g ry rv fun s4 I4=>⟨σ,H4,I4,q3⟩
end
A8 Jf{P:Program}{w:World}{H:Hp}(h:Heap)(hb:sysModules<h.objs.size):bN P w H (h.push {cls:=.type "dict", data:=.dict #[]}) h.objs.size (.dK []):=
 ⟨F9 _,beq_eq_false_iff_ne.mpr (Ne.symm (C3 hb)),[],.nil,Heap.DictOf.new h⟩
def Al:TE:=fun _ H Q=>∀p,H p=none→Q (.ref p) (upd H p (.dK []))
section
variable{X:Cx}{pos:Pos}
A8 Jg:PE X (.Dict [] [] pos) Al:=fun pins s σ H Q I h=>
 wpAny_Dict_empty ⟨.ref s.heap.objs.size,_,I.laid (a:=s.heap.objs.size) (o:=.dK []) (t':=s.toks) (fun _ _ q=>Heap.get?_push_of_some _ q) (B6 _) (Jf s.heap I.big),rfl,h _ (I.hok.fresh (B6 _))⟩
end
def Am:List (TE×TE)→St→Hp→(List (V×V)→Hp→Prop)→Prop
 | [],_,H,Q=>Q [] H
 | (tk,tv)::r,σ,H,Q=>tk σ H fun x H1=>tv σ H1 fun y H2=>Am r σ H2 fun ps H3=>Q ((x,y)::ps) H3
abbrev VV:List (V×V)→List (Value×Value)→Prop:=Paired fun p q=>RelV p.1 q.1∧RelV p.2 q.2
def QQ(X:Cx)(pos:Pos)(keys:List (Option Expr))(values:List Expr)(QR:List (TE×TE)):Prop:=
 ∀(pins:List (Addr×Obj))(s:Shared)(σ:St)(H:Hp)(Q:List (V×V)→Hp→Prop),Inv X pins σ H s→Am QR σ H Q →
  wpAny (model X.prog X.w) X.A (evalPairs (pairTrees keys values X.env pos)) (fun vs s'=>∃ps H',Inv X pins σ H' s'∧VV ps vs∧Q ps H') X.xe s
structure M1(X:Cx)(o:Expr)(m:Str)(apos:Pos)(e:Expr)(cpos:Pos):Prop where
 base:attributeBase o m X.env (eval o X.env)=eval o X.env
 few:((backTo cpos (starEach [e] X.env)).all (fun x=>!x.1)&&(backToKw cpos (keywordEach [] X.env)).all (fun x=>x.1.isSome)
  && decide (([e]:List Expr).length+([]:List Keyword).length+(if([]:List Keyword).isEmpty then 0 else 1)<30))=true
 line:(apos.endLine==cpos.line)=true
 trees:backTo cpos (starEach [e] X.env)=[(false,eval e X.env)]
structure M2(X:Cx)(o:Expr)(m:Str)(apos:Pos)(e f:Expr)(cpos:Pos):Prop where
 base:attributeBase o m X.env (eval o X.env)=eval o X.env
 few:((backTo cpos (starEach [e,f] X.env)).all (fun x=>!x.1)&&(backToKw cpos (keywordEach [] X.env)).all (fun x=>x.1.isSome)
  && decide (([e,f]:List Expr).length+([]:List Keyword).length+(if([]:List Keyword).isEmpty then 0 else 1)<30))=true
 line:(apos.endLine==cpos.line)=true
 trees:backTo cpos (starEach [e,f] X.env)=[(false,eval e X.env),(false,eval f X.env)]
def MT(H:Hp)(a:Addr):Prop:=(∃kvs,Rd H a (.dK kvs))∨∃kvs,Rd H a (.dT kvs)
A8 Jh{X:Cx}{pins:List (Addr×Obj)}{σ:St}{H:Hp}{s:Shared}{a:Addr}(I:Inv X pins σ H s)(d:MT H a) :
  s.TypeIs (.ref a) "dict" ∧ (∀b,Value.ref a=.ref b→∃ob,s.heap.get? b=some ob∧ob.dict=none)∧(a==sysModules)=false:=by
 rcases d with ⟨kvs,e⟩ | ⟨kvs,e⟩
 ·A6⟨_,hd,vs,_,dd⟩:=qG I.hok e
  &⟨dd.typeIs,fun b q=>?_,hd⟩
  cases q
  A6⟨ob,_,_,h1,h2,_⟩:=dd
  ~⟨ob,h1,h2.2.1⟩
 ·A6⟨_,hd,xs,_,dd⟩:=uO I.hok e
  &⟨dd.typeIs,fun b q=>?_,hd⟩
  cases q
  A6⟨ob,_,_,h1,h2,_⟩:=dd
  ~⟨ob,h1,h2.2.1⟩
section
variable{X:Cx}{pins:List (Addr×Obj)}{σ:St}{H:Hp}{s:Shared}{a:Addr}{y d:V}{u r:Value}{o:Option V}{A:Around}{E:Value→Shared→Prop}
end
def An(td ty:TE):TE:=fun σ H Q=>td σ H fun x H1=>∃a,x=.ref a∧MT H1 a∧ty σ H1 fun y H2=>∃kvs k v,H2 a=some (.dK kvs)∧y=kV k∧gP kvs k=some v∧Q v (upd H2 a (.dK (pZ kvs k)))
section
variable{X:Cx}{o e f:Expr}{apos cpos:Pos}{td ty tx:TE}
A8 Ji(ho:PE X o td)(he:PE X e ty)(m:M1 X o "pop" apos e cpos):PE X (.Call (.Attribute o "pop" apos) [e] [] cpos) (An td ty):=by
 intro pins s σ H Q I h
 &wpAny_Call_method m.base m.few m.line O7 P9 PySem.F.type_dict_pop (cG (ho pins s σ H _ I h) fun u s1 ⟨x,H1,I1,rx,a,ex,d,q1⟩=>?_)
 subst ex
 A6 rfl:u=Value.ref a:=rx
 A6⟨t1,t2,_⟩:=Jh I1 d
 &⟨t1,t2,?_⟩
 rw[m.trees]
 &Calls.callWith_builtin rfl (Calls.evalArgs_plain (Calls.spliced_cons (cG (he pins s1 σ H1 _ I1 q1) fun iv s2 ⟨y,H2,I2,ry,kvs,k,v,ea,ey,l,q2⟩=>Calls.spliced_nil ?_)))
 subst ey
 ~Zj I2 ea ry l (.inl rfl) fun w' s3 I3 Gi=>⟨v,_,I3,Gi,q2⟩
end
section
variable{X:Cx}{pins:List (Addr×Obj)}{σ:St}{H:Hp}{s:Shared}{a:Addr}{kvs:List (Key×V)}{A:Around}{E:Value→Shared→Prop}
end
section
variable{X:Cx}{pins:List (Addr×Obj)}{σ:St}{H:Hp}{s:Shared}{a:Addr}{y:V}{u:Value}{A:Around}{E:Value→Shared→Prop}
end
end L2
namespace Att
open PySem PySem.W PySem.Calls PyProof.Rows
A8 oV{P:Params}{h:Heap}:∀(ns:List Int)(vs:List Value),WellAll P h vs (ns.map WData.int)→IntsAre vs ns:=by
 intro ns
 induction ns with
 | nil=>
  intro vs w
  rw[D4]at w
  cases w
  ~.nil
 | cons n ns ih=>
  intro vs w
  rw[B3]at w
  cases w with
  | cons a b=>
   cases a
   ~.cons _ _ (ih _ b)
A8 Gm{l:OpenLaw}{n:Nat}(hn:l.most=some n){P:Params}{h:Heap}{args:List WData}{vals:List Value}
  (hpre:l.row.toRowW.claim.pre args=true) (hwl:WellAll P h vals args) :
  ∃a vs ns,vals=[Value.ref a]∧args=[WData.list (ns.map WData.int)]∧h.get? a=some {cls:=.type "list", data:=.seq vs.toArray}∧IntsAre vs ns∧ns.length≤n:=by
 have hsh:WShape.hasAll [] args [.list .int]=true:=(pre_splitW hpre).1
 have hc:l.pre.holds [] {args:=args}=true:=(pre_splitW hpre).2
 A6⟨d,r,rfl,h1,h2⟩:=hasAllW_cons hsh
 A6 rfl:=hasAllW_nil h2
 A6⟨xs,rfl,h3⟩:=hasW_list h1
 A6⟨ns,rfl⟩:=items_int h3
 have hlen:ns.length≤n:=by
  A7 OpenLaw.pre at hc
  have h4:(WTm.not (.lt (.lit (.int (n:Int))) (.len (.arg 0)))).holds [] {args:=[.list (ns.map .int)]}=true:=by
   have h4:=(holds_andW hc).1
   rw[hn]at h4
   ~h4
  have h5:=condW_of h4 (w_not (w_lt w_lit (w_len_list (w_arg rfl))))
  rw[B4]at h5
  &Nat.le_of_not_lt fun q=>?_
  have q':(n:Int)<((ns.length:Nat):Int):=by omega
  first
   | (rw[decide_eq_true q']at h5;~absurd h5 A4)
   | (simp at h5;omega)
 cases hwl with
 | cons w1 w2=>
  cases w2
  cases w1 with
  | list ho hall=>~⟨_,_,ns,rfl,rfl,ho,oV ns _ hall,hlen⟩
A8 Gn(l:OpenLaw)(args:List WData):l.row.toRowW.claim.post args (.bool true) args=true:=
 postW_of (r:=l.row.toRowW) (X:=(true==true))
  (show WShape.has [] (.bool true) .bool=true by first | rfl | decide | simp[WShape.has,WShape.arms,WShape.armsAll])
  (show (WTm.eq .res (.lit (.bool true))).value [] {args:=args,res:=some (.bool true),after:=args}=some (.bool (true==true))from w_eq_bool (w_res rfl) w_lit) rfl
section
variable{prog:Program}{w:World}{A:Around}{E:Value→Shared→Prop}{s:Shared}{K:Frag}
end
end Att
namespace L2
open PySem PySem.Spec PyProof.Rows
A8 uQ:∀{vs:List Value} {ns:List Int},IntsAre vs ns→Vals (ns.map V.int) vs
 | _,_,.nil=>.nil
 | _,_,.cons n t h=>.cons ⟨t,rfl⟩ (uQ h)
def Only(H:Hp):Prop:=∀b,H b=none∨∃o xs,H b=some (.eV o (.lst xs))
A8 Jj{P:Program}{w:World}{K:aA}{mg mb:Str→Option Value}{CX:Gf}{k:Nat}{fa a:Addr}{fd:FuncData}{x:Str}{sp:Sp}{s₁:Shared}{vs:List Value}{ns:List Int}
  (KX:K.In s₁.heap) (hns:s₁.heap.Ns mainGlobals mg) (hb:s₁.heap.Ns builtinsNs mb) (hbb:∀x:Str,x ≠ "__name__" → mb x=bootBuiltins x) (hlim:s₁.heap.NoLimit) (hg:s₁.gens=#[])
  (ha:s₁.heap.get? a=some {cls:=.type "list", data:=.seq vs.toArray}) (hi:IntsAre vs ns) (hl:ns.length≤sizeLine) (hr:dH k callerA)
  (F:∀base:Heap,K.In base→base.Ns mainGlobals mg→mK P w K mg base CX k fa fd [x] sp) (hbind:∀(s:Shared)(u:Value),BindsTo s fd ⟨[u],[]⟩ [(x,u)])
  (hsp:∀H:Hp,Only H→gW K H a (ns.map V.int)→sp [.ref a] H (fun v _=>v=.bl true) fun _ _ _=>False)
  (JG:∀H e s',CX [] H s₁ (fun _ _ _=>False) e s'→False) :
  codeAny (model P w) callerA (.call (.ref fa) ⟨[.ref a],[]⟩) (fun r s'=>r=.ok (.ret (.bool true))∧OldK s₁.heap s'.heap∧s'.os=s₁.os∧AllBare s'.gens) s₁:=by
 have rv:=uQ hi
 have lenV:=hi.length
 have core:∀H:Hp,Only H→gW K H a (ns.map V.int)→jU P w H s₁.heap→(∀b,H b≠none→b=a)→(H a≠none→K.lookup a=none) →
   codeAny (model P w) callerA (.call (.ref fa) ⟨[.ref a],[]⟩) (fun r s'=>r=.ok (.ret (.bool true))∧OldK s₁.heap s'.heap∧s'.os=s₁.os∧AllBare s'.gens) s₁:=by
  intro H hO hS hok hA hK
  have Dl:∀{b:Addr} {o:Obj},s₁.heap.get? b=some o→H b=none→(vM s₁.heap H).get? b=some o:=fun e n=>Ik e n
  have Yz:∀{b:Addr} {o:Obj} {es:Array DictEntry} {ep:Nat},s₁.heap.get? b=some o→o.data=.dict es ep→H b=none:=fun{b o es ep} e d=>by
   cases q:H b with
   | none=>rfl
   | some u=>
    have e':b=a:=hA b (by rw[q];simp)
    subst e'
    rw[ha]at e;cases e
    have d':Data.seq vs.toArray _=Data.dict es ep:=d
    cases d'
  have FJ:∀{b:Addr} {m:Str→Option Value},s₁.heap.Ns b m→(vM s₁.heap H).Ns b m:=fun{b m} ⟨o,es,ep,e,d,r⟩=>⟨o,es,ep,Dl e (Yz e d),d,r⟩
  have NB:K.In (vM s₁.heap H):=fun b o e=>Dl (KX b o e) (by
   cases q:H b with
   | none=>rfl
   | some u=>
    have e':b=a:=hA b (by rw[q];simp)
    subst e'
    rw[hK (by rw[q];simp)]at e;cases e)
  have hM:Mod K mg (vM s₁.heap H):=⟨NB,FJ hns,⟨mb,FJ hb,hbb⟩,let ⟨mc,h1,h2⟩:=hlim;⟨mc,FJ h1,h2⟩⟩
  have e0:Oi P w K mg (vM s₁.heap H) callerA [] s₁ H:=⟨rfl,hM,fun b o e=>Nu e,Nat.le_of_eq (Fx _ _),trivial,fun b hb=>absurd (show b∈([]:List Addr)from hb) (by simp),hok,.of_eq hg⟩
  &codeAny_mono ((F _ NB (FJ hns)).run callerA [] s₁ H ⟨[.ref a],[]⟩ [.ref a] [.ref a] _ _ hr e0 (hbind s₁ (.ref a)) (.cons rfl .nil) (hsp H hO hS)) fun r s' h=>?_
  cases r with
  | error e=>~(JG H e s' h).elim
  | ok fl=>
   cases fl with
   | next=>~False.elim h
   | brk=>~False.elim h
   | cont=>~False.elim h
   | ret u=>
    A6⟨v,H',os,bare,un,hok',r',q⟩:=h
    have q':v=.bl true:=q
    subst q'
    A6 rfl:u=Value.bool true:=r'
    &⟨rfl,OldK.of_keep fun b o e=>?_,os,bare⟩
    cases q:H b with
    | none=>~un.keep b o e q (by intro z;~absurd (show b∈([]:List Addr)from z) (by simp)) (by simp)
    | some u=>
     rcases hO b with z | ⟨ob,xs,z⟩
     ·rw[q]at z;cases z
     ·have z2:=un.tU b ob _ z
      A6⟨e1,_⟩:=hok b _ z
      A6⟨e2,_⟩:=hok' b _ z2
      rw[e]at e1;cases e1
      ~e2
 cases hk:K.lookup a with
 | some o=>
  have e:=KX a o hk
  rw[ha]at e
  cases e
  &core (fun _=>none) (fun _=>.inl rfl) (.inr ⟨_,vs.toArray,_,hk,rfl,rfl,rfl,by rw[B0,lenV];~hl,by simpa using rv⟩) (fun b u z=>by have z':(none:Option HO)=some u:=z;cases z') (fun b z=>absurd rfl z) fun z=>absurd rfl z
 | none=>
  &core (fun b=>if b=a then some (.eV {cls:=.type "list", data:=.seq vs.toArray} (.lst (ns.map V.int)))else none) (fun b=>?_) (.inl (.inr ⟨{cls:=.type "list", data:=.seq vs.toArray},if_pos rfl⟩)) (fun b u z=>?_) (fun b z=>?_) fun _=>hk
  ·by_cases hb:b=a
   ·~.inr ⟨_,_,if_pos hb⟩
   ·~.inl (if_neg hb)
  ·by_cases hb:b=a
   ·have z':=(if_pos hb).symm.trans z
    cases z'
    subst hb
    ~⟨ha,by rw[B4];~hl,vs,_,rv,ha⟩
   ·have z':=(if_neg hb).symm.trans z
    cases z'
  ·by_cases hb:b=a
   ·~hb
   ·~absurd (if_neg hb) z
end L2
namespace L2
open PySem PySem.Spec PyProof.Rows
end L2
namespace L2
open PySem PySem.Spec PyProof.Rows
def cB(s:Stmt):Arguments:=match s with
 | .FunctionDef _ a _ _ _ _ _ _ _ _=>a
 | _=>{posonlyargs:=[],args:=[],vararg:=none,kwonlyargs:=[],kw_defaults:=[],kwarg:=none,defaults:=[]}
def bK(s:Stmt):List Stmt:=match s with
 | .FunctionDef _ _ b _ _ _ _ _ _ _=>b
 | _=>[]
def aH(s:Stmt):Scope:=match s with
 | .FunctionDef _ _ _ _ _ _ sc _ _ _=>sc
 | _=>{kind:=.function,names:=[],isGenerator:=false,isCoroutine:=false}
abbrev Ie:Gf:=fun _ _ _ _ _ _=>False
abbrev E0:XK:=fun _ _ _=>False
A8 Zk{X:Cx}:Passes Ie X E0:=fun _ _ _ _ _ _ _ h=>h.elim
structure Nm(K:aA)(x qual:Str)(st:Stmt)(f:Addr)(fd:FuncData):Prop where
 ex:∃(oc:Value)(od:Option Addr)(kV doc pm:Value)(an:Option Addr)(cdv ct:Value)(osl:Array (Option Value)),
  fd=E9 x qual (cB st) (bK st) (aH st) .none kV doc pm an cdv ct∧K.lookup f=some ⟨oc,od,.func fd,osl⟩∧J7 K cdv qual=true
 kp:G0 K (.ref f)=true
section
variable{P:Program}{w:World}{K:aA}{mg:Str→Option Value}{base:Heap}
A8 Nm.ok{x qual:Str}{st:Stmt}{f:Addr}{fd:FuncData}{N ps:List Str}{k:Nat}{sp:Sp}(F:Nm K x qual st f fd)(S:bJ N ps (aH st))(len:∀vs H Q E,sp vs H Q E→vs.length=ps.length)
  (hbody:∀(cdv:Value)(A:Around)(outer:List Env)(s:Shared)(H:Hp)(vs:List V)(Q:VK)(E:XK),dH k (A.deeper (envOfC qual (aH st) s.heap.objs.size f cdv))→sp vs H Q E →
   ∃t,Af (vV Ie P w K mg base N qual (aH st) f cdv A outer s H E).Uo (bK st) t∧t {nx:=fun _ H'=>Q .non H',rt:=Q} (start N vs) H):mK P w K mg base Ie (k+1) f fd ps sp:=by
 A6⟨oc,od,kV,doc,pm,an,cdv,ct,osl,rfl,lk,hcd⟩:=F.ex
 &Za lk hcd S len fun A outer s H vs Q E hr hsp=>?_
 A6⟨t,h,q⟩:=hbody cdv A outer s H vs Q E hr hsp
 ~⟨t,h.Uo,q⟩
A8 Nm.binds{x qual:Str}{st:Stmt}{f:Addr}{fd:FuncData}{ps:List Str}(F:Nm K x qual st f fd)
  (h:∀(kV doc pm:Value)(an:Option Addr)(cdv ct:Value)(us:List Value),us.length=ps.length→bindArgs (E9 x qual (cB st) (bK st) (aH st) .none kV doc pm an cdv ct) ⟨us,[]⟩=pure (ps.zip us)):Binds K fd ps []:=by
 A6⟨oc,od,kV,doc,pm,an,cdv,ct,osl,rfl,lk,hcd⟩:=F.ex
 ~.all (h kV doc pm an cdv ct)
A8 Vo{x qual:Str}{st:Stmt}{f:Addr}{oc:Value}{od an:Option Addr}{osl:Array (Option Value)}{kV doc pm cdv ct:Value}(l:K.lookup f=some ⟨oc,od,.func (E9 x qual (cB st) (bK st) (aH st) .none kV doc pm an cdv ct),osl⟩)
  (c:J7 K cdv qual=true) (k:G0 K (.ref f)=true):Nm K x qual st f (E9 x qual (cB st) (bK st) (aH st) .none kV doc pm an cdv ct):=⟨⟨oc,od,kV,doc,pm,an,cdv,ct,osl,rfl,l,c⟩,k⟩
end
A8 gZ{A:Around}{k:Nat}(hr:dH k A):A.units+1<cLine:=R5 (Nat.add_le_add_left (by decide:1≤64) _) hr.units
A8 uR{n:Nat}(h:n≤1000):n<sizeLine:=R5 h A4
section
variable{X:Cx}
A8 pv(i:Nat){x:Str}{pos:Pos}(hN:X.N[i]?=some x:=by rfl)(hv:DR X.env.scope x:=by first | ~F6 rfl | ~F4 (F6 rfl) | ~F4 (F4 rfl))(hd:(x==("__debug__" : Str))=false:=by decide)
  (hcd:(x==("__classdict__" : Str))=false:=by decide):PE X (.Name x pos) (tV i):=Tz hN hv hd hcd
end
def aD(H H':Hp):Prop:=∀b o,H b=some o→H' b=some o
A8 aD.refl(H:Hp):aD H H:=fun _ _ h=>h
A8 aD.trans{H H1 H2:Hp}(a:aD H H1)(b:aD H1 H2):aD H H2:=fun c o h=>b c o (a c o h)
A8 aD.free{H H':Hp}(e:aD H H'){l:Addr}(h:H' l=U5):H l=U5:=by
 cases q:H l with
 | none=>rfl
 | some o=>
  rw[e l o q]at h
  cases h
A8 aD.seq{K:aA}{H H':Hp}{a:Addr}{xs:List V}(e:aD H H')(h:gW K H a xs):gW K H' a xs:=by
 rcases h with (h | ⟨o,h⟩) | h
 ·~.inl (.inl (e _ _ h))
 ·~.inl (.inr ⟨o,e _ _ h⟩)
 ·~.inr h
section
variable{κ:Type} [DecidableEq κ]
end
end L2


namespace L2
open PySem PySem.Spec PyProof.Rows
A8 kE(env:Env):∀(names:List (Str×NameKind))(acc:List (Str×Addr)),(∀x∈names,x.2=.free→∃c,env.cells.lookup x.1=some c) →
    ∃cl:List (Str×Addr),(forIn names acc (fun(x:Str×NameKind) (r:List (Str×Addr))=>(match x with
      | (name,kind)=>if(kind==.free)=true then do let c ←cellOf env name;pure (ForInStep.yield ((name,c)::r))else pure (ForInStep.yield r):Sem (ForInStep (List (Str×Addr))))))=pure cl ∧
      (∀x c,cl.lookup x=some c→(∃k,(x,k)∈names∧k=.free∧env.cells.lookup x=some c)∨acc.lookup x=some c) ∧
      (∀x,(x,NameKind.free)∈names→∃c,cl.lookup x=some c)∧(∀x c,acc.lookup x=some c→∃c',cl.lookup x=some c')
  | [],acc,_=>⟨acc,rfl,fun x c h=>.inr h,fun x h=>by simp at h,fun x c h=>⟨c,h⟩⟩
  | (n,k)::r,acc,h=>by
    rw[List.forIn_cons]
    by_cases hk:k=.free
    · subst hk
      A6⟨c,hc⟩:=h (n,.free) C9 rfl
      A6⟨cl,e,h1,h2,h3⟩:=kE env r ((n,c)::acc) fun x hx=>h x (C5 _ hx)
      &⟨cl,?_,fun x d hd=>?_,fun x hx=>?_,fun x d hd=>?_⟩
      · have e0:cellOf env n=pure c:=by A7 cellOf;rw[hc]
        simp only[beq_self_eq_true,if_true,e0,pure_bind]
        ~e
      · rcases h1 x d hd with ⟨k',m,q⟩ | q
        · ~.inl ⟨k',C5 _ m,q⟩
        · rw[L5]at q
          by_cases e:x==n
          · rw[e]at q
            have e':=eq_of_beq e
            subst e'
            cases q
            ~.inl ⟨.free,C9,rfl,hc⟩
          · have e':(x==n)=false:=by simpa using e
            rw[e']at q
            ~.inr q
      · rcases E3.mp hx with q | q
        · cases q
          ~h3 n c (by simp)
        · ~h2 x q
      · by_cases e:x==n
        · ~h3 x c (by rw[L5,e])
        · have e':(x==n)=false:=by simpa using e
          ~h3 x d (by rw[L5,e'];~hd)
    · A6⟨cl,e,h1,h2,h3⟩:=kE env r acc fun x hx=>h x (C5 _ hx)
      have hb:(k==NameKind.free)=false:=by simpa using hk
      &⟨cl,?_,fun x d hd=>?_,fun x hx=>?_,h3⟩
      · simp only[hb,N0,if_false,pure_bind]
        ~e
      · rcases h1 x d hd with ⟨k',m,q⟩ | q
        · ~.inl ⟨k',C5 _ m,q⟩
        · ~.inr q
      · rcases E3.mp hx with q | q
        · cases q
          ~absurd rfl hk
        · ~h2 x q
A8 jV(scope:Scope)(env:Env)(h:∀x∈scope.names,x.2=.free→∃c,env.cells.lookup x.1=some c) :
    ∃cl,closureFor scope env=pure cl∧(∀x c,cl.lookup x=some c→(x,NameKind.free)∈scope.names∧env.cells.lookup x=some c)∧∀x,(x,NameKind.free)∈scope.names→∃c,cl.lookup x=some c:=by
  A6⟨cl,e,h1,h2,_⟩:=kE env scope.names [] h
  &⟨cl,?_,fun x c hx=>?_,h2⟩
  · A7 closureFor
    ~(congrArg (fun t=>t >>= pure) e).trans (pure_bind _ _)
  · rcases h1 x c hx with ⟨k,m,rfl,q⟩ | q
    · ~⟨m,q⟩
    · simp at q
A8 wC{scope:Scope}{env:Env}(hcell:∀y∈scope.names,y.2≠.cell){x:Str}(h:(relabel scope env).names.lookup x=some .cell∨(relabel scope env).names.lookup x=some .free):(x,NameKind.free)∈scope.names:=by
 have m:(x,NameKind.cell)∈(relabel scope env).names∨(x,NameKind.free)∈(relabel scope env).names:=by
  rcases h with h | h
  ·~.inl (G2 h)
  ·~.inr (G2 h)
 A7 relabel at m
 rcases m with m | m
 all_goals
  A6⟨⟨n,k⟩,hm,e⟩:=D8.mp m
  dsimp only at e
  split at e
  ·rename_i hc
   simp only[G8,beq_iff_eq]at hc
   cases e
   first
    | (rw[hc.1.1]at hm;~hm)
    | skip
  ·cases e
   first
    | ~hm
    | ~absurd rfl (hcell _ hm)
def bO(X:Cx)(scope:Scope)(N:List Str)(cl:List (Str×Addr))(fp:List Addr)(s:Shared)(H:Hp)(C:Addr):Cx where
 prog:=X.prog
 w:=X.w
 K:=X.K
 mg:=X.mg
 base:=X.base
 A:=X.A
 N:=N
 s₀:=s
 H₀:=H
 env:=compEnvC scope cl C X.env
 outer:=X.stack
 stack:=X.stack
 ex:=fp
 calm:=X.calm
 fn:=fun _=>false
 pn:=[]
 xe:=fun _ _=>False
def wD(σ:St)(fr:List Nat):St:=fr.map fun i=>σ.getD i none
def blk(k:Nat)(σ:St)(fr:List Nat):St:=E2 k none++wD σ fr
def Kp(k:Nat)(σ:St)(fr:List Nat)(σ2:St):Prop:=σ2.length=(blk k σ fr).length∧∀(j:Nat) v,(blk k σ fr)[j]?=some (some v)→σ2[j]?=some (some v)
def Vp(X:Cx)(ifs:List Expr)(t:TT):Prop:=
 ∀(pins:List (Addr×Obj))(s:Shared)(σ:St)(H:Hp)(Q:Bool→Hp→Prop),Inv X pins σ H s→t σ H Q →
  wpAny (model X.prog X.w) X.A (forIn ifs true fun c r=>if r=true then do let ok ←isTrue c X.env (eval c X.env);pure (ForInStep.yield ok)else pure (ForInStep.yield r)) (TP X pins σ Q) X.xe s
def Jk:TT:=fun _ H Q=>Q true H
A8 Pg{X:Cx}:Vp X [] Jk:=fun _ _ _ H _ I h=>wpAny_tests_nil ⟨H,I,h⟩
A8 Ph{X:Cx}{c:Expr}{t:TT}(h:PT X c t):Vp X [c] t:=fun pins s σ H Q I q=>wpAny_tests_one (h pins s σ H Q I q)
A8 jR{prog:Program}{w:World}{A:Around}{R:Result→Shared→Prop}{s:Shared}{elt target iter:Expr}{ifs:List Expr}{scope:Scope}{pos:Pos}{it acc:Value}{env:Env}(I:Nat→Shared→Prop)
  (turn:∀n s,I n s→wpAny (model prog w) A (pyNext it) (fun r s₁=>match r with
   | none=>R (.ok .next) s₁
   | some v=>wpAny (model prog w) A (letOwnedTupleGo target it v) (fun _ s₀=>wpAny (model prog w) A (assign target env v) (fun _ s₂=>
     wpAny (model prog w) A (forIn ifs true fun c r=>if r=true then do let ok ←isTrue c env (eval c env);pure (ForInStep.yield ok)else pure (ForInStep.yield r)) (fun ok s₃=>
      if ok=true then wpAny (model prog w) A (eval elt env) (fun x s₄=>
       wpAny (model prog w) A (call (.builtin "list.append") [acc,x]) (fun _ s₅=>∃m,m<n∧I m s₅) (fun _ _=>False) s₄) (fun _ _=>False) s₃
      else ∃m,m<n∧I m s₃) (fun _ _=>False) s₂) (fun _ _=>False) s₀) (fun _ _=>False) s₁) (fun _ _=>False) s)
  (n:Nat) (h:I n s) :
  codeAny (model prog w) A (.compLoop (.ListComp elt [⟨target,iter,ifs,0⟩] scope pos) 0 it acc env) R s:=by
 &codeAny_loop rfl I (fun n s hI=>?_) n h
 show wpAny _ A ((compTurn (.ListComp elt [⟨target,iter,ifs,0⟩] scope pos) 0 it acc env).onRaise (fun x=>do noteFrame x env;theTreesLotGoes x)) _ _ s
 &wpAny_noted ?_
 rw[compTurn_list]
 &wpAny_mono (E:=fun _ _=>False) ?_ (fun _ _ q=>q) fun _ _ x=>x.elim
 &wpAny_bind (wpAny_standAt (wpAny_bind (wpAny_mono (turn n s hI) (fun r s₁ h₁=>?_) fun _ _ h'=>h')))
 cases r with
 | none=>~wpAny_pure h₁
 | some v=>
  &wpAny_bind (wpAny_mono h₁ (fun _ s₀ h₀=>?_) fun _ _ h'=>h')
  &wpAny_bind (wpAny_mono h₀ (fun _ s₂ h₂=>wpAny_bind (wpAny_mono h₂ (fun ok s₃ h₃=>?_) fun _ _ h'=>h')) fun _ _ h'=>h')
  cases ok with
  | false=>~wpAny_pure ⟨rfl,h₃⟩
  | true=>
   ~wpAny_bind (wpAny_bind (wpAny_mono h₃ (fun x s₄ h₄=>wpAny_bind (wpAny_mono h₄ (fun _ s₅ h₅=>wpAny_pure (wpAny_pure ⟨rfl,h₅⟩)) fun _ _ h'=>h')) fun _ _ h'=>h'))
def Sg(J:It)(k:Nat)(fr:List Nat)(g:TG)(tc:TT)(te:TE)(σ:St)(H1:Hp)(Q:VK)(D:Addr):Prop:=∃W:Nat→Nat→List V→Hp→Prop,(∃m,W 0 m [] (upd H1 D (.lst []))) ∧
 ∀i m ys H,W i m ys H→H D=some (.lst ys)∧((J.stop i H∧Q (.ref D) H)∨(J.go i H∧∀x H',J.Ys i H x H'→g x (blk k σ fr) H' fun σ2 H2=>Kp k σ fr σ2∧tc σ2 H2 fun ok H3=>if ok=true then
  te σ2 H3 fun y H4=>H4 D=some (.lst ys)∧ys.length<sizeLine∧∃m',m'<m∧W (i+1) m' (ys++[y]) (upd H4 D (.lst (ys++[y])))else ∃m',m'<m∧W (i+1) m' ys H3))
def lJ(wi:TI)(k:Nat)(fr:List Nat)(g:TG)(tc:TT)(te:TE):TE:=fun σ H Q=>wi σ H fun J H1=>∀D,H1 D=none→Sg J k fr g tc te σ H1 Q D
def cP(scope mG:Scope):Scope:=
 {scope with names:=scope.names.map fun(n,k)=>if(k==.free&&mG.kind==.function&&mG.names.lookup n==some .cell)then(n,.cell)else(n,k)}
structure bW(mG scope:Scope)(oN N:List Str)(k:Nat)(fr:List Nat):Prop where
 kind:scope.kind=.function
 cell:∀y∈scope.names,y.2≠.cell
 loc:∀y∈scope.names,y.2=.local→scope.names.lookup y.1=some .local
 free:∀y∈scope.names,y.2=.free→mG.names.lookup y.1=some .cell∨mG.names.lookup y.1=some .free
 len:N.length=k+fr.length
 slots:∀j∈D6 fr.length,oN[fr.getD j 0]?=N[k+j]?
 from_:∀x∈N.drop k,(x,NameKind.free)∈scope.names∧((cP scope mG).names.lookup x=some .cell∨(cP scope mG).names.lookup x=some .free)
def Jl(mG scope:Scope)(oN N:List Str)(k:Nat)(fr:List Nat):Bool:=
 decide (scope.kind=.function)&&decide (∀y∈scope.names,y.2≠.cell)&&decide (∀y∈scope.names,y.2=.local→scope.names.lookup y.1=some .local) &&
 decide (∀y∈scope.names,y.2=.free→mG.names.lookup y.1=some .cell∨mG.names.lookup y.1=some .free)&&decide (N.length=k+fr.length) &&
 decide (∀j∈D6 fr.length,oN[fr.getD j 0]?=N[k+j]?) &&
 decide (∀x∈N.drop k,(x,NameKind.free)∈scope.names∧((cP scope mG).names.lookup x=some .cell∨(cP scope mG).names.lookup x=some .free))
A8 bW.of{mG scope:Scope}{oN N:List Str}{k:Nat}{fr:List Nat}(h:Jl mG scope oN N k fr=true):bW mG scope oN N k fr:=by
 A7 Jl at h
 simp only[G8,decide_eq_true_eq]at h
 A6⟨⟨⟨⟨⟨⟨h1,h2⟩,h3⟩,h4⟩,h5⟩,h6⟩,h7⟩:=h
 ~⟨h1,h2,h3,h4,h5,h6,h7⟩
section
variable{X:Cx}
A8 Pj{k:Nat}{σ:St}{fr:List Nat}{i:Nat}{v:V}(h:(blk k σ fr)[i]?=some (some v)):∃j o,i=k+j∧fr[j]?=some o∧σ[o]?=some (some v):=by
 A7 blk at h
 by_cases hi:i<k
 ·rw[N9 (by simpa using hi),O6]at h
  rw[if_pos hi]at h
  cases h
 ·rw[N2 (by simpa using hi),P8]at h
  A7 wD at h
  rw[C4]at h
  cases e:fr[i-k]? with
  | none=>rw[e]at h;cases h
  | some o=>
   rw[e]at h
   &⟨i-k,o,by omega,e,?_⟩
   have h:some (σ.getD o none)=some (some v):=h
   have h:=D9 h
   rw[B7]at h
   cases e2:σ[o]? with
   | none=>rw[e2]at h;cases h
   | some z=>rw[e2]at h;~congrArg some h
A8 Ao{pins:List (Addr×Obj)}{σ:St}{H:Hp}{s:Shared}{scope:Scope}{N:List Str}{k:Nat}{fr:List Nat}{cl:List (Str×Addr)}{fp:List Addr}{h₁:Heap}{tk:Nat}{m:Str→Option Value}
    (I:Inv X pins σ H s) (B:bW X.env.scope scope X.N N k fr) (hf:∀b∈fp,vQ X pins H b) (hfo:∀b∈fp,b<s.heap.objs.size)
    (hcl:∀x c,cl.lookup x=some c→(x,NameKind.free)∈scope.names∧X.env.cells.lookup x=some c) (Pk:∀x,(x,NameKind.free)∈scope.names→∃c,cl.lookup x=some c)
    (hn:h₁.Ns (s.heap.objs.size+1) m) (hs:Heap.SameBut (s.heap.objs.size+1) ((s.heap.push {cls:=.type "list", data:=.seq ([]:List Value).toArray}).push {cls:=.type "dict", data:=.dict #[]}) h₁) :
    Inv (bO X scope N cl fp s H (s.heap.objs.size+1)) [] (blk k σ fr) (upd H s.heap.objs.size (.lst [])) {s with heap:=h₁,toks:=tk}:=by
  have I3:=I.Zg (ys:=[]) (its:=[]) (t':=tk) .nil (F9 _)
  have hD:H s.heap.objs.size=none:=I.fresh
  have hC:H (s.heap.objs.size+1)=none:=I.hok.fresh (K1 _)
  have Ye:∀b o,(s.heap.push {cls:=.type "list", data:=.seq ([]:List Value).toArray}).get? b=some o→b≠s.heap.objs.size+1:=fun b o e=>by
    have:=Heap.lt_size e
    rw[Heap.size_push]at this
    ~C3 this
  have Sh:∀b o,(s.heap.push {cls:=.type "list", data:=.seq ([]:List Value).toArray}).get? b=some o→h₁.get? b=some o:=fun b o e=>
    hs.extBut b o (Ye b o e) (Heap.get?_push_of_some _ e)
  have kept:∀b o,s.heap.get? b=some o→h₁.get? b=some o:=fun b o e=>Sh b o (Heap.get?_push_of_some _ e)
  &⟨⟨I.ok.mod,B.kind,I.ok.glob,I.ok.blt,K1 _,fun x y c h1 h2=>I.ok.inj x y c (hcl x c h1).2 (hcl y c h2).2,fun x hx=>Pk x (wC B.cell hx),fun x c h _=>(nomatch h),
      I.ok.hd,I.ok.frames,.inl rfl,fun b hb=>⟨?_,fun x c e=>(hf b hb).2.2.2.2.1 x c (hcl x c e).2⟩,fun b o e=>I.bs b o e,E7 I.ok.Rn I.sz,fun b o e hb=>?_,fun b hb hb2=>?_,I.stack,I.Dc⟩,
    rfl,I.bare,Un.laid kept (B6 _) hD,⟨m,hn,fun i x v h1 h2 h3=>?_⟩,fun x c e=>?_,?_,fun x c e=>?_,fun p hp=>absurd (show p∈([]:List (Addr×Obj))from hp) (by simp),?_,?_⟩
  · ~C3 (F5 (hfo b hb))
  · rcases(hf b hb).2.2.2.1 with z | z
    · ~I.ok.Il b o e z
    · ~absurd (B8 (Heap.lt_size e) (E7 I.ok.Rn z)) (F1 _)
  · rcases E3.mp (I.vO b hb2)with z | z
    · ~(hf b hb).2.1 z
    · ~(hf b hb).2.2.1 z
  · A6⟨j,o,rfl,h4,h5⟩:=Pj h2
    have h1:N[k+j]?=some x:=h1
    have hj:j<fr.length:=(B9.mp h4).1
    have hx:X.N[o]?=some x:=by
      have q:=B.slots j (J3.mpr hj)
      rw[B7,h4]at q
      ~q.trans h1
    A6⟨hfr,QS⟩:=B.from_ x (E8 (i:=j) (by rw[N1];~h1))
    have hk:=B.free _ hfr rfl
    A6⟨m0,hn0,hl0⟩:=I.loc
    have hv:DR X.env.scope x:=by
      rcases hk with q | q
      · ~.inr (.inl q)
      · ~.inr (.inr q)
    A6⟨u,r,l⟩:=hl0 o x v hx h5 hv
    &⟨u,r,.inr ?_⟩
    rcases l with ⟨q,_⟩ | ⟨_,c,e,z⟩
    · rcases hk with q' | q'
      · ~absurd (q.symm.trans q') (by intro z;cases z)
      · ~absurd (q.symm.trans q') (by intro z;cases z)
    · A6⟨c',e'⟩:=Pk x hfr
      have e2:=(hcl x c' e').2
      rw[e]at e2
      cases e2
      &⟨QS,c,e',?_⟩
      A6⟨oc,hoc,hd⟩:=z
      ~⟨oc,kept c oc hoc,hd⟩
  · A6⟨v,oc,hoc,hd⟩:=I.cell x c (hcl x c e).2
    ~⟨v,oc,kept c oc hoc,hd⟩
  · show upd H s.heap.objs.size (.lst []) (s.heap.objs.size+1)=none
    rw[aJ (J6 (S6 _))]
    ~hC
  · have hc:=(hcl x c e).2
    A6⟨v,oc,hoc,hd⟩:=I.cell x c hc
    show upd H s.heap.objs.size (.lst []) c=none
    rw[aJ (C3 (Heap.lt_size hoc))]
    ~I.gK x c hc
  · ~jU.kept I3.hok Sh
  · show (blk k σ fr).length=N.length
    rw[B.len]
    A7 blk wD
    simp
A8 yH{tg elt iter:Expr}{ifs:List Expr}{scope:Scope}{pos:Pos}{N:List Str}{k:Nat}{fr:List Nat}{g:TG}{tc:TT}{te:TE}{cl:List (Str×Addr)}{pins:List (Addr×Obj)}{σ:St}{H:Hp}{s:Shared}{it:Addr}{fp:List Addr}{tn:Nat→Heap→Prop}{J:It}{Q:VK}
    {RR:Value→Addr→Result→Shared→Prop} {E:Value→Shared→Prop} (hcalm:X.calm=true) (I:Inv X pins σ H s) (T:Turn X.prog X.w X.K tg J fp it tn) (st:tn 0 s.heap) (hf:∀b∈fp,vQ X pins H b) (B:bW X.env.scope scope X.N N k fr)
    (hcl:∀x c,cl.lookup x=some c→(x,NameKind.free)∈scope.names∧X.env.cells.lookup x=some c) (Pk:∀x,(x,NameKind.free)∈scope.names→∃c,cl.lookup x=some c)
    (hg:∀cl fp s H C,PG (bO X scope N cl fp s H C) tg g) (hc:∀cl fp s H C,Vp (bO X scope N cl fp s H C) ifs tc) (he:∀cl fp s H C,PE (bO X scope N cl fp s H C) elt te)
    (hw:∀D,H D=none→Sg J k fr g tc te σ H Q D)
    (hRR:∀D C m s' H',s'.heap.Ns C m→s.heap.objs.size≤C→H' C=none→C≠D→Inv X pins σ H' s'→Q (.ref D) H'→RR (.ref D) C (.ok .next) s') :
    wpAny (model X.prog X.w) X.A (newList []) (fun acc s₃=>wpAny (model X.prog X.w) X.A (newFunctionEnv scope X.env.globals cl [] X.env.qual none .none (some X.env)) (fun cenv s₄=>
      codeAny (model X.prog X.w) X.A (.compStart (.ListComp elt [⟨tg,iter,ifs,0⟩] scope pos) 0 (.ref it) acc {cenv with scope:=relabel scope X.env}) (RR acc cenv.locals) s₄) E s₃) E s:=by
  &wpAny_newObj_type (wpAny_newFunctionEnv B.cell (by intro y hy;simp at hy) (fun h₁ hns₁ hsb₁=>?_) B.kind)
  dsimp only at hns₁ hsb₁ ⊢
  rw[Heap.size_push]at hns₁ hsb₁ ⊢
  have hfo:∀b∈fp,b<s.heap.objs.size:=fun b hb=>by
    A6⟨o,e,_⟩:=T.obj 0 _ st b hb
    ~Heap.lt_size e
  have I4:=Ao (tk:=s.toks+([]:List (Str×Value)).length) I B hf hfo hcl Pk hns₁ hsb₁
  generalize hD:s.heap.objs.size=D at *
  have QT:H D=none:=by rw[←hD];~I.fresh
  A6⟨W,⟨m0,w0⟩,turn⟩:=hw D QT
  have st1:tn 0 h₁:=T.keep 0 _ _ st fun b hb o e=>hsb₁.extBut b o (C3 (F5 (by have:=hfo b hb;~this))) (Heap.get?_push_of_some _ (Heap.get?_push_of_some _ e))
  have QV:∀b∈fp,(upd H D (.lst [])) b=none:=fun b hb=>by
    rw[aJ (C3 (hfo b hb))]
    ~(hf b hb).1
  generalize hX':bO X scope N cl fp s H (D+1)=X' at I4
  have stat:∀{H':Hp},(∀b∈fp,H' b=none)→∀b∈fp,vQ X' [] H' b:=fun{H'} hn b hb=>by
    subst hX'
    &⟨hn b hb,?_,fun z=>?_,.inl hb,fun x c e=>(hf b hb).2.2.2.2.1 x c (hcl x c e).2,fun p hp=>absurd (show p∈([]:List (Addr×Obj))from hp) (by simp)⟩
    · ~C3 (F5 (hfo b hb))
    · rcases E3.mp (I.vO b z)with z | z
      · ~(hf b hb).2.1 z
      · ~(hf b hb).2.2.1 z
  have loop:∀s₃:Shared,s₃={s with heap:=h₁,toks:=s.toks+([]:List (Str×Value)).length} →
      codeAny (model X.prog X.w) X.A (.compLoop (.ListComp elt [⟨tg,iter,ifs,0⟩] scope pos) 0 (.ref it) (.ref D) (compEnvC scope cl (D+1) X.env)) (RR (.ref D) (D+1)) s₃:=by
    rintro s₃ rfl
    &jR (fun n s'=>∃i ys H',Inv X' [] (blk k σ fr) H' s'∧tn i s'.heap∧(∀b∈fp,H' b=none)∧W i n ys H') ?_ m0 ⟨0,[],_,I4,st1,QV,w0⟩
    rintro n s5 ⟨i,ys,H5,I5,st5,fr5,w5⟩
    A6⟨hys,way⟩:=turn i n ys H5 w5
    have e1:X'.prog=X.prog:=by rw[←hX'];rfl
    have e2:X'.w=X.w:=by rw[←hX'];rfl
    have e3:X'.K=X.K:=by rw[←hX'];rfl
    have e4:X'.A=X.A:=by rw[←hX'];rfl
    have e5:X'.calm=true:=by rw[←hX'];~hcalm
    have e6:X'.env=compEnvC scope cl (D+1) X.env:=by rw[←hX'];rfl
    have e7:X'.xe=fun _ _=>False:=by rw[←hX'];rfl
    rcases way with ⟨stop,q⟩ | ⟨go,step⟩
    · have d:=T.done X' e1 e2 e3 e5 i [] s5 _ H5 (fun _ _=>False) I5 (stat fr5) st5 stop
      rw[e4]at d
      &cG d fun r s6 ⟨hr,I6⟩=>?_
      subst hr
      subst hX'
      A6⟨m6,QW,_⟩:=I6.loc
      &hRR D (D+1) m6 s6 H5 QW (K1 _) I6.free (J6 (S6 _)) ?_ q
      ~I.call' I6.os I6.base I6.hok I6.bare fun b hb=>⟨(hf b hb).2.2.2.1,(hf b hb).2.1,(hf b hb).2.2.2.2.1,(hf b hb).2.2.2.2.2⟩
    · have d:=T.item X' e1 e2 e3 e5 i [] s5 _ H5 (fun _ _=>False) I5 (stat fr5) st5 go
      rw[e4]at d
      &cG d fun r s6 ⟨u,hr,h6⟩=>?_
      subst hr
      &cG h6 fun _ s7 ⟨x,H7,I7,r7,y7,st7,fr7⟩=>?_
      have QX:=I7.pinned (stat fr7) (T.obj _ _ st7)
      have hg':PG X' tg g:=by rw[←hX'];~hg _ _ _ _ _
      have hc':Vp X' ifs tc:=by rw[←hX'];~hc _ _ _ _ _
      have he':PE X' elt te:=by rw[←hX'];~he _ _ _ _ _
      have a1:=hg' _ s7 _ H7 x u _ QX r7 (step x H7 y7)
      rw[e1,e2,e4,e6,e7]at a1
      &cG a1 fun _ s8 ⟨σ8,H8,I8,⟨kl,kk⟩,q8⟩=>?_
      have a2:=hc' _ s8 σ8 H8 _ I8 q8
      rw[e1,e2,e4,e6,e7]at a2
      &cG a2 fun ok s9 ⟨H9,I9,q9⟩=>?_
      have again:∀{Ha:Hp} {ya:List V} {sa:Shared},Inv X' ([]++pX fp s7.heap) σ8 Ha sa→(∃m',m'<n∧W (i+1) m' ya Ha) →
          ∃m,m<n∧∃i ys H',Inv X' [] (blk k σ fr) H' sa∧tn i sa.heap∧(∀b∈fp,H' b=none)∧W i m ys H':=fun{Ha ya sa} Ia ⟨m',hm,w'⟩=>by
        &⟨m',hm,i+1,ya,Ha,(Ia.weak kl.symm kk).lH,T.keep _ _ _ st7 fun b hb o e=>(Ia.pin (b,o) (C8 _ (C8 _ (fZ hb e)))).1,fun b hb=>?_,w'⟩
        A6⟨o,e,d⟩:=T.obj _ _ st7 b hb
        ~(Ia.pin (b,o) (C8 _ (C8 _ (fZ hb e)))).2.1
      cases ok with
      | false=>~again I9 q9
      | true=>
        have a3:=he' _ s9 σ8 H9 _ I9 q9
        rw[e1,e2,e4,e6,e7]at a3
        show wpAny _ _ _ _ _ s9
        &cG a3 fun v QZ ⟨y,H10,I10,r10,hD10,hz,q10⟩=>?_
        have a4:=mL (X:=X') _ QZ σ8 H10 (.ref D) [y] (.ref D) [v] (fun _ NK=>NK=upd H10 D (.lst (ys++[y]))) I10 rfl (.cons r10 .nil) ⟨D,ys,y,rfl,rfl,hD10,hz,rfl⟩
        rw[e1,e2,e4,e7]at a4
        &cG a4 fun _ VP ⟨_,NK,I11,_,e11⟩=>?_
        subst e11
        ~again I11 q10
  ~codeAny_compStart_list (loop _ rfl) (T.self _ 0 _ _ _ st1 (loop _ rfl))
A8 Dm{tg elt iter:Expr}{ifs:List Expr}{scope:Scope}{pos:Pos}{wi:TI}{g:TG}{tc:TT}{te:TE}(N:List Str)(k:Nat)(fr:List Nat)(hcalm:X.calm=true)(B:bW X.env.scope scope X.N N k fr)(hi:PI X tg iter wi)
  (hg:∀cl fp s H C,PG (bO X scope N cl fp s H C) tg g) (hc:∀cl fp s H C,Vp (bO X scope N cl fp s H C) ifs tc) (he:∀cl fp s H C,PE (bO X scope N cl fp s H C) elt te)
  (hs:∀x,foldedSetIterable iter X.env x=pure x:=by intro _;rfl):PE X (.ListComp elt [⟨tg,iter,ifs,0⟩] scope pos) (lJ wi k fr g tc te):=by
 intro pins s σ H Q I h
 A6⟨cl,e,h1,h2⟩:=jV scope X.env fun y hy hk=>I.ok.has y.1 (B.free y hy hk)
 rw[eval_ListComp]
 &wpAny_comprehension_free (use:=none) rfl hs e B.kind B.loc (wpAny_mono (hi pins s σ H _ I h) (fun xv s₁ q₁=>wpAny_mono q₁ (fun itv s₂ q₂=>?_) fun _ _ x=>x) fun _ _ x=>x)
 A6⟨it,fp,tn,J,H2,rfl,I2,T,st2,f2,hw⟩:=q₂
 &yH (Q:=Q) (RR:=fun acc C=>compPost (model X.prog X.w) X.A X.xe none (EP X pins σ Q) acc C) hcalm I2 T st2 f2 B h1 h2 hg hc he hw ?_
 intro D C m s' H' hn hC hf hne I' q
 &⟨m,hn,fun h' hs'=>⟨.ref D,H',?_,rfl,q⟩⟩
 ~I'.turned (t':=s'.toks) (fun b o hb eb=>(hs'.2 b hb).trans eb) hf (J6 (B8 I2.lt hC)) (.inr (E7 I2.sz hC)) (fun x c ec z=>by
  A6⟨v,q⟩:=I2.cell x c ec
  ~absurd (B8 q.lt (by rw[z];~hC)) (F1 _)) fun p hp z=>absurd (B8 (Heap.lt_size (I2.pin p hp).1) (by rw[z];~hC)) (F1 _)
A8 Pn{tg elt iter:Expr}{ifs:List Expr}{scope:Scope}{pos spos py:Pos}{y:Str}{i:Nat}{wi:TI}{g:TG}{tc:TT}{te:TE}(N:List Str)(k:Nat)(fr:List Nat)(hcalm:X.calm=true)(B:bW X.env.scope scope X.N N k fr)(hN:X.N.Nodup)(hy:X.N[i]?=some y)(hx:Loc X.env.scope y)(hi:PI X tg iter wi)
  (hg:∀cl fp s H C,PG (bO X scope N cl fp s H C) tg g) (hc:∀cl fp s H C,Vp (bO X scope N cl fp s H C) ifs tc) (he:∀cl fp s H C,PE (bO X scope N cl fp s H C) elt te)
  (hsw:swapsWith (.ListComp elt [⟨tg,iter,ifs,0⟩] scope pos) (some (.Name y py)) spos.line X.env=pure true:=by rfl)
  (hs:∀x,foldedSetIterable iter X.env x=pure x:=by intro _;rfl) (hf:X.fn y=true∨X.env.scope.names.lookup y=some .local:=by first | ~.inl rfl | ~.inr rfl | assumption) :
  PS X (.Assign [.Name y py] (.ListComp elt [⟨tg,iter,ifs,0⟩] scope pos) spos) (xX (lJ wi k fr g tc te) (bZ i)):=by
 intro pins s σ H D I h
 A6⟨cl,e,h1,h2⟩:=jV scope X.env fun y hy hk=>I.ok.has y.1 (B.free y hy hk)
 rw[exec_Assign_Name_used _ _ _ _ hsw]
 &wpAny_bind (wpAny_standAt (wpAny_bind ?_))
 show wpAny _ X.A (do let _ ←comprehension (.ListComp elt [⟨tg,iter,ifs,0⟩] scope pos) scope X.env _ (newList []) false (eval iter X.env) (some (assign (.Name y py) X.env))) _ _ s
 &wpAny_bind (wpAny_mono (wpAny_comprehension_free (use:=some (assign (.Name y py) X.env)) (Q:=fun _ s'=>SP X pins D .next s') rfl hs e B.kind B.loc
  (wpAny_mono (hi pins s σ H _ I h) (fun xv s₁ q₁=>wpAny_mono q₁ (fun itv s₂ q₂=>?_) fun _ _ x=>x) fun _ _ x=>x)) (fun _ s' hq=>wpAny_pure (wpAny_pure hq)) fun _ _ x=>x)
 A6⟨it,fp,tn,J,H2,rfl,I2,T,st2,f2,hw⟩:=q₂
 &yH (Q:=fun x H1=>bZ i x σ H1 D.nx) (RR:=fun acc C=>compPost (model X.prog X.w) X.A X.xe (some (assign (.Name y py) X.env)) (fun _ s'=>SP X pins D .next s') acc C) hcalm I2 T st2 f2 B h1 h2 hg hc he hw ?_
 intro E C m s' H' hn hC hfr hne I' q
 show wpAny _ X.A (assign (.Name y py) X.env (.ref E)) _ _ _
 have Ni:∀x c,X.env.cells.lookup x=some c→c≠C:=fun x c ec z=>by
  A6⟨v,q⟩:=I2.cell x c ec
  ~absurd (B8 q.lt (by rw[z];~hC)) (F1 _)
 &wpAny_assign_Name (uF I' hN hy hx (show RelV (.ref E) (.ref E)from rfl) (fun s6 I6 ⟨a,hsb,ha⟩=>?_) hf)
 have RB:C≠a:=by
  rcases ha with z | z
  ·rw[z];~J6 (B8 I2.lt hC)
  ·~fun q=>Ni _ _ z q.symm
 &⟨m,hn.sameBut hsb RB,fun h'' hs''=>⟨_,H',?_,q⟩⟩
 ~I6.turned (t':=s6.toks) (fun b o hb eb=>(hs''.2 b hb).trans eb) hfr (J6 (B8 I2.lt hC)) (.inr (E7 I2.sz hC)) Ni
  fun p hp z=>absurd (B8 (Heap.lt_size (I2.pin p hp).1) (by rw[z];~hC)) (F1 _)
end
end L2


set_option maxHeartbeats 4000000
namespace L2
open PySem PySem.Spec PyProof.Rows
def Vq(J:It)(P:Hp→Prop)(xs:List V):Prop:=
 ∀i H,P H→(i<xs.length→J.go i H)∧(∀x H',J.Ys i H x H'→H'=H∧(i<xs.length→xs[i]?=some x))∧(xs.length≤i→J.stop i H)
A8 Jm{K:aA}{a:Addr}{xs:List V}:Vq (HS K a) (fun H=>gW K H a xs) xs:=fun i H hq=>
 ⟨fun h=>⟨xs,xs[i],hq,by simp[h]⟩,fun x H' ⟨e,y⟩=>⟨e,fun _=>y xs hq⟩,fun h=>⟨xs,hq,h⟩⟩
A8 Pq{K:aA}{a:Addr}{xs:List V}:Vq (HW K a) (fun H=>jP K H a xs) xs:=fun i H hq=>
 ⟨fun h=>⟨xs,xs[i],hq,by simp[h]⟩,fun x H' ⟨e,y⟩=>⟨e,fun _=>y xs hq⟩,fun h=>⟨xs,hq,h⟩⟩
section
variable{X:Cx}
A8 wF{scope:Scope}{N:List Str}{x:Str}{pos:Pos}(hN:N.Nodup)(hi:N[0]?=some x)(hx:(cP scope X.env.scope).names.lookup x=some .local) :
  ∀cl fp s H C,PG (bO X scope N cl fp s H C) (.Name x pos) (bZ 0):=fun _ _ _ _ _=>jF hN hi (F6 hx) (F4 hx)
A8 Inv.freeze{pins:List (Addr×Obj)}{σ:St}{H:Hp}{s:Shared}{a:Addr}{u:HO}{o:Obj}(I:Inv X pins σ H s)(e:H a=some u)(mu:Yc (H a))(ho:s.heap.get? a=some o):Inv X pins σ (upd H a (.eV o u)) s:=by
 have n0:∀b,H b=none→upd H a (.eV o u) b=none:=fun b hb=>by rw[aJ (Ne.symm (bU e hb))];~hb
 &⟨I.ok,I.os,I.bare,⟨I.base.keep,I.base.slot,fun b ob h n hx=>n0 b (I.base.free b ob h n hx),I.base.there,fun b xs h=>?_,fun b ob w h=>?_,fun b ps h=>?_⟩,I.loc,I.cell,n0 _ I.free,fun x c h=>n0 _ (I.gK x c h),fun p hp=>?_,?_,I.len⟩
 ·have q:=I.base.tups b xs h
  rw[aJ (fun z=>by rw[z,e]at q;rw[e]at mu;cases q;~mu)]
  ~q
 ·have q:=I.base.tU b ob w h
  rw[aJ (fun z=>by rw[z,e]at q;rw[e]at mu;cases q;~mu)]
  ~q
 ·A6⟨more,q⟩:=I.base.vL b ps h
  ~⟨more,by rw[aJ (fun z=>by rw[z,e]at q;rw[e]at mu;cases q;~mu)];~q⟩
 ·A6⟨h1,h2,h3⟩:=I.pin p hp
  ~⟨h1,n0 _ h2,h3⟩
 ·have Ij:∀c y,H c=some (.own y)→c≠a:=fun c y r z=>by rw[z,e]at r;rw[e]at mu;cases r;~mu
  have Nt:∀c xs,H c=some (.tup xs)→c≠a:=fun c xs r z=>by rw[z,e]at r;rw[e]at mu;cases r;~mu
  intro b v q
  by_cases hb:b=a
  ·subst hb
   rw[aQ]at q
   cases q
   ~⟨ho,(I.hok b u e).stay (fun c v _ q=>q) (fun c r=>by rw[aJ (Ij c b r)];~r) fun c xs r=>by rw[aJ (Nt c xs r)];~r⟩
  ·rw[aJ hb]at q
   ~(I.hok b v q).stay (fun c v _ q=>q) (fun c r=>by rw[aJ (Ij c b r)];~r) fun c xs r=>by rw[aJ (Nt c xs r)];~r
def FN(a:Addr)(o:Obj)(kvs:List (Key×V)):It:=
 ⟨fun i H=>H a=some (.eV o (.dK kvs))∧i<kvs.length,fun i H x H'=>H'=H∧(kvs[i]?).map (fun kv=>kV kv.1)=some x,fun i H=>H a=some (.eV o (.dK kvs))∧kvs.length≤i⟩
A8 Jo{a:Addr}{o:Obj}{kvs:List (Key×V)}:Vq (FN a o kvs) (fun H=>H a=some (.eV o (.dK kvs))) (kvs.map fun kv=>kV kv.1):=fun i H hq=>
 ⟨fun h=>⟨hq,by simpa using h⟩,fun x H' ⟨e,y⟩=>⟨e,fun _=>by rw[C4];~y⟩,fun h=>⟨hq,by simpa using h⟩⟩
A8 Dn{P:Program}{w:World}{k:Key}{v:Value}(h:(aP P w).is k v=true):RelV (kV k) v:=by
 rcases bG (k:=k) (v:=v) h with ⟨i,t,rfl,rfl⟩ | ⟨x,t,rfl,rfl⟩
 ·~⟨t,rfl⟩
 ·~⟨t,rfl⟩
A8 Dp{P:Program}{w:World}{o:Obj}{kvs:List (Key×Value)}{a:Addr}{h:Heap}(d:h.DictOf (aP P w) a kvs)(ho:h.get? a=some o):∃es ep,o.ExactDict∧o.data=.dict es ep∧KeysOf (aP P w) es∧Pairs (aP P w) es.toList kvs∧(kvs.map (·.1)).Nodup:=by
 A6⟨o',es,ep,ho',r⟩:=d
 rw[ho]at ho'
 cases ho'
 ~⟨es,ep,r⟩
A8 Gp{P:Program}{w:World}{K:aA}{tg:Expr}(a it:Addr)(o:Obj)(kvs:List (Key×V))(ep:Nat)(NP:∃es,o.data=.dict es ep)(hne:a≠it) :
  Turn P w K tg (FN a o kvs) [it] it (fun i h=>h.IsKeyIter it a i kvs.length ep) where
 mem:=by simp
 obj:=fun i h st b hb=>by
  have e:b=it:=by simpa using hb
  subst e
  A6⟨ob,ho,hc,hd⟩:=st
  ~⟨ob,ho,fun v z=>by rw[hd]at z;cases z⟩
 keep:=fun i h h' st k=>by
  A6⟨ob,ho,r⟩:=st
  ~⟨ob,k it (by simp) _ ho,r⟩
 item:=by
  intro X hP hw hK hc i pins s σ H E I hf st hg
  subst hP hw hK
  A6⟨f0,f1,f2,f3,f4,f5⟩:=hf it (by simp)
  A6⟨hq,hlt⟩:=hg
  A6⟨ho,hz,hsm,vs,rel,dd⟩:=I.hok a _ hq
  A6⟨es,ep',r1,r2,r3,r4,r5⟩:=Dp dd ho
  A6⟨RC,e0⟩:=NP
  rw[e0]at r2
  cases r2
  have hl:=KV.length rel
  have dat:s.heap.DictAt (aP X.prog X.w) a vs ep:=⟨o,_,ho,r1,e0,r3,r4,r5⟩
  A6⟨⟨k,x⟩,hx⟩:∃p,vs[i]?=some p:=⟨vs[i]'(by omega),by simp⟩
  &wpAny_pyNext_dict_item (by rw[←hl];~st) dat hx fun key h' hkey hit' hs'=>?_
  have I1:Inv X pins σ H {s with heap:=h',toks:=s.toks}:=I.turned (fun b o hb e=>(hs'.2 b hb).trans e) f0 f1 f3 f4 f5
  have hit2:=hit'
  A6⟨ob,hob,hcl,hdt⟩:=hit2
  &⟨_,rfl,Iv (s:={s with heap:=h',toks:=s.toks}) (n := "dict_keyiterator") hob hcl hdt A4 ⟨kV k,H,I1,Dn hkey,⟨rfl,?_⟩,by rw[hl];~hit',fun b hb=>(hf b hb).1⟩⟩
  have ek:=KV.keys rel
  have e1:(kvs.map (·.1))[i]?=(vs.map (·.1))[i]?:=by rw[ek]
  rw[C4,C4,hx]at e1
  cases e2:kvs[i]? with
  | none=>rw[e2]at e1;cases e1
  | some p=>
   rw[e2]at e1
   have e3:p.1=k:=D9 e1
   show some (kV p.1)=some (kV k)
   rw[e3]
 done:=by
  intro X hP hw hK hc i pins s σ H E I hf st hg
  subst hP hw hK
  A6⟨f0,f1,f2,f3,f4,f5⟩:=hf it (by simp)
  A6⟨hq,hle⟩:=hg
  A6⟨ho,hz,hsm,vs,rel,dd⟩:=I.hok a _ hq
  A6⟨es,ep',r1,r2,r3,r4,r5⟩:=Dp dd ho
  A6⟨RC,e0⟩:=NP
  rw[e0]at r2
  cases r2
  have hl:=KV.length rel
  have dat:s.heap.DictAt (aP X.prog X.w) a vs ep:=⟨o,_,ho,r1,e0,r3,r4,r5⟩
  &wpAny_pyNext_dict_end (I.ok.hd hc) (by rw[←hl];~st) dat (by simp;omega) fun h' he'=>⟨rfl,I.turned (t':=s.toks) (fun b o hb e=>he' b o hb e) f0 f1 f3 f4 f5⟩
 self:=fun _ _ _ _ _ st h=>wpAny_pyIter_keyiter st h
def Jp(tl:TE):TI:=fun σ H R=>tl σ H fun x H1=>∃a kvs,x=.ref a∧H1 a=some (.dK kvs)∧∀o,R (FN a o kvs) (upd H1 a (.eV o (.dK kvs)))
A8 Pu{tg l:Expr}{tl:TE}(hl:PE X l tl):PI X tg l (Jp tl):=by
 intro pins s σ H R I h
 &cG (hl pins s σ H _ I h) fun v s1 ⟨x,H1,I1,r1,q1⟩=>?_
 A6⟨a,kvs,rfl,hq,q⟩:=q1
 cases r1
 A6⟨hz,hsm,vs,rel,dd⟩:=I1.hok a _ hq
 A6⟨ep,hat⟩:=dd.dictAt
 A6⟨o,es,ho,r1,r2,r3⟩:=id hat
 have I2:=I1.freeze hq (by rw[hq];~trivial) ho
 &wpAny_pyIter_dict hsm hat ?_
 have hne:a≠s1.heap.objs.size:=C3 (Heap.lt_size ho)
 &⟨s1.heap.objs.size,[s1.heap.objs.size],_,_,_,rfl,I2.kept (t':=s1.toks) fun b o e=>Heap.get?_push_of_some _ e,Gp a _ o kvs ep ⟨es,r2⟩ hne,⟨_,Heap.get?_push_size _ rfl,rfl,by rw[KV.length rel];rfl⟩,fun b hb=>?_,q o⟩
 have e:b=s1.heap.objs.size:=by simpa using hb
 subst e
 ~I2.Ur (B6 _) (I2.hok.fresh (B6 _))
A8 Px{J:It}{P:Hp→Prop}{xs:List V}(hJ:Vq J P xs){g:TG}{tb:TS}{D:Ends}{σ:St}{H:Hp}(Pv:Nat→St→Hp→Prop)(h0:Pv 0 σ H)(hl:∀i σ H,i≤xs.length→Pv i σ H→P H)
  (hs:∀i x σ H,xs[i]?=some x→Pv i σ H→g x σ H fun σ2 H2=>tb {D with nx:=Pv (i+1),ct:=Pv (i+1),bk:=D.nx} σ2 H2) (hd:∀σ H,Pv xs.length σ H→D.nx σ H) :
  ∃W:Nat→Nat→St→Hp→Prop,(∃m,W 0 m σ H)∧∀i m σ H,W i m σ H →
   (J.stop i H∧D.nx σ H)∨(J.go i H∧∃N:St→Hp→Prop,(∀σ' H',N σ' H'→∃m',m'<m∧W (i+1) m' σ' H')∧∀x H',J.Ys i H x H'→g x σ H' fun σ2 H2=>tb {D with nx:=N,ct:=N,bk:=D.nx} σ2 H2):=by
 &⟨fun i m σ H=>m=xs.length-i∧i≤xs.length∧Pv i σ H,⟨xs.length,by simp,F9 _,h0⟩,?_⟩
 rintro i m σ H ⟨rfl,hi,p⟩
 A6⟨j1,j2,j3⟩:=hJ i H (hl i σ H hi p)
 by_cases hlt:i<xs.length
 ·&.inr ⟨j1 hlt,Pv (i+1),fun σ' H' p'=>⟨xs.length-(i+1),by omega,rfl,hlt,p'⟩,fun x H' y=>?_⟩
  A6⟨e,ex⟩:=j2 x H' y
  subst e
  ~hs i x σ _ (ex hlt) p
 ·have e:i=xs.length:=by omega
  subst e
  ~.inl ⟨j3 (B6 _),hd σ H p⟩
end
end L2


namespace L2
open PySem PySem.Spec PyProof.Rows
section
variable{X:Cx}
end
inductive DV where
  | int (i:Int) | non | lst (ds:List DV) | tup (ds:List DV)
mutual
def Reads(K:aA)(H:Hp):DV→V→Prop
 | .int i,x=>x=.int i
 | .non,x=>x=.non
 | .lst ds,x=>∃a xs,x=.ref a∧gW K H a xs∧aZ K H ds xs
 | .tup ds,x=>∃a xs,x=.ref a∧jP K H a xs∧aZ K H ds xs
def aZ(K:aA)(H:Hp):List DV→List V→Prop
 | [],xs=>xs=[]
 | d::ds,xs=>∃y ys,xs=y::ys∧Reads K H d y∧aZ K H ds ys
end
mutual
def DV.depth:DV→Nat
 | .int _=>0
 | .non=>0
 | .lst ds=>bF ds+1
 | .tup ds=>bF ds+1
def bF:List DV→Nat
 | []=>0
 | d::ds=>max d.depth (bF ds)
end
A8 aZ.length{K:aA}{H:Hp}:∀{ds:List DV} {xs:List V},aZ K H ds xs→xs.length=ds.length
 | [],xs,h=>by
  A7 aZ at h
  rw[h]
  rfl
 | d::ds,xs,h=>by
  A7 aZ at h
  A6⟨y,ys,rfl,_,h2⟩:=h
  simp[aZ.length h2]
A8 aZ.get{K:aA}{H:Hp}:∀{ds:List DV} {xs:List V} {i:Nat} {d:DV},aZ K H ds xs→ds[i]?=some d→∃x,xs[i]?=some x∧Reads K H d x
 | [],xs,i,d,h,e=>by simp at e
 | d'::ds,xs,0,d,h,e=>by
  A7 aZ at h
  A6⟨y,ys,rfl,h1,_⟩:=h
  simp at e
  subst e
  ~⟨y,rfl,h1⟩
 | d'::ds,xs,i+1,d,h,e=>by
  A7 aZ at h
  A6⟨y,ys,rfl,_,h2⟩:=h
  A6⟨x,e1,e2⟩:=aZ.get h2 (by simpa using e)
  ~⟨x,by simpa using e1,e2⟩
A8 qI:∀{ds:List DV} {i:Nat} {d:DV},ds[i]?=some d→d.depth≤bF ds
 | [],i,d,e=>by simp at e
 | d'::ds,0,d,e=>by
  simp at e
  subst e
  A7 bF
  ~Nat.le_max_left _ _
 | d'::ds,i+1,d,e=>by
  have:=qI (ds:=ds) (i:=i) (d:=d) (by simpa using e)
  A7 bF
  ~E7 this (Nat.le_max_right _ _)
A8 qJ(A:Around):A.in1.units=A.units+1:=rfl
section
open SeqAt
open Classical in
noncomputable def iB(d e:DV):Bool:=decide (d=e)
A8 lK{d e:DV}:iB d e=true↔d=e:=by A7 iB;simp
A8 fD(d:DV):iB d d=true:=lK.mpr rfl
A8 bV{d e:DV}(h:d≠e):iB d e=false:=by A7 iB;simp[h]
A8 Py(a b:Int):iB (.int a) (.int b)=(a==b):=by
 by_cases h:a=b
 ·subst h;simp[fD]
 ·rw[bV (by simpa using h)];simp[h]
open Classical in
A8 cW{ds es:List DV}(hl:ds.length=es.length):((D6 ds.length).all fun i=>match ds[i]?,es[i]? with | some d,some e=>iB d e | _,_=>true)=decide (ds=es):=by
 rw[K3,List.all_eq_true,decide_eq_true_iff]
 constructor
 ·intro h
  apply List.ext_getElem hl
  intro i h1 h2
  have:=h i (J3.mpr h1)
  simp only[A9 h1,A9 h2]at this
  ~lK.mp this
 ·rintro rfl i hi
  have hi':=J3.mp hi
  simp only[A9 hi']
  ~fD _
variable{X:Cx}{pins:List (Addr×Obj)}{σ:St}{H:Hp}{s:Shared}
open Classical in
A8 Dq(ds es:List DV):iB (.lst ds) (.lst es)=decide (ds=es):=by
 by_cases h:ds=es
 ·subst h;simp[fD]
 ·rw[bV (by intro z;cases z;~h rfl)];simp[h]
open Classical in
A8 Dr(ds es:List DV):iB (.tup ds) (.tup es)=decide (ds=es):=by
 by_cases h:ds=es
 ·subst h;simp[fD]
 ·rw[bV (by intro z;cases z;~h rfl)];simp[h]
A8 uT(I:Inv X pins σ H s):∀(n:Nat)(d e:DV)(x:V),d.depth≤n→Reads X.K H d x→Reads X.K H e x→d=e:=by
 have lists:∀(n:Nat),(∀(d e:DV)(x:V),d.depth≤n→Reads X.K H d x→Reads X.K H e x→d=e)→∀(ds es:List DV)(xs:List V),bF ds≤n→aZ X.K H ds xs→aZ X.K H es xs→ds=es:=by
  intro n ih ds
  induction ds with
  | nil=>
   intro es xs _ h1 h2
   have l1:=h1.length
   have l2:=h2.length
   cases es with
   | nil=>rfl
   | cons _ _=>rw[l1]at l2;simp at l2
  | cons d ds ihl=>
   intro es xs hd h1 h2
   have hd1:d.depth≤n:=by A7 bF at hd;omega
   have hd2:bF ds≤n:=by A7 bF at hd;omega
   A7 aZ at h1
   A6⟨y,ys,rfl,a1,a2⟩:=h1
   cases es with
   | nil=>have:=h2.length;simp at this
   | cons e es=>
    A7 aZ at h2
    A6⟨y',ys',q,b1,b2⟩:=h2
    cases q
    rw[ih d e y hd1 a1 b1,ihl es ys hd2 a2 b2]
 have kinds:∀{a:Addr} {xs ys:List V},gW X.K H a xs→jP X.K H a ys→False:=fun{a xs ys} h1 h2=>by
  A6⟨_,_,p1,_⟩:=I.list h1
  A6⟨_,_,p2,_⟩:=I.tuple h2
  ~ne_of_list_tuple p1.isList (show s.heap.IsTuple a _ from p2) rfl
 intro n
 induction n with
 | zero=>
  intro d e x hd h1 h2
  cases d with
  | int i=>
   A7 Reads at h1
   subst h1
   cases e with
   | int j=>A7 Reads at h2;cases h2;rfl
   | non=>A7 Reads at h2;cases h2
   | lst es=>A7 Reads at h2;A6⟨_,_,q,_⟩:=h2;cases q
   | tup es=>A7 Reads at h2;A6⟨_,_,q,_⟩:=h2;cases q
  | non=>
   A7 Reads at h1
   subst h1
   cases e with
   | non=>rfl
   | int j=>A7 Reads at h2;cases h2
   | lst es=>A7 Reads at h2;A6⟨_,_,q,_⟩:=h2;cases q
   | tup es=>A7 Reads at h2;A6⟨_,_,q,_⟩:=h2;cases q
  | lst ds=>A7 DV.depth at hd;omega
  | tup ds=>A7 DV.depth at hd;omega
 | succ n ih=>
  intro d e x hd h1 h2
  cases d with
  | int i=>
   A7 Reads at h1
   subst h1
   cases e with
   | int j=>A7 Reads at h2;cases h2;rfl
   | non=>A7 Reads at h2;cases h2
   | lst es=>A7 Reads at h2;A6⟨_,_,q,_⟩:=h2;cases q
   | tup es=>A7 Reads at h2;A6⟨_,_,q,_⟩:=h2;cases q
  | non=>
   A7 Reads at h1
   subst h1
   cases e with
   | non=>rfl
   | int j=>A7 Reads at h2;cases h2
   | lst es=>A7 Reads at h2;A6⟨_,_,q,_⟩:=h2;cases q
   | tup es=>A7 Reads at h2;A6⟨_,_,q,_⟩:=h2;cases q
  | lst ds=>
   A7 Reads at h1
   A6⟨a,xs,rfl,hq,r⟩:=h1
   cases e with
   | int j=>A7 Reads at h2;cases h2
   | non=>A7 Reads at h2;cases h2
   | lst es=>
    A7 Reads at h2
    A6⟨b,ys,q,hq2,r2⟩:=h2
    cases q
    have:=I.xW hq hq2
    subst this
    rw[lists n ih ds es xs (by A7 DV.depth at hd;omega) r r2]
   | tup es=>
    A7 Reads at h2
    A6⟨b,ys,q,hq2,r2⟩:=h2
    cases q
    ~(kinds hq hq2).elim
  | tup ds=>
   A7 Reads at h1
   A6⟨a,xs,rfl,hq,r⟩:=h1
   cases e with
   | int j=>A7 Reads at h2;cases h2
   | non=>A7 Reads at h2;cases h2
   | lst es=>
    A7 Reads at h2
    A6⟨b,ys,q,hq2,r2⟩:=h2
    cases q
    ~(kinds hq2 hq).elim
   | tup es=>
    A7 Reads at h2
    A6⟨b,ys,q,hq2,r2⟩:=h2
    cases q
    have:=I.uG hq hq2
    subst this
    rw[lists n ih ds es xs (by A7 DV.depth at hd;omega) r r2]
A8 Jq(I:Inv X pins σ H s)(i:Int)(e:DV)(y:V)(u v:Value)(A:Around)(hu:A.units<cLine)(r2:Reads X.K H e y)(rx:RelV (.int i) u)(ry:RelV y v):RcAt A s u v (iB (.int i) e)∧EqAt A s u v (iB (.int i) e):=by
 A6⟨t,rfl⟩:=rx
 cases e with
 | int j=>
  A7 Reads at r2
  subst r2
  A6⟨t',rfl⟩:=ry
  rw[Py]
  ~⟨RcAt.int_int _ _ _ _,EqAt.int_int _ _ _ _⟩
 | non=>
  A7 Reads at r2
  subst r2
  cases ry
  rw[bV (by intro z;cases z)]
  ~⟨RcAt.int_none _ _,EqAt.int_none _ _⟩
 | lst es=>
  A7 Reads at r2
  A6⟨b,ys,rfl,hq,_⟩:=r2
  cases ry
  A6⟨its,_,pl,_⟩:=I.list hq
  rw[bV (by intro z;cases z)]
  ~⟨RcAt.int_list _ _ pl.isList (hu),EqAt.int_list _ _ pl.isList (hu)⟩
 | tup es=>
  A7 Reads at r2
  A6⟨b,ys,rfl,hq,_⟩:=r2
  cases ry
  A6⟨its,_,pl,_⟩:=I.tuple hq
  rw[bV (by intro z;cases z)]
  ~⟨RcAt.int_tuple _ _ pl (hu),EqAt.int_tuple _ _ pl (hu)⟩
A8 Jr(I:Inv X pins σ H s)(e:DV)(y:V)(u v:Value)(A:Around)(hu:A.units<cLine)(r2:Reads X.K H e y)(rx:RelV .non u)(ry:RelV y v):RcAt A s u v (iB .non e)∧EqAt A s u v (iB .non e):=by
 cases rx
 cases e with
 | non=>
  A7 Reads at r2
  subst r2
  cases ry
  rw[fD]
  ~⟨RcAt.none_none,EqAt.same _⟩
 | int j=>
  A7 Reads at r2
  subst r2
  A6⟨t',rfl⟩:=ry
  rw[bV (by intro z;cases z)]
  ~⟨RcAt.none_int _ _,EqAt.none_int _ _⟩
 | lst es=>
  A7 Reads at r2
  A6⟨b,ys,rfl,hq,_⟩:=r2
  cases ry
  A6⟨its,_,pl,_⟩:=I.list hq
  rw[bV (by intro z;cases z)]
  ~⟨RcAt.none_list pl.isList hu,EqAt.none_list pl.isList hu⟩
 | tup es=>
  A7 Reads at r2
  A6⟨b,ys,rfl,hq,_⟩:=r2
  cases ry
  A6⟨its,_,pl,_⟩:=I.tuple hq
  rw[bV (by intro z;cases z)]
  ~⟨RcAt.none_tuple pl hu,EqAt.none_tuple pl hu⟩
A8 qK(I:Inv X pins σ H s):∀(n:Nat)(A:Around),(∀(d e:DV)(x y:V)(u v:Value)(A:Around),d.depth≤n→A.units+n<cLine→Reads X.K H d x→Reads X.K H e y→RelV x u→RelV y v→RcAt A s u v (iB d e)∧EqAt A s u v (iB d e)) →
  ∀(ds es:List DV)(xs ys:List V)(us vs:List Value),bF ds≤n→A.units+(n+1)<cLine→aZ X.K H ds xs→aZ X.K H es ys→Vals xs us→Vals ys vs →
  ∀j (h1:j<us.toArray.size) (h2:j<vs.toArray.size),EqAt A.in1 s us.toArray[j] vs.toArray[j] (match ds[j]?,es[j]? with | some d,some e=>iB d e | _,_=>true):=by
 intro n A ih ds es xs ys us vs hd hu r1 r2 v1 v2 j h1 h2
 have l1:j<ds.length:=by rw[←r1.length,v1.length];simpa using h1
 have l2:j<es.length:=by rw[←r2.length,v2.length];simpa using h2
 A6⟨x,ex,rx⟩:=r1.get (i:=j) (d:=ds[j]) (by simp)
 A6⟨y,ey,ry⟩:=r2.get (i:=j) (d:=es[j]) (by simp)
 A6⟨u,eu,ru⟩:=v1.get ex
 A6⟨v,ev,rv⟩:=v2.get ey
 have e1:us.toArray[j]=u:=by
  rw[B9]at eu
  A6⟨_,eu⟩:=eu
  simpa using eu
 have e2:vs.toArray[j]=v:=by
  rw[B9]at ev
  A6⟨_,ev⟩:=ev
  simpa using ev
 rw[e1,e2]
 simp only[A9 l1,A9 l2]
 ~(ih _ _ x y u v A.in1 (E7 (qI (i:=j) (by simp)) hd) (by rw[qJ];omega) rx ry ru rv).2
A8 wG(I:Inv X pins σ H s):∀(n:Nat)(d e:DV)(x y:V)(u v:Value)(A:Around),d.depth≤n→A.units+n<cLine→Reads X.K H d x→Reads X.K H e y→RelV x u→RelV y v→RcAt A s u v (iB d e)∧EqAt A s u v (iB d e):=by
 have items:=qK I
 have seqs:∀(n:Nat)(A:Around),(∀(d e:DV)(x y:V)(u v:Value)(A:Around),d.depth≤n→A.units+n<cLine→Reads X.K H d x→Reads X.K H e y→RelV x u→RelV y v→RcAt A s u v (iB d e)∧EqAt A s u v (iB d e)) →
   ∀(d e:DV)(x y:V)(u v:Value),d.depth≤n+1→A.units+(n+1)<cLine→Reads X.K H d x→Reads X.K H e y→RelV x u→RelV y v→RcAt A s u v (iB d e)∧EqAt A s u v (iB d e):=by
  intro n A ih d e x y u v hd hu r1 r2 rx ry
  have of_same:∀{a b:Addr} {k:Bool},(a=b→k=true)→RcAt A s (.ref a) (.ref b) k→EqAt A s (.ref a) (.ref b) k:=fun{a b k} hk h=>by
   by_cases hab:a=b
   ·subst hab
    rw[hk rfl]
    ~EqAt.same _
   ·~EqAt.of_refs hab h
  cases d with
  | int i=>
   A7 Reads at r1
   subst r1
   ~Jq I i e y u v A A0 r2 rx ry
  | non=>
   A7 Reads at r1
   subst r1
   ~Jr I e y u v A A0 r2 rx ry
  | lst ds=>
   A7 Reads at r1
   A6⟨a,xs,rfl,hq1,Gq⟩:=r1
   cases rx
   A6⟨jT,v1,lM,_⟩:=I.list hq1
   have hd':bF ds≤n:=by A7 DV.depth at hd;omega
   cases e with
   | int j=>
    A7 Reads at r2
    subst r2
    A6⟨t',rfl⟩:=ry
    rw[bV (by intro z;cases z)]
    ~⟨RcAt.list_int _ _ lM.isList A0,EqAt.list_int _ _ lM.isList A0⟩
   | non=>
    A7 Reads at r2
    subst r2
    cases ry
    rw[bV (by intro z;cases z)]
    ~⟨RcAt.list_none lM.isList A0,EqAt.list_none lM.isList A0⟩
   | lst es=>
    A7 Reads at r2
    A6⟨b,ys,rfl,hq2,Aq⟩:=r2
    cases ry
    A6⟨its2,v2,oW,_⟩:=I.list hq2
    have e1:jT.toArray.size=ds.length:=by rw[B0,←v1.length,Gq.length]
    have e2:its2.toArray.size=es.length:=by rw[B0,←v2.length,Aq.length]
    have rc:RcAt A s (.ref a) (.ref b) (iB (.lst ds) (.lst es)):=by
     by_cases hl:ds.length=es.length
     ·have q:=RcAt.lists (A:=A) (s:=s) lM.isList oW.isList (by rw[e1,e2];~hl) A0 (items n A ih ds es xs ys jT its2 hd' hu Gq Aq v1 v2)
      rw[e1,cW hl]at q
      rw[Dq]
      ~q
     ·rw[bV (by intro z;cases z;~hl rfl)]
      ~RcAt.lists_lengths lM.isList oW.isList (by rw[e1,e2];simpa using hl) A0
    ~⟨rc,of_same (fun hab=>by
     subst hab
     &lK.mpr (uT I (n+1) _ _ (.ref a) hd ?_ ?_)
     ·A7 Reads
      ~⟨a,xs,rfl,hq1,Gq⟩
     ·A7 Reads
      ~⟨a,ys,rfl,hq2,Aq⟩) rc⟩
   | tup es=>
    A7 Reads at r2
    A6⟨b,ys,rfl,hq2,Aq⟩:=r2
    cases ry
    A6⟨its2,v2,oW,_⟩:=I.tuple hq2
    rw[bV (by intro z;cases z)]
    ~⟨RcAt.list_tuple lM.isList oW A0,EqAt.list_tuple lM.isList oW A0⟩
  | tup ds=>
   A7 Reads at r1
   A6⟨a,xs,rfl,hq1,Gq⟩:=r1
   cases rx
   A6⟨jT,v1,lM,_⟩:=I.tuple hq1
   have hd':bF ds≤n:=by A7 DV.depth at hd;omega
   cases e with
   | int j=>
    A7 Reads at r2
    subst r2
    A6⟨t',rfl⟩:=ry
    rw[bV (by intro z;cases z)]
    ~⟨RcAt.tuple_int _ _ lM A0,EqAt.tuple_int _ _ lM A0⟩
   | non=>
    A7 Reads at r2
    subst r2
    cases ry
    rw[bV (by intro z;cases z)]
    ~⟨RcAt.tuple_none lM A0,EqAt.tuple_none lM A0⟩
   | lst es=>
    A7 Reads at r2
    A6⟨b,ys,rfl,hq2,Aq⟩:=r2
    cases ry
    A6⟨its2,v2,oW,_⟩:=I.list hq2
    rw[bV (by intro z;cases z)]
    ~⟨RcAt.tuple_list lM oW.isList A0,EqAt.tuple_list lM oW.isList A0⟩
   | tup es=>
    A7 Reads at r2
    A6⟨b,ys,rfl,hq2,Aq⟩:=r2
    cases ry
    A6⟨its2,v2,oW,_⟩:=I.tuple hq2
    have e1:jT.toArray.size=ds.length:=by rw[B0,←v1.length,Gq.length]
    have e2:its2.toArray.size=es.length:=by rw[B0,←v2.length,Aq.length]
    have rc:RcAt A s (.ref a) (.ref b) (iB (.tup ds) (.tup es)):=by
     have q:=RcAt.tuples (A:=A) (s:=s) (l:=a) (b:=b) lM oW A0 (items n A ih ds es xs ys jT its2 hd' hu Gq Aq v1 v2)
     rw[e1,e2]at q
     by_cases hl:ds.length=es.length
     ·rw[←hl,O2,cW hl]at q
      rw[Dr]
      simpa using q
     ·rw[bV (by intro z;cases z;~hl rfl)]
      have z:(ds.length==es.length)=false:=by simpa using hl
      rw[z,T7]at q
      ~q
    ~⟨rc,of_same (fun hab=>by
     subst hab
     &lK.mpr (uT I (n+1) _ _ (.ref a) hd ?_ ?_)
     ·A7 Reads
      ~⟨a,xs,rfl,hq1,Gq⟩
     ·A7 Reads
      ~⟨a,ys,rfl,hq2,Aq⟩) rc⟩
 intro n
 induction n with
 | zero=>
  intro d e x y u v A hd hu r1 r2 rx ry
  cases d with
  | int i=>
   A7 Reads at r1
   subst r1
   ~Jq I i e y u v A A0 r2 rx ry
  | non=>
   A7 Reads at r1
   subst r1
   ~Jr I e y u v A A0 r2 rx ry
  | lst ds=>A7 DV.depth at hd;omega
  | tup ds=>A7 DV.depth at hd;omega
 | succ n ih=>
  intro d e x y u v A hd hu r1 r2 rx ry
  ~seqs n A ih d e x y u v hd hu r1 r2 rx ry
end
section
variable{X:Cx}
def Vr(K:aA)(neg:Bool):R2:=fun x y H Q=>∃d e,Reads K H d x∧Reads K H e y∧d.depth≤32∧Q (.bl (if neg then !iB d e else iB d e)) H
A8 Vs(hu:X.A.units+64<cLine):jQ X (compareOp .Eq) (Vr X.K false):=by
 intro pins s σ H x y v u Q I rx ry h
 A6⟨d,e,r1,r2,hd,q⟩:=h
 ~(wG I 32 d e x y v u X.A hd A0 r1 r2 rx ry).1 X.prog X.w X.xe _ ⟨.bl _,H,I,rfl,q⟩
open SeqAt in
A8 Vt(hu:X.A.units+64<cLine):jQ X (compareOp .NotEq) (fun x y H Q=>∃ds es,Reads X.K H (.lst ds) x∧Reads X.K H (.lst es) y∧bF ds≤32∧Q (.bl (!iB (.lst ds) (.lst es))) H):=by
 intro pins s σ H x y v u Q I rx ry h
 A6⟨ds,es,r1,r2,hd,q⟩:=h
 A7 Reads at r1 r2
 A6⟨a,xs,rfl,hq1,Gq⟩:=r1
 A6⟨b,ys,rfl,hq2,Aq⟩:=r2
 cases rx
 cases ry
 A6⟨jT,v1,lM,_⟩:=I.list hq1
 A6⟨its2,v2,oW,_⟩:=I.list hq2
 have e1:jT.toArray.size=ds.length:=by rw[B0,←v1.length,Gq.length]
 have e2:its2.toArray.size=es.length:=by rw[B0,←v2.length,Aq.length]
 have rc:RcNeAt X.A s (.ref a) (.ref b) (!iB (.lst ds) (.lst es)):=by
  by_cases hl:ds.length=es.length
  ·have z:=RcNeAt.lists (A:=X.A) (s:=s) lM.isList oW.isList (by rw[e1,e2];~hl) A0 (qK I 32 X.A (fun d e x y u v A a1 a2 a3 a4 a5 a6=>wG I 32 d e x y u v A a1 a2 a3 a4 a5 a6) ds es xs ys jT its2 hd A0 Gq Aq v1 v2)
   rw[e1,cW hl]at z
   rw[Dq]
   ~z
  ·rw[bV (by intro z;cases z;~hl rfl)]
   ~RcNeAt.lists_lengths lM.isList oW.isList (by rw[e1,e2];simpa using hl) A0
 ~rc X.prog X.w X.xe _ ⟨.bl _,H,I,rfl,q⟩
end
end L2


namespace L2
open PySem PySem.Spec PyProof.Rows
structure Raw(K:aA)(mg:Str→Option Value)(x:Str)(st:Stmt):Prop where
 ex:∃f fd,Nm K x x st f fd∧mg x=some (.ref f)
A8 Vu{K:aA}{h:Heap}{mg:Str→Option Value}{x:Str}{st:Stmt}{f:Addr}{oc:Value}{od an:Option Addr}{osl:Array (Option Value)}{kV doc pm cdv ct:Value}(X:K.In h)(G:h.Ns mainGlobals mg)
  (a:R6 K mainGlobals x=some (some (.ref f))) (l:K.lookup f=some ⟨oc,od,.func (E9 x x (cB st) (bK st) (aH st) .none kV doc pm an cdv ct),osl⟩)
  (c:J7 K cdv x=true) (k:G0 K (.ref f)=true):Raw K mg x st:=⟨⟨f,_,Vo l c k,U0 X G a⟩⟩
structure mO(P:Program)(w:World)(K:aA)(mg:Str→Option Value)(base:Heap)(x:Str)(k:Nat)(n:Nat)(sp:Sp):Prop where
 ex:∃f fd ps,ps.length=n∧mK P w K mg base Ie k f fd ps sp∧Binds K fd ps []∧G0 K (.ref f)=true∧mg x=some (.ref f)
A8 Raw.cal{P:Program}{w:World}{K:aA}{mg:Str→Option Value}{base:Heap}{x:Str}{st:Stmt}{N ps:List Str}{k:Nat}{sp:Sp}(R:Raw K mg x st)(S:bJ N ps (aH st))(len:∀vs H Q E,sp vs H Q E→vs.length=ps.length)
  (hb:∀(kV doc pm:Value)(an:Option Addr)(cdv ct:Value)(us:List Value),us.length=ps.length→bindArgs (E9 x x (cB st) (bK st) (aH st) .none kV doc pm an cdv ct) ⟨us,[]⟩=pure (ps.zip us))
  (hbody:∀(f:Addr)(cdv:Value)(A:Around)(outer:List Env)(s:Shared)(H:Hp)(vs:List V)(Q:VK)(E:XK),dH k (A.deeper (envOfC x (aH st) s.heap.objs.size f cdv))→sp vs H Q E →
   ∃t,Af (vV Ie P w K mg base N x (aH st) f cdv A outer s H E).Uo (bK st) t∧t {nx:=fun _ H'=>Q .non H',rt:=Q} (start N vs) H):mO P w K mg base x (k+1) ps.length sp:=by
 A6⟨f,fd,F,m⟩:=R.ex
 ~⟨f,fd,ps,rfl,F.ok S len fun cdv A outer s H vs Q E hr h=>hbody f cdv A outer s H vs Q E hr h,F.binds hb,F.kp,m⟩
A8 Vv{X:Cx}{x:Str}{k n:Nat}{sp:Sp}{e:Expr}{es:List Expr}{p pos:Pos}{t:TA}(C:mO X.prog X.w X.K X.mg X.base x k n sp)(hr:dH k X.A)(hg:Gl X x)
  (ha:PA X (e::es) t) (hdb:(x==("__debug__" : Str))=false:=by decide) (he:starEach (e::es) X.env=(false,eval e X.env)::starEach es X.env:=by rfl) (hpl:(backTo pos (starEach es X.env)).any (·.1)=false:=by rfl) :
  PE X (.Call (.Name x p) (e::es) [] pos) (xZ sp [] E0 t):=by
 A6⟨f,fd,ps,_,F,hb,hk,hm⟩:=C.ex
 ~Oj F hr hg hm hk hb .nil Zk ha hdb he hpl
A8 call_of{sp:Sp}{E:XK}{t:TA}{σ:St}{H:Hp}{Q:VK}(h:t σ H fun vs H1=>sp vs H1 Q E):xZ sp [] E t σ H Q:=by
 A7 xZ
 have e:(fun(vs:List V) (H1:Hp)=>sp (vs++[]) H1 Q E)=fun vs H1=>sp vs H1 Q E:=by funext vs H1;rw[L8]
 rw[e]
 ~h
A8 bD{H:Hp}{p:Addr}(h:H p=none)(o:HO):aD H (upd H p o):=fun b u q=>by rw[aJ (bU q h)];~q
A8 aD.tup{K:aA}{H H':Hp}{a:Addr}{xs:List V}(e:aD H H')(h:jP K H a xs):jP K H' a xs:=by
 rcases h with (h | ⟨o,h⟩) | h
 ·~.inl (.inl (e _ _ h))
 ·~.inl (.inr ⟨o,e _ _ h⟩)
 ·~.inr h
mutual
A8 aD.reads{K:aA}{H H':Hp}(e:aD H H'):∀(d:DV)(x:V),Reads K H d x→Reads K H' d x
 | .int i,x,h=>by A7 Reads at h ⊢;~h
 | .non,x,h=>by A7 Reads at h ⊢;~h
 | .lst ds,x,h=>by
  A7 Reads at h ⊢
  A6⟨a,xs,r,hq,l⟩:=h
  ~⟨a,xs,r,e.seq hq,aD.Av e ds xs l⟩
 | .tup ds,x,h=>by
  A7 Reads at h ⊢
  A6⟨a,xs,r,hq,l⟩:=h
  ~⟨a,xs,r,e.tup hq,aD.Av e ds xs l⟩
A8 aD.Av{K:aA}{H H':Hp}(e:aD H H'):∀(ds:List DV)(xs:List V),aZ K H ds xs→aZ K H' ds xs
 | [],xs,h=>by A7 aZ at h ⊢;~h
 | d::ds,xs,h=>by
  A7 aZ at h ⊢
  A6⟨y,ys,r,h1,h2⟩:=h
  ~⟨y,ys,r,aD.reads e d y h1,aD.Av e ds ys h2⟩
end
A8 qL:∀ns:List Int,bF (ns.map DV.int)=0
 | []=>by rw[D4];A7 bF;rfl
 | n::ns=>by rw[B3];A7 bF DV.depth;rw[qL ns];rfl
end L2
namespace L2
A8 bW.at{scope:PySem.Scope}{N:List PySem.Str}{k:Nat}{fr:List Nat}(mG:PySem.Scope)(oN:List PySem.Str)(h:Jl mG scope oN N k fr=true):bW mG scope oN N k fr:=bW.of h
end L2
namespace L2
open PySem PySem.Spec PyProof.Rows
def lN(H:Hp)(p:Addr):Prop:=(∀xs,H p≠some (.tup xs))∧∀o xs,H p≠some (.eV o (.tup xs))
A8 fG{H:Hp}{p:Addr}{xs:List V}(h:H p=some (.lst xs)):lN H p:=⟨fun ys e=>(by rw[h]at e;cases e),fun o ys e=>(by rw[h]at e;cases e)⟩
A8 lO{H:Hp}{p:Addr}{kvs:List (Key×V)}(h:H p=some (.dK kvs)):lN H p:=⟨fun ys e=>(by rw[h]at e;cases e),fun o ys e=>(by rw[h]at e;cases e)⟩
A8 jP.upd{K:aA}{H:Hp}{a p:Addr}{xs:List V}{o:HO}(h:jP K H a xs)(n:lN H p):jP K (upd H p o) a xs:=by
 rcases h with (h | ⟨u,h⟩) | h
 ·~.inl (.inl (by rw[aJ (fun z=>n.1 xs (by rw[←z];~h))];~h))
 ·~.inl (.inr ⟨u,by rw[aJ (fun z=>n.2 u xs (by rw[←z];~h))];~h⟩)
 ·~.inr h
mutual
def cX:DV→Bool
 | .int _=>true
 | .non=>true
 | .lst _=>false
 | .tup ds=>bM ds
def bM:List DV→Bool
 | []=>true
 | d::ds=>cX d&&bM ds
end
mutual
A8 Gr{K:aA}{H:Hp}{p:Addr}{o:HO}(n:lN H p):∀(d:DV)(x:V),cX d=true→Reads K H d x→Reads K (upd H p o) d x
 | .int i,x,_,h=>by A7 Reads at h ⊢;~h
 | .non,x,_,h=>by A7 Reads at h ⊢;~h
 | .lst ds,x,hi,h=>by A7 cX at hi;cases hi
 | .tup ds,x,hi,h=>by
  A7 cX at hi
  A7 Reads at h ⊢
  A6⟨a,xs,r,hq,l⟩:=h
  ~⟨a,xs,r,hq.upd n,qM n ds xs hi l⟩
A8 qM{K:aA}{H:Hp}{p:Addr}{o:HO}(n:lN H p):∀(ds:List DV)(xs:List V),bM ds=true→aZ K H ds xs→aZ K (upd H p o) ds xs
 | [],xs,_,h=>by A7 aZ at h ⊢;~h
 | d::ds,xs,hi,h=>by
  A7 bM at hi
  rw[G8]at hi
  A7 aZ at h ⊢
  A6⟨y,ys,r,h1,h2⟩:=h
  ~⟨y,ys,r,Gr n d y hi.1 h1,qM n ds ys hi.2 h2⟩
end
A8 lQ{n d:Nat}{k:Nat}:HT.oU n d (some (k:Int))=min k n:=HT.Om n d k
end L2
namespace L2
open PySem PySem.Spec PyProof.Rows
section
variable{X:Cx}
end
end L2
namespace L2
open PySem PySem.Spec PyProof.Rows
end L2
namespace L2
open PySem PySem.Spec PyProof.Rows
section
variable{X:Cx}
end
A8 yI{K:aA}:E1 K (.type "int") (.type "int")=some true:=by A7 E1;rfl
A8 tX{K:aA}:E1 K (.type "bool") (.type "bool")=some true:=by A7 E1;rfl
A8 tY{K:aA}:E1 K (.type "list") (.type "list")=some true:=by A7 E1;rfl
A8 oX{K:aA}:E1 K (.type "tuple") (.type "tuple")=some true:=by A7 E1;rfl
A8 wH{K:aA}:E1 K (.type "int") (.type "bool")=some false:=by
  first | rfl | decide | (A7 E1 T8;rfl) | (A7 E1 T8;simp;decide)
end L2


namespace L2
open PySem PySem.Spec PyProof.Rows
section
variable{X:Cx}
open SeqAt in
A8 Vw(hu:X.A.units+64<cLine):jQ X (compareOp .NotEq) (fun x y H Q=>∃ds es,Reads X.K H (.tup ds) x∧Reads X.K H (.tup es) y∧bF ds≤32∧Q (.bl (!iB (.tup ds) (.tup es))) H):=by
 intro pins s σ H x y v u Q I rx ry h
 A6⟨ds,es,r1,r2,hd,q⟩:=h
 A7 Reads at r1 r2
 A6⟨a,xs,rfl,hq1,Gq⟩:=r1
 A6⟨b,ys,rfl,hq2,Aq⟩:=r2
 cases rx
 cases ry
 A6⟨jT,v1,lM,_⟩:=I.tuple hq1
 A6⟨its2,v2,oW,_⟩:=I.tuple hq2
 have e1:jT.toArray.size=ds.length:=by rw[B0,←v1.length,Gq.length]
 have e2:its2.toArray.size=es.length:=by rw[B0,←v2.length,Aq.length]
 have rc:RcNeAt X.A s (.ref a) (.ref b) (!iB (.tup ds) (.tup es)):=by
  have z:=RcNeAt.tuples (A:=X.A) (s:=s) (l:=a) (b:=b) lM oW A0 (qK I 32 X.A (fun d e x y u v A a1 a2 a3 a4 a5 a6=>wG I 32 d e x y u v A a1 a2 a3 a4 a5 a6) ds es xs ys jT its2 hd A0 Gq Aq v1 v2)
  rw[e1,e2]at z
  by_cases hl:ds.length=es.length
  ·rw[←hl,O2,cW hl]at z
   rw[Dr]
   simpa using z
  ·rw[bV (by intro z;cases z;~hl rfl)]
   have zz:(ds.length==es.length)=false:=by simpa using hl
   rw[zz,T7]at z
   ~z
 ~rc X.prog X.w X.xe _ ⟨.bl _,H,I,rfl,q⟩
end
end L2


namespace L2
open PySem PySem.Spec PyProof.Rows
inductive D where
  | non | bl (b:Bool) | int (i:Int) | str (x:Str)
  | lst (ds:List D) | tup (ds:List D)
  | dk (ks:List Key) (ds:List D)
  | dt (ks:List (List Key)) (ds:List D)
  | ins (C:Addr) (nm:List Str) (ds:List D)
abbrev Fp:=Addr→Prop
def Apart(A B:Fp):Prop:=∀x,A x→¬B x
def Is(A B:Fp):Prop:=∀x,A x↔B x
def None(A:Fp):Prop:=∀x,¬A x
abbrev cI(A B:Fp):Fp:=fun x=>A x∨B x
mutual
def Rv(K:aA)(H:Hp):D→V→Prop
 | .non,v=>v=.non
 | .bl b,v=>v=.bl b
 | .int i,v=>v=.int i
 | .str x,v=>v=.str x
 | .lst ds,v=>∃a xs,v=.ref a∧gW K H a xs∧bC K H ds xs
 | .tup ds,v=>∃a xs,v=.ref a∧jP K H a xs∧bC K H ds xs
 | .dk ks ds,v=>∃a xs,v=.ref a∧Rd H a (.dK (ks.zip xs))∧ks.length=xs.length∧bC K H ds xs
 | .dt ks ds,v=>∃a xs,v=.ref a∧Rd H a (.dT (ks.zip xs))∧ks.length=xs.length∧bC K H ds xs
 | .ins C nm ds,v=>∃a dx xs,v=.ref a∧H a=some (.ins C dx (nm.zip xs))∧nm.length=xs.length∧bC K H ds xs
def bC(K:aA)(H:Hp):List D→List V→Prop
 | [],xs=>xs=[]
 | d::ds,xs=>∃y ys,xs=y::ys∧Rv K H d y∧bC K H ds ys
end
A8 aD.rd{H H':Hp}(e:aD H H'){a:Addr}{u:HO}(h:Rd H a u):Rd H' a u:=by
 rcases h with h | ⟨o,h⟩
 ·~.inl (e _ _ h)
 ·~.inr ⟨o,e _ _ h⟩
mutual
A8 aD.rv{K:aA}{H H':Hp}(e:aD H H'):∀(d:D)(v:V),Rv K H d v→Rv K H' d v
 | .non,v,h=>by A7 Rv at h ⊢;~h
 | .bl _,v,h=>by A7 Rv at h ⊢;~h
 | .int _,v,h=>by A7 Rv at h ⊢;~h
 | .str _,v,h=>by A7 Rv at h ⊢;~h
 | .lst ds,v,h=>by A7 Rv at h ⊢;A6⟨a,xs,r,hq,l⟩:=h;~⟨a,xs,r,e.seq hq,aD.Ig e ds xs l⟩
 | .tup ds,v,h=>by A7 Rv at h ⊢;A6⟨a,xs,r,hq,l⟩:=h;~⟨a,xs,r,e.tup hq,aD.Ig e ds xs l⟩
 | .dk ks ds,v,h=>by A7 Rv at h ⊢;A6⟨a,xs,r,hq,hl,l⟩:=h;~⟨a,xs,r,e.rd hq,hl,aD.Ig e ds xs l⟩
 | .dt ks ds,v,h=>by A7 Rv at h ⊢;A6⟨a,xs,r,hq,hl,l⟩:=h;~⟨a,xs,r,e.rd hq,hl,aD.Ig e ds xs l⟩
 | .ins C nm ds,v,h=>by A7 Rv at h ⊢;A6⟨a,dx,xs,r,hq,hl,l⟩:=h;~⟨a,dx,xs,r,e _ _ hq,hl,aD.Ig e ds xs l⟩
A8 aD.Ig{K:aA}{H H':Hp}(e:aD H H'):∀(ds:List D)(xs:List V),bC K H ds xs→bC K H' ds xs
 | [],xs,h=>by A7 bC at h ⊢;~h
 | d::ds,xs,h=>by A7 bC at h ⊢;A6⟨y,ys,r,h1,h2⟩:=h;~⟨y,ys,r,aD.rv e d y h1,aD.Ig e ds ys h2⟩
end
A8 bC.length{K:aA}{H:Hp}:∀{ds:List D} {xs:List V},bC K H ds xs→xs.length=ds.length
 | [],xs,h=>by A7 bC at h;subst h;rfl
 | d::ds,xs,h=>by A7 bC at h;A6⟨y,ys,rfl,_,h2⟩:=h;rw[F0,F0,bC.length h2]
A8 bC.get{K:aA}{H:Hp}:∀{ds:List D} {xs:List V} {i:Nat} {d:D},bC K H ds xs→ds[i]?=some d→∃x,xs[i]?=some x∧Rv K H d x
 | [],xs,i,d,h,e=>by simp at e
 | d'::ds,xs,0,d,h,e=>by A7 bC at h;A6⟨y,ys,rfl,h1,_⟩:=h;simp at e;subst e;~⟨y,rfl,h1⟩
 | d'::ds,xs,i+1,d,h,e=>by
  A7 bC at h
  A6⟨y,ys,rfl,_,h2⟩:=h
  A6⟨x,e1,e2⟩:=bC.get (i:=i) (d:=d) h2 (by simpa using e)
  ~⟨x,by simpa using e1,e2⟩
def cQ{α β:Type}(R:α→Fp→β→Prop):List α→Fp→List β→Prop
 | [],A,ys=>None A∧ys=[]
 | d::ds,A,ys=>∃y yt A1 A2,ys=y::yt∧Apart A1 A2∧Is A (cI A1 A2)∧R d A1 y∧cQ R ds A2 yt
section
variable{α β:Type}{R R':α→Fp→β→Prop}
A8 cQ.congr:∀{ds:List α} {A A':Fp} {ys:List β},cQ R ds A ys→Is A A'→cQ R ds A' ys
 | [],A,A',ys,h,e=>⟨fun x q=>h.1 x ((e x).mpr q),h.2⟩
 | d::ds,A,A',ys,⟨y,yt,A1,A2,h1,h2,h3,h4⟩,e=>⟨y,yt,A1,A2,h1,h2,fun x=>((e x).symm).trans (h3 x),h4⟩
A8 cQ.mono:∀{ds:List α} {A:Fp} {ys:List β},cQ R ds A ys→(∀e B z,(∀x,B x→A x)→R e B z→R' e B z)→cQ R' ds A ys
 | [],A,ys,h,_=>h
 | d::ds,A,ys,⟨y,yt,A1,A2,h1,h2,h3,h4,h5⟩,m=>
  ⟨y,yt,A1,A2,h1,h2,h3,m _ _ _ (fun x q=>(h3 x).mpr (.inl q)) h4,h5.mono fun e B z hb=>m e B z fun x q=>(h3 x).mpr (.inr (hb x q))⟩
A8 cQ.focus:∀{ds:List α} {A:Fp} {ys:List β} {i:Nat} {d:α},cQ R ds A ys→ds[i]?=some d→∃y A1 C,ys[i]?=some y∧Apart A1 C∧Is A (cI A1 C)∧R d A1 y ∧
    ∀(R':α→Fp→β→Prop),(∀e B z,(∀x,B x→C x)→R e B z→R' e B z)→∀d' y' Np,Apart Np C→R' d' Np y'→cQ R' (ds.set i d') (cI Np C) (ys.set i y')
  | [],A,ys,i,d,h,e=>by simp at e
  | d0::ds,A,ys,0,d,⟨y,yt,A1,A2,h1,h2,h3,h4,h5⟩,e=>by
    simp at e
    subst e h1
    ~⟨y,A1,A2,rfl,h2,h3,h4,fun R' m d' y' Np ap r=>⟨y',yt,Np,A2,rfl,ap,fun x=>Iff.rfl,r,h5.mono m⟩⟩
  | d0::ds,A,ys,i+1,d,⟨y,yt,A1,A2,h1,h2,h3,h4,h5⟩,e=>by
    subst h1
    A6⟨z,B1,C,e1,ap,hA,r,k⟩:=cQ.focus (i:=i) (d:=d) h5 (by simpa using e)
    &⟨z,B1,cI A1 C,by simpa using e1,?_,?_,r,fun R' m d' y' Np ap' r'=>?_⟩
    · intro x hx hc
      rcases hc with hc | hc
      · ~h2 x hc ((hA x).mpr (.inl hx))
      · ~ap x hx hc
    · intro x
      rw[h3 x]
      constructor
      · rintro(q | q)
        · ~.inr (.inl q)
        · rcases(hA x).mp q with q | q
          · ~.inl q
          · ~.inr (.inr q)
      · rintro(q | q | q)
        · ~.inr ((hA x).mpr (.inl q))
        · ~.inl q
        · ~.inr ((hA x).mpr (.inr q))
    · &⟨y,_,A1,cI Np C,rfl,?_,?_,m _ _ _ (fun x q=>.inl q) h4,k R' (fun e B z hb=>m e B z fun x q=>.inr (hb x q)) d' y' Np (fun x q q'=>ap' x q (.inr q')) r'⟩
      · intro x q q'
        rcases q' with q' | q'
        · ~ap' x q' (.inl q)
        · ~h2 x q ((hA x).mpr (.inr q'))
      · intro x
        show (Np x∨A1 x∨C x)↔(A1 x∨Np x∨C x)
        constructor
        · rintro(q | q | q)
          · ~.inr (.inl q)
          · ~.inl q
          · ~.inr (.inr q)
        · rintro(q | q | q)
          · ~.inr (.inl q)
          · ~.inl q
          · ~.inr (.inr q)
A8 cQ.snoc:∀{ds:List α} {A A1:Fp} {ys:List β} {d:α} {y:β},cQ R ds A ys→R d A1 y→Apart A A1→cQ R (ds++[d]) (cI A A1) (ys++[y])
 | [],A,A1,ys,d,y,h,r,ap=>by
  rw[h.2]
  ~⟨y,[],A1,fun _=>False,rfl,fun _ _ z=>z,fun x=>⟨fun q=>q.elim (fun q=>absurd q (h.1 x)) .inl,fun q=>q.elim .inr False.elim⟩,r,fun _ z=>z,rfl⟩
 | d0::ds,A,A1,ys,d,y,⟨y0,yt,B1,B2,h1,h2,h3,h4,h5⟩,r,ap=>by
  subst h1
  &⟨y0,yt++[y],B1,cI B2 A1,rfl,?_,?_,h4,cQ.snoc h5 r fun x q=>ap x ((h3 x).mpr (.inr q))⟩
  ·intro x q q'
   rcases q' with q' | q'
   ·~h2 x q q'
   ·~ap x ((h3 x).mpr (.inl q)) q'
  ·intro x
   show (A x∨A1 x)↔(B1 x∨B2 x∨A1 x)
   rw[h3 x]
   ~or_assoc
end
mutual
def Ow(K:aA)(H:Hp):D→Fp→V→Prop
 | .non,A,v=>None A∧v=.non
 | .bl b,A,v=>None A∧v=.bl b
 | .int i,A,v=>None A∧v=.int i
 | .str x,A,v=>None A∧v=.str x
 | .lst ds,A,v=>∃a xs B,v=.ref a∧H a=some (.lst xs)∧¬B a∧Is A (cI (·=a) B)∧bH K H ds B xs
 | .tup ds,A,v=>∃a xs,v=.ref a∧jP K H a xs∧bH K H ds A xs
 | .dk ks ds,A,v=>∃a xs B,v=.ref a∧H a=some (.dK (ks.zip xs))∧ks.length=xs.length∧¬B a∧Is A (cI (·=a) B)∧bH K H ds B xs
 | .dt ks ds,A,v=>∃a xs B,v=.ref a∧H a=some (.dT (ks.zip xs))∧ks.length=xs.length∧¬B a∧Is A (cI (·=a) B)∧bH K H ds B xs
 | .ins C nm ds,A,v=>∃a dx xs B,v=.ref a∧H a=some (.ins C dx (nm.zip xs))∧H dx=some (.own a)∧nm.length=xs.length∧¬B a∧¬B dx∧Is A (cI (fun x=>x=a∨x=dx) B)∧bH K H ds B xs
def bH(K:aA)(H:Hp):List D→Fp→List V→Prop
 | [],A,ys=>None A∧ys=[]
 | d::ds,A,ys=>∃y yt A1 A2,ys=y::yt∧Apart A1 A2∧Is A (cI A1 A2)∧Ow K H d A1 y∧bH K H ds A2 yt
end
A8 cA{K:aA}{H:Hp}:∀{ds:List D} {A:Fp} {ys:List V},bH K H ds A ys↔cQ (Ow K H) ds A ys
 | [],A,ys=>by A7 bH cQ;~Iff.rfl
 | d::ds,A,ys=>by
  A7 bH cQ
  constructor
  ·rintro⟨y,yt,A1,A2,h1,h2,h3,h4,h5⟩;~⟨y,yt,A1,A2,h1,h2,h3,h4,cA.mp h5⟩
  ·rintro⟨y,yt,A1,A2,h1,h2,h3,h4,h5⟩;~⟨y,yt,A1,A2,h1,h2,h3,h4,cA.mpr h5⟩
def mQ(K:aA)(H H':Hp):Prop:=∀a xs,jP K H a xs→jP K H' a xs
A8 aD.tk{K:aA}{H H':Hp}(e:aD H H'):mQ K H H':=fun _ _ h=>e.tup h
A8 Ow.congr{K:aA}{H:Hp}{d:D}{A A':Fp}{v:V}(h:Ow K H d A v)(e:Is A A'):Ow K H d A' v:=by
 cases d with
 | non=>A7 Ow at h ⊢;~⟨fun x q=>h.1 x ((e x).mpr q),h.2⟩
 | bl b=>A7 Ow at h ⊢;~⟨fun x q=>h.1 x ((e x).mpr q),h.2⟩
 | int b=>A7 Ow at h ⊢;~⟨fun x q=>h.1 x ((e x).mpr q),h.2⟩
 | str b=>A7 Ow at h ⊢;~⟨fun x q=>h.1 x ((e x).mpr q),h.2⟩
 | lst ds=>A7 Ow at h ⊢;A6⟨a,xs,B,h1,h2,h3,h4,h5⟩:=h;~⟨a,xs,B,h1,h2,h3,fun x=>(e x).symm.trans (h4 x),h5⟩
 | tup ds=>A7 Ow at h ⊢;A6⟨a,xs,h1,h2,h3⟩:=h;~⟨a,xs,h1,h2,cA.mpr ((cA.mp h3).congr e)⟩
 | dk ks ds=>A7 Ow at h ⊢;A6⟨a,xs,B,h1,h2,h2',h3,h4,h5⟩:=h;~⟨a,xs,B,h1,h2,h2',h3,fun x=>(e x).symm.trans (h4 x),h5⟩
 | dt ks ds=>A7 Ow at h ⊢;A6⟨a,xs,B,h1,h2,h2',h3,h4,h5⟩:=h;~⟨a,xs,B,h1,h2,h2',h3,fun x=>(e x).symm.trans (h4 x),h5⟩
 | ins C nm ds=>A7 Ow at h ⊢;A6⟨a,dx,xs,B,h1,h2,h2',h3,h3',h3'',h4,h5⟩:=h;~⟨a,dx,xs,B,h1,h2,h2',h3,h3',h3'',fun x=>(e x).symm.trans (h4 x),h5⟩
mutual
A8 Ow.frame{K:aA}{H H':Hp}(t:mQ K H H'):∀(d:D)(A:Fp)(v:V),Ow K H d A v→(∀a,A a→H' a=H a)→Ow K H' d A v
 | .non,A,v,h,f=>by A7 Ow at h ⊢;~h
 | .bl _,A,v,h,f=>by A7 Ow at h ⊢;~h
 | .int _,A,v,h,f=>by A7 Ow at h ⊢;~h
 | .str _,A,v,h,f=>by A7 Ow at h ⊢;~h
 | .lst ds,A,v,h,f=>by
  A7 Ow at h ⊢
  A6⟨a,xs,B,h1,h2,h3,h4,h5⟩:=h
  ~⟨a,xs,B,h1,(f a ((h4 a).mpr (.inl rfl))).trans h2,h3,h4,bH.frame t ds B xs h5 fun b q=>f b ((h4 b).mpr (.inr q))⟩
 | .tup ds,A,v,h,f=>by A7 Ow at h ⊢;A6⟨a,xs,h1,h2,h3⟩:=h;~⟨a,xs,h1,t _ _ h2,bH.frame t ds A xs h3 f⟩
 | .dk ks ds,A,v,h,f=>by
  A7 Ow at h ⊢
  A6⟨a,xs,B,h1,h2,h2',h3,h4,h5⟩:=h
  ~⟨a,xs,B,h1,(f a ((h4 a).mpr (.inl rfl))).trans h2,h2',h3,h4,bH.frame t ds B xs h5 fun b q=>f b ((h4 b).mpr (.inr q))⟩
 | .dt ks ds,A,v,h,f=>by
  A7 Ow at h ⊢
  A6⟨a,xs,B,h1,h2,h2',h3,h4,h5⟩:=h
  ~⟨a,xs,B,h1,(f a ((h4 a).mpr (.inl rfl))).trans h2,h2',h3,h4,bH.frame t ds B xs h5 fun b q=>f b ((h4 b).mpr (.inr q))⟩
 | .ins C nm ds,A,v,h,f=>by
  A7 Ow at h ⊢
  A6⟨a,dx,xs,B,h1,h2,h2',h3,h3',h3'',h4,h5⟩:=h
  ~⟨a,dx,xs,B,h1,(f a ((h4 a).mpr (.inl (.inl rfl)))).trans h2,(f dx ((h4 dx).mpr (.inl (.inr rfl)))).trans h2',h3,h3',h3'',h4,bH.frame t ds B xs h5 fun b q=>f b ((h4 b).mpr (.inr q))⟩
A8 bH.frame{K:aA}{H H':Hp}(t:mQ K H H'):∀(ds:List D)(A:Fp)(ys:List V),bH K H ds A ys→(∀a,A a→H' a=H a)→bH K H' ds A ys
 | [],A,ys,h,f=>by A7 bH at h ⊢;~h
 | d::ds,A,ys,h,f=>by
  A7 bH at h ⊢
  A6⟨y,yt,A1,A2,h1,h2,h3,h4,h5⟩:=h
  ~⟨y,yt,A1,A2,h1,h2,h3,Ow.frame t d A1 y h4 fun b q=>f b ((h3 b).mpr (.inl q)),bH.frame t ds A2 yt h5 fun b q=>f b ((h3 b).mpr (.inr q))⟩
end
mutual
A8 Ow.rv{K:aA}{H:Hp}:∀(d:D)(A:Fp)(v:V),Ow K H d A v→Rv K H d v
 | .non,A,v,h=>by A7 Ow at h;A7 Rv;~h.2
 | .bl _,A,v,h=>by A7 Ow at h;A7 Rv;~h.2
 | .int _,A,v,h=>by A7 Ow at h;A7 Rv;~h.2
 | .str _,A,v,h=>by A7 Ow at h;A7 Rv;~h.2
 | .lst ds,A,v,h=>by A7 Ow at h;A7 Rv;A6⟨a,xs,B,h1,h2,h3,h4,h5⟩:=h;~⟨a,xs,h1,gW.of h2,bH.rv ds B xs h5⟩
 | .tup ds,A,v,h=>by A7 Ow at h;A7 Rv;A6⟨a,xs,h1,h2,h3⟩:=h;~⟨a,xs,h1,h2,bH.rv ds A xs h3⟩
 | .dk ks ds,A,v,h=>by A7 Ow at h;A7 Rv;A6⟨a,xs,B,h1,h2,h2',h3,h4,h5⟩:=h;~⟨a,xs,h1,.inl h2,h2',bH.rv ds B xs h5⟩
 | .dt ks ds,A,v,h=>by A7 Ow at h;A7 Rv;A6⟨a,xs,B,h1,h2,h2',h3,h4,h5⟩:=h;~⟨a,xs,h1,.inl h2,h2',bH.rv ds B xs h5⟩
 | .ins C nm ds,A,v,h=>by A7 Ow at h;A7 Rv;A6⟨a,dx,xs,B,h1,h2,h2',h3,h3',h3'',h4,h5⟩:=h;~⟨a,dx,xs,h1,h2,h3,bH.rv ds B xs h5⟩
A8 bH.rv{K:aA}{H:Hp}:∀(ds:List D)(A:Fp)(ys:List V),bH K H ds A ys→bC K H ds ys
 | [],A,ys,h=>by A7 bH at h;A7 bC;~h.2
 | d::ds,A,ys,h=>by A7 bH at h;A7 bC;A6⟨y,yt,A1,A2,h1,h2,h3,h4,h5⟩:=h;~⟨y,yt,h1,Ow.rv d A1 y h4,bH.rv ds A2 yt h5⟩
end
def iC(H:Hp)(a:Addr):Prop:=(∃o,H a=some o)∧lN H a
mutual
A8 Ow.cells{K:aA}{H:Hp}:∀(d:D)(A:Fp)(v:V),Ow K H d A v→∀a,A a→iC H a
 | .non,A,v,h,a,q=>by A7 Ow at h;~absurd q (h.1 a)
 | .bl _,A,v,h,a,q=>by A7 Ow at h;~absurd q (h.1 a)
 | .int _,A,v,h,a,q=>by A7 Ow at h;~absurd q (h.1 a)
 | .str _,A,v,h,a,q=>by A7 Ow at h;~absurd q (h.1 a)
 | .lst ds,A,v,h,a,q=>by
  A7 Ow at h
  A6⟨p,xs,B,h1,h2,h3,h4,h5⟩:=h
  rcases(h4 a).mp q with z | z
  ·cases z;~⟨⟨_,h2⟩,fG h2⟩
  ·~bH.cells ds B xs h5 a z
 | .tup ds,A,v,h,a,q=>by A7 Ow at h;A6⟨p,xs,h1,h2,h3⟩:=h;~bH.cells ds A xs h3 a q
 | .dk ks ds,A,v,h,a,q=>by
  A7 Ow at h
  A6⟨p,xs,B,h1,h2,h2',h3,h4,h5⟩:=h
  rcases(h4 a).mp q with z | z
  ·cases z;~⟨⟨_,h2⟩,lO h2⟩
  ·~bH.cells ds B xs h5 a z
 | .dt ks ds,A,v,h,a,q=>by
  A7 Ow at h
  A6⟨p,xs,B,h1,h2,h2',h3,h4,h5⟩:=h
  rcases(h4 a).mp q with z | z
  ·cases z;~⟨⟨_,h2⟩,fun ys e=>(by rw[h2]at e;cases e),fun o ys e=>(by rw[h2]at e;cases e)⟩
  ·~bH.cells ds B xs h5 a z
 | .ins C nm ds,A,v,h,a,q=>by
  A7 Ow at h
  A6⟨p,dx,xs,B,h1,h2,h2',h3,h3',h3'',h4,h5⟩:=h
  rcases(h4 a).mp q with (z | z) | z
  ·cases z;~⟨⟨_,h2⟩,fun ys e=>(by rw[h2]at e;cases e),fun o ys e=>(by rw[h2]at e;cases e)⟩
  ·cases z;~⟨⟨_,h2'⟩,fun ys e=>(by rw[h2']at e;cases e),fun o ys e=>(by rw[h2']at e;cases e)⟩
  ·~bH.cells ds B xs h5 a z
A8 bH.cells{K:aA}{H:Hp}:∀(ds:List D)(A:Fp)(ys:List V),bH K H ds A ys→∀a,A a→iC H a
 | [],A,ys,h,a,q=>by A7 bH at h;~absurd q (h.1 a)
 | d::ds,A,ys,h,a,q=>by
  A7 bH at h
  A6⟨y,yt,A1,A2,h1,h2,h3,h4,h5⟩:=h
  rcases(h3 a).mp q with z | z
  ·~Ow.cells d A1 y h4 a z
  ·~bH.cells ds A2 yt h5 a z
end
mutual
def D.cX:D→Bool
  | .non=>true | .bl _=>true | .int _=>true | .str _=>true
  | .tup ds=>D.bM ds
  | _=>false
def D.bM:List D→Bool
  | []=>true
  | d::ds=>D.cX d&&D.bM ds
end
abbrev nil:Fp:=fun _=>False
mutual
A8 qN{K:aA}{H:Hp}:∀(d:D)(v:V),d.cX=true→Rv K H d v→Ow K H d nil v
 | .non,v,_,h=>by A7 Rv at h;A7 Ow;~⟨fun _ z=>z,h⟩
 | .bl _,v,_,h=>by A7 Rv at h;A7 Ow;~⟨fun _ z=>z,h⟩
 | .int _,v,_,h=>by A7 Rv at h;A7 Ow;~⟨fun _ z=>z,h⟩
 | .str _,v,_,h=>by A7 Rv at h;A7 Ow;~⟨fun _ z=>z,h⟩
 | .tup ds,v,i,h=>by A7 D.cX at i;A7 Rv at h;A7 Ow;A6⟨a,xs,h1,h2,h3⟩:=h;~⟨a,xs,h1,h2,wI ds xs i h3⟩
 | .lst ds,v,i,h=>by A7 D.cX at i;cases i
 | .dk _ ds,v,i,h=>by A7 D.cX at i;cases i
 | .dt _ ds,v,i,h=>by A7 D.cX at i;cases i
 | .ins _ _ ds,v,i,h=>by A7 D.cX at i;cases i
A8 wI{K:aA}{H:Hp}:∀(ds:List D)(ys:List V),D.bM ds=true→bC K H ds ys→bH K H ds nil ys
 | [],ys,_,h=>by A7 bC at h;A7 bH;~⟨fun _ z=>z,h⟩
 | d::ds,ys,i,h=>by
  A7 D.bM at i
  rw[G8]at i
  A7 bC at h
  A7 bH
  A6⟨y,yt,h1,h2,h3⟩:=h
  ~⟨y,yt,nil,nil,h1,fun _ z _=>z,fun x=>⟨False.elim,fun z=>z.elim id id⟩,qN d y i.1 h2,wI ds yt i.2 h3⟩
end
open Classical in
noncomputable def out(H:Hp)(A:Fp):Hp:=fun a=>if A a then none else H a
A8 Vx{H:Hp}{A:Fp}{a:Addr}(h:¬A a):out H A a=H a:=by A7 out;rw[if_neg h]
A8 aV{H:Hp}{A:Fp}{a:Addr}{o:HO}:out H A a=some o↔¬A a∧H a=some o:=by
 A7 out
 split
 ·rename_i h;~⟨fun z=>(by cases z),fun z=>absurd h z.1⟩
 ·rename_i h;~⟨fun z=>⟨h,z⟩,fun z=>z.2⟩
A8 iD(H:Hp)(A:Fp):aD (out H A) H:=fun b o h=>(aV.mp h).2
A8 Js{K:aA}{H:Hp}{A:Fp}(h:∀a,A a→lN H a):mQ K H (out H A):=fun a xs q=>by
 rcases q with (q | ⟨o,q⟩) | q
 ·~.inl (.inl (aV.mpr ⟨fun z=>(h a z).1 _ q,q⟩))
 ·~.inl (.inr ⟨o,aV.mpr ⟨fun z=>(h a z).2 _ _ q,q⟩⟩)
 ·~.inr q
A8 Ow.out{K:aA}{H:Hp}{d:D}{A A':Fp}{v:V}(h:Ow K H d A' v)(ap:Apart A' A)(c:∀a,A a→lN H a):Rv K (out H A) d v:=
 Ow.rv d A' v (Ow.frame (Js c) d A' v h fun a q=>Vx (ap a q))
end L2


namespace L2
open PySem PySem.Spec PyProof.Rows
abbrev DE:=List (Option D)
abbrev FE:=DE→Option D
abbrev FA:=DE→Option (List D)
abbrev FT:=DE→Option Bool
def iG(K:aA)(H:Hp)(e:DE)(σ:St):Prop:=∀(i:Nat)(d:D),e[i]?=some (some d)→∃v,σ[i]?=some (some v)∧Rv K H d v
A8 iG.same{K:aA}{H H':Hp}{e:DE}{σ:St}(h:iG K H e σ)(s:aD H H'):iG K H' e σ:=fun i d q=>let ⟨v,h1,h2⟩:=h i d q;⟨v,h1,s.rv _ _ h2⟩
structure Zn(K:aA)(N:Fp)(Z H:Hp):Prop where
 sm:aD Z H
 tk:mQ K H Z
 no:∀a,N a→Z a=none∧¬H a=none
A8 Zn.self(K:aA)(H:Hp):Zn K nil H H:=⟨aD.refl _,fun _ _ h=>h,fun _ z=>z.elim⟩
A8 mQ.trans{K:aA}{H H1 H2:Hp}(a:mQ K H H1)(b:mQ K H1 H2):mQ K H H2:=fun p xs h=>b p xs (a p xs h)
A8 Ow.same{K:aA}{H H':Hp}{d:D}{A:Fp}{v:V}(h:Ow K H d A v)(s:aD H H'):Ow K H' d A v:=
 Ow.frame s.tk d A v h fun a q=>by
  A6⟨⟨o,e⟩,_⟩:=Ow.cells d A v h a q
  rw[e];~s a o e
A8 bH.same{K:aA}{H H':Hp}{ds:List D}{A:Fp}{vs:List V}(h:bH K H ds A vs)(s:aD H H'):bH K H' ds A vs:=
 bH.frame s.tk ds A vs h fun a q=>by
  A6⟨⟨o,e⟩,_⟩:=bH.cells ds A vs h a q
  rw[e];~s a o e
def Ag(K:aA)(H H':Hp)(d:D)(v:V):Prop:=∃A,Ow K H' d A v∧∀a,A a→H a=none
def tZ(K:aA)(H H':Hp)(ds:List D)(vs:List V):Prop:=∃A,bH K H' ds A vs∧∀a,A a→H a=none
A8 tZ.rv{K:aA}{H H':Hp}{ds:List D}{vs:List V}(h:tZ K H H' ds vs):bC K H' ds vs:=let ⟨A,o,_⟩:=h;bH.rv ds A vs o
A8 Ag.back{K:aA}{H0 H H':Hp}{d:D}{v:V}(h:Ag K H H' d v)(s:aD H0 H):Ag K H0 H' d v:=let ⟨A,o,f⟩:=h;⟨A,o,fun a q=>s.free (f a q)⟩
A8 Ag.cX{K:aA}{H H':Hp}{d:D}{v:V}(i:d.cX=true)(h:Rv K H' d v):Ag K H H' d v:=⟨nil,qN d v i h,fun _ z=>z.elim⟩
A8 tZ.bM{K:aA}{H H':Hp}{ds:List D}{vs:List V}(i:D.bM ds=true)(h:bC K H' ds vs):tZ K H H' ds vs:=⟨nil,wI ds vs i h,fun _ z=>z.elim⟩
open Classical in
noncomputable def wJ(Z H H':Hp):Hp:=fun a=>if H a=none then H' a else Z a
A8 lR{Z H H':Hp}{a:Addr}(h:H a=none):wJ Z H H' a=H' a:=by A7 wJ;rw[if_pos h]
A8 qO{Z H H':Hp}{a:Addr}(h:¬H a=none):wJ Z H H' a=Z a:=by A7 wJ;rw[if_neg h]
A8 mR{K:aA}{N:Fp}{Z H H':Hp}(z:Zn K N Z H):aD Z (wJ Z H H'):=fun b o e=>by
 rw[qO (by rw[z.sm b o e];intro q;cases q)];~e
A8 wK{K:aA}{N:Fp}{Z H H':Hp}(z:Zn K N Z H)(s:aD H H'):Zn K N (wJ Z H H') H' where
  sm:=fun b o e=>by
    by_cases c:H b=none
    · rw[lR c]at e;~e
    · rw[qO c]at e;~s b o (z.sm b o e)
  tk:=fun a xs h=>by
    by_cases c:H a=none
    · rcases h with (h | ⟨o,h⟩) | h
      · ~.inl (.inl (by rw[lR c];~h))
      · ~.inl (.inr ⟨o,by rw[lR c];~h⟩)
      · ~.inr h
    · have q:jP K H a xs:=by
        rcases h with (h | ⟨o,h⟩) | h
        · cases e:H a with
          | none=>~absurd e c
          | some o=>have:=s a o e;rw[h]at this;cases this;~.inl (.inl e)
        · cases e:H a with
          | none=>~absurd e c
          | some o=>have:=s a o e;rw[h]at this;cases this;~.inl (.inr ⟨_,e⟩)
        · ~.inr h
      ~(mR z).tup (z.tk a xs q)
  no:=fun a q=>⟨by rw[qO (z.no a q).2];~(z.no a q).1,fun h=>(z.no a q).2 (s.free h)⟩
A8 Ag.zone{K:aA}{N:Fp}{Z H H':Hp}{d:D}{v:V}(h:Ag K H H' d v)(z:Zn K N Z H)(s:aD H H'):Rv K (wJ Z H H') d v:=by
 A6⟨A,o,f⟩:=h
 ~Ow.rv d A v (Ow.frame (wK z s).tk d A v o fun a q=>lR (f a q))
def wL(K:aA)(t:TE)(f:FE):Prop:=∀{N:Fp}(σ:St)(H Z:Hp)(e:DE)(d:D)(Q:VK),Zn K N Z H→iG K Z e σ→f e=some d →
 (∀v H' Z',aD H H'→aD Z Z'→Zn K N Z' H'→Rv K Z' d v→Q v H')→t σ H Q
def uA(K:aA)(t:TE)(f:FE):Prop:=∀(σ:St)(H:Hp)(e:DE)(d:D)(Q:VK),iG K H e σ→f e=some d →
 (∀v H',aD H H'→Ag K H H' d v→Q v H')→t σ H Q
def Ah(K:aA)(t:TT)(f:FT):Prop:=∀(σ:St)(H:Hp)(e:DE)(b:Bool)(Q:Bool→Hp→Prop),iG K H e σ→f e=some b→(∀H',aD H H'→Q b H')→t σ H Q
def Yg(K:aA)(t:TA)(f:FA):Prop:=∀{N:Fp}(σ:St)(H Z:Hp)(e:DE)(ds:List D)(Q:List V→Hp→Prop),Zn K N Z H→iG K Z e σ→f e=some ds →
 (∀vs H' Z',aD H H'→aD Z Z'→Zn K N Z' H'→bC K Z' ds vs→Q vs H')→t σ H Q
def Yh(K:aA)(t:TA)(f:FA):Prop:=∀(σ:St)(H:Hp)(e:DE)(ds:List D)(Q:List V→Hp→Prop),iG K H e σ→f e=some ds →
 (∀vs H',aD H H'→tZ K H H' ds vs→Q vs H')→t σ H Q
A8 uA.r{K:aA}{t:TE}{f:FE}(h:uA K t f):wL K t f:=fun σ H Z e d Q z r q k=>
 h σ H e d Q (r.same z.sm) q fun v H' s n=>k v H' (wJ Z H H') s (mR z) (wK z s) (n.zone z s)
def dI(f:FE):FE:=fun e=>(f e).bind fun d=>if d.cX=true then some d else none
A8 uU{f:FE}{e:DE}{d:D}:dI f e=some d↔f e=some d∧d.cX=true:=by
 A7 dI
 cases q:f e with
 | none=>simp
 | some a=>
  simp only[C7]
  split
  ·rename_i h;constructor
   ·intro z;cases z;~⟨rfl,h⟩
   ·rintro⟨z,_⟩;~z
  ·rename_i h;constructor
   ·intro z;cases z
   ·rintro⟨z,z2⟩;cases z;~absurd z2 h
A8 wL.n{K:aA}{t:TE}{f:FE}(h:wL K t f):uA K t (dI f):=fun σ H e d Q r q k=>by
 A6⟨q1,q2⟩:=uU.mp q
 ~h σ H H e d Q (Zn.self K H) r q1 fun v H' Z' s1 s2 z' rv=>k v H' s1 (.cX q2 (z'.sm.rv _ _ rv))
def aG(i:Nat):FE:=fun e=>(e[i]?).getD none
A8 Vy{K:aA}(i:Nat):wL K (tV i) (aG i):=fun σ H Z e d Q z r q k=>by
 have e1:e[i]?=some (some d):=by
  A7 aG at q
  cases h:e[i]? with
  | none=>rw[h]at q;cases q
  | some o=>rw[h]at q;cases q;rfl
 A6⟨v,h1,h2⟩:=r i d e1
 ~⟨v,h1,k v H Z (aD.refl _) (aD.refl _) z h2⟩
def fC(d:D):FE:=fun _=>some d
A8 Vz{K:aA}(i:Int):uA K (tC (.int i)) (fC (.int i)):=fun σ H e d Q r q k=>by cases q;~k _ H (aD.refl _) (.cX rfl (by A7 Rv;rfl))
A8 Zm{K:aA}(i:Bool):uA K (tC (.bl i)) (fC (.bl i)):=fun σ H e d Q r q k=>by cases q;~k _ H (aD.refl _) (.cX rfl (by A7 Rv;rfl))
A8 Jt{K:aA}(i:Str):uA K (tC (.str i)) (fC (.str i)):=fun σ H e d Q r q k=>by cases q;~k _ H (aD.refl _) (.cX rfl (by A7 Rv;rfl))
def f2(φ:D→D→Option D)(f g:FE):FE:=fun e=>(f e).bind fun a=>(g e).bind fun b=>φ a b
A8 lU{φ:D→D→Option D}{f g:FE}{e:DE}{d:D}(h:f2 φ f g e=some d):∃a b,f e=some a∧g e=some b∧φ a b=some d:=by
 A7 f2 at h
 A6⟨a,h1,h2⟩:=aR h
 A6⟨b,h3,h4⟩:=aR h2
 ~⟨a,b,h1,h3,h4⟩
def RD(K:aA)(r:R2)(φ:D→D→Option D):Prop:=∀{N:Fp}(x y:V)(H Z:Hp)(a b d:D)(Q:VK),Zn K N Z H→Rv K Z a x→Rv K Z b y→φ a b=some d →
 (∀v H' Z',aD H H'→aD Z Z'→Zn K N Z' H'→Rv K Z' d v→Q v H')→r x y H Q
def Ju(K:aA)(r:R2)(φ:D→D→Option D):Prop:=∀(x y:V)(H:Hp)(a b d:D)(Q:VK),Rv K H a x→Rv K H b y→φ a b=some d →
 (∀v H',aD H H'→Ag K H H' d v→Q v H')→r x y H Q
A8 Zo{K:aA}{r:R2}{φ:D→D→Option D}{ta tb:TE}{f g:FE}(o:RD K r φ)(ha:wL K ta f)(hb:wL K tb g):wL K (xY r ta tb) (f2 φ f g):=fun σ H Z e d Q z re q k=>by
 A6⟨a,b,h1,h2,h3⟩:=lU q
 &ha σ H Z e a _ z re h1 fun x H1 Z1 s1 t1 z1 rx=>hb σ H1 Z1 e b _ z1 (re.same t1) h2 fun y H2 Z2 s2 t2 z2 ry=>?_
 ~o x y H2 Z2 a b d Q z2 (t2.rv _ _ rx) ry h3 fun v H3 Z3 s3 t3 z3 rv=>k v H3 Z3 (s1.trans (s2.trans s3)) (t1.trans (t2.trans t3)) z3 rv
A8 Jv{K:aA}{r:R2}{φ:D→D→Option D}{ta tb:TE}{f g:FE}(o:Ju K r φ)(ha:wL K ta f)(hb:wL K tb g):uA K (xY r ta tb) (f2 φ f g):=fun σ H e d Q re q k=>by
 A6⟨a,b,h1,h2,h3⟩:=lU q
 &ha σ H H e a _ (Zn.self K H) re h1 fun x H1 Z1 s1 t1 z1 rx=>hb σ H1 Z1 e b _ z1 (re.same t1) h2 fun y H2 Z2 s2 t2 z2 ry=>?_
 ~o x y H2 a b d Q (z2.sm.rv _ _ (t2.rv _ _ rx)) (z2.sm.rv _ _ ry) h3 fun v H3 s3 n=>k v H3 (s1.trans (s2.trans s3)) (n.back (s1.trans s2))
def tQ(C:Int→Int→Prop) [∀i j,Decidable (C i j)] (g:Int→Int→D):D→D→Option D
 | .int i,.int j=>if C i j then some (g i j)else none
 | _,_=>none
A8 qP{C:Int→Int→Prop} [∀i j,Decidable (C i j)] {g:Int→Int→D} {a b d:D} (h:tQ C g a b=some d):∃i j,a=.int i∧b=.int j∧C i j∧d=g i j:=by
 A7 tQ at h
 split at h
 ·split at h
  ·rename_i i j c;cases h;~⟨i,j,rfl,rfl,c,rfl⟩
  ·cases h
 ·cases h
A8 qQ{K:aA}{C:Int→Int→Prop} [∀i j,Decidable (C i j)] {C':Int→Int→Prop} (hC:∀i j,C i j→C' i j) {g:Int→Int→Int}:Ju K (rI C' fun i j=>.int (g i j)) (tQ C fun i j=>.int (g i j)):=fun x y H a b d Q ra rb q k=>by
 A6⟨i,j,rfl,rfl,c,rfl⟩:=qP q
 A7 Rv at ra rb
 ~⟨i,j,ra,rb,hC i j c,k _ H (aD.refl _) (.cX rfl (by A7 Rv;rfl))⟩
A8 Pz{K:aA}{g:Int→Int→Int}:Ju K (Nj fun i j=>.int (g i j)) (tQ (fun _ _=>True) fun i j=>.int (g i j)):=fun x y H a b d Q ra rb q k=>by
 A6⟨i,j,rfl,rfl,c,rfl⟩:=qP q
 A7 Rv at ra rb
 ~⟨i,j,ra,rb,k _ H (aD.refl _) (.cX rfl (by A7 Rv;rfl))⟩
A8 Jw{K:aA}{g:Int→Int→Bool}:Ju K (Nj fun i j=>.bl (g i j)) (tQ (fun _ _=>True) fun i j=>.bl (g i j)):=fun x y H a b d Q ra rb q k=>by
 A6⟨i,j,rfl,rfl,c,rfl⟩:=qP q
 A7 Rv at ra rb
 ~⟨i,j,ra,rb,k _ H (aD.refl _) (.cX rfl (by A7 Rv;rfl))⟩
def aN:FA:=fun _=>some []
def aC(f:FE)(fs:FA):FA:=fun e=>(f e).bind fun a=>(fs e).bind fun r=>some (a::r)
A8 nY{f:FE}{fs:FA}{e:DE}{ds:List D}(h:aC f fs e=some ds):∃a r,f e=some a∧fs e=some r∧ds=a::r:=by
 A7 aC at h
 A6⟨a,h1,h2⟩:=aR h
 A6⟨b,h3,h4⟩:=aR h2
 cases h4
 ~⟨a,b,h1,h3,rfl⟩
A8 Jx{K:aA}:Yg K oR aN:=fun σ H Z e ds Q z re q k=>by cases q;~k [] H Z (aD.refl _) (aD.refl _) z (by A7 bC;rfl)
A8 Ds{K:aA}{te:TE}{t:TA}{f:FE}{fs:FA}(h:wL K te f)(hs:Yg K t fs):Yg K (eX te t) (aC f fs):=fun σ H Z e ds Q z re q k=>by
 A6⟨a,r,h1,h2,rfl⟩:=nY q
 &h σ H Z e a _ z re h1 fun x H1 Z1 s1 t1 z1 rx=>hs σ H1 Z1 e r _ z1 (re.same t1) h2 fun vs H2 Z2 s2 t2 z2 rs=>?_
 ~k _ H2 Z2 (s1.trans s2) (t1.trans t2) z2 (by A7 bC;~⟨x,vs,rfl,t2.rv _ _ rx,rs⟩)
A8 Wa{K:aA}:Yh K oR aN:=fun σ H e ds Q re q k=>by cases q;~k [] H (aD.refl _) (.bM rfl (by A7 bC;rfl))
A8 Qa{K:aA}{te:TE}{t:TA}{f:FE}{fs:FA}(h:uA K te f)(hs:Yh K t fs):Yh K (eX te t) (aC f fs):=fun σ H e ds Q re q k=>by
 A6⟨a,r,h1,h2,rfl⟩:=nY q
 &h σ H e a _ re h1 fun x H1 s1 n1=>hs σ H1 e r _ (re.same s1) h2 fun vs H2 s2 n2=>?_
 &k _ H2 (s1.trans s2) ?_
 A6⟨A,oA,fA⟩:=n1
 A6⟨B,oB,fB⟩:=n2
 &⟨cI A B,?_,fun p q=>q.elim (fA p) fun z=>s1.free (fB p z)⟩
 A7 bH
 &⟨x,vs,A,B,rfl,fun p qa qb=>?_,fun _=>Iff.rfl,oA.same s2,oB⟩
 A6⟨⟨o,e1⟩,_⟩:=Ow.cells _ _ _ oA p qa
 rw[fB p qb]at e1;cases e1
def cap(n:Nat)(d:D):Option D:=if n≤100000 then some d else none
A8 qR{n:Nat}{d d':D}(h:cap n d=some d'):n≤100000∧d'=d:=by
 A7 cap at h
 split at h
 ·rename_i c;cases h;~⟨c,rfl⟩
 ·cases h
A8 Dt{n:Nat}(h:n≤100000):n≤sizeLine:=by rw[sizeLine_eq];omega
A8 Du{n:Nat}(h:n≤100000):n<sizeLine:=by rw[sizeLine_eq];omega
def kI(fs:FA):FE:=fun e=>(fs e).bind fun ds=>cap ds.length (.lst ds)
def mU(fs:FA):FE:=fun e=>(fs e).bind fun ds=>cap ds.length (.tup ds)
A8 jG{K:aA}{H H1:Hp}{ds:List D}{xs:List V}{p:Addr}(s:aD H H1)(n:tZ K H H1 ds xs)(hp:H1 p=none):Ag K H (upd H1 p (.lst xs)) (.lst ds) (.ref p):=by
 A6⟨A,o,f⟩:=n
 &⟨cI (·=p) A,?_,fun a q=>q.elim (fun z=>by cases z;~s.free hp) (f a)⟩
 A7 Ow
 &⟨p,xs,A,rfl,aQ,fun z=>?_,fun _=>Iff.rfl,o.same (bD hp _)⟩
 A6⟨⟨u,e⟩,_⟩:=bH.cells _ _ _ o p z
 rw[hp]at e;cases e
A8 Qc{K:aA}{H H1:Hp}{ds:List D}{xs:List V}{p:Addr}(n:tZ K H H1 ds xs)(hp:H1 p=none):Ag K H (upd H1 p (.tup xs)) (.tup ds) (.ref p):=by
 A6⟨A,o,f⟩:=n
 &⟨A,?_,f⟩
 A7 Ow
 ~⟨p,xs,rfl,jP.of aQ,o.same (bD hp _)⟩
A8 Wb{K:aA}{t:TA}{fs:FA}(h:Yh K t fs):uA K (Ja t) (kI fs):=fun σ H e d Q re q k=>by
 A7 kI at q
 A6⟨ds,h1,h2⟩:=aR q
 A6⟨hc,rfl⟩:=qR h2
 &h σ H e ds _ re h1 fun xs H1 s1 n=>⟨Dt (by rw[n.rv.length];~hc),fun p hp=>?_⟩
 ~k _ _ (s1.trans (bD hp _)) (jG s1 n hp)
A8 Wc{K:aA}{t:TA}{fs:FA}(h:Yh K t fs):uA K (Vd t) (mU fs):=fun σ H e d Q re q k=>by
 A7 mU at q
 A6⟨ds,h1,h2⟩:=aR q
 A6⟨hc,rfl⟩:=qR h2
 &h σ H e ds _ re h1 fun xs H1 s1 n=>⟨Dt (by rw[n.rv.length];~hc),fun p hp=>?_⟩
 ~k _ _ (s1.trans (bD hp _)) (Qc n hp)
A8 Jy{K:aA}{N:Fp}{Z H:Hp}{p:Addr}{o:HO}(z:Zn K N Z H)(hp:H p=none):aD Z (upd Z p o)∧Zn K N (upd Z p o) (upd H p o):=by
 have hz:Z p=none:=z.sm.free hp
 &⟨bD hz o,⟨fun b u e=>?_,fun a xs h=>?_,fun a q=>?_⟩⟩
 ·by_cases c:b=p
  ·subst c;rw[aQ]at e;rw[aQ];~e
  ·rw[aJ c]at e;rw[aJ c];~z.sm b u e
 ·by_cases c:a=p
  ·subst c
   rcases h with (h | ⟨u,h⟩) | h
   ·rw[aQ]at h;~.inl (.inl (by rw[aQ];~h))
   ·rw[aQ]at h;~.inl (.inr ⟨u,by rw[aQ];~h⟩)
   ·~.inr h
  ·have q:jP K H a xs:=by
    rcases h with (h | ⟨u,h⟩) | h
    ·rw[aJ c]at h;~.inl (.inl h)
    ·rw[aJ c]at h;~.inl (.inr ⟨u,h⟩)
    ·~.inr h
   ~(bD hz o).tup (z.tk a xs q)
 ·have c:a≠p:=fun z'=>(z.no a q).2 (by rw[z'];~hp)
  rw[aJ c,aJ c];~z.no a q
A8 Wd{K:aA}{t:TA}{fs:FA}(h:Yg K t fs):wL K (Ja t) (kI fs):=fun σ H Z e d Q z re q k=>by
 A7 kI at q
 A6⟨ds,h1,h2⟩:=aR q
 A6⟨hc,rfl⟩:=qR h2
 &h σ H Z e ds _ z re h1 fun xs H1 Z1 s1 t1 z1 rs=>⟨Dt (by rw[rs.length];~hc),fun p hp=>?_⟩
 A6⟨a1,a2⟩:=Jy (o:=.lst xs) z1 hp
 ~k _ _ _ (s1.trans (bD hp _)) (t1.trans a1) a2 (by A7 Rv;~⟨p,xs,rfl,gW.of aQ,a1.Ig _ _ rs⟩)
end L2


namespace L2
open PySem PySem.Spec PyProof.Rows
structure XR(K:aA)(X:Cx)(e:Expr)(t:TE)(f:FE):Prop where
 hk:X.K=K
 pe:PE X e t
 ev:wL K t f
structure XN(K:aA)(X:Cx)(e:Expr)(t:TE)(f:FE):Prop where
 hk:X.K=K
 pe:PE X e t
 ev:uA K t f
structure XT(K:aA)(X:Cx)(e:Expr)(t:TT)(f:FT):Prop where
 hk:X.K=K
 pt:PT X e t
 ev:Ah K t f
structure XW(K:aA)(X:Cx)(e:Expr)(t:TT)(f:FT):Prop where
 hk:X.K=K
 pw:PW X e t
 ev:Ah K t f
structure XA(K:aA)(X:Cx)(es:List Expr)(t:TA)(f:FA):Prop where
 hk:X.K=K
 pa:PA X es t
 ev:Yg K t f
structure XB(K:aA)(X:Cx)(es:List Expr)(t:TA)(f:FA):Prop where
 hk:X.K=K
 pa:PA X es t
 ev:Yh K t f
section
variable{K:aA}{X:Cx}{e a b c:Expr}{es:List Expr}{t ta tb:TE}{f g:FE}{tA:TA}{fs:FA}{pos:Pos}
A8 XN.r(h:XN K X e t f):XR K X e t f:=⟨h.hk,h.pe,h.ev.r⟩
A8 XR.n(h:XR K X e t f):XN K X e t (dI f):=⟨h.hk,h.pe,wL.n h.ev⟩
A8 aK{i:Nat}(h:PE X e (tV i))(hk:X.K=K:=by rfl):XR K X e (tV i) (aG i):=⟨hk,h,Vy i⟩
A8 aL{i:Int}{j:Nat}(hk:X.K=K:=by rfl):XN K X (.Constant (.int i) j pos) (tC (.int i)) (fC (.int i)):=⟨hk,Ua,Vz i⟩
A8 yJ{i:Bool}{j:Nat}(hk:X.K=K:=by rfl):XN K X (.Constant (.bool i) j pos) (tC (.bl i)) (fC (.bl i)):=⟨hk,Yn,Zm i⟩
A8 Aw{x:Str}{j:Nat}(hk:X.K=K:=by rfl):XN K X (.Constant (.str x) j pos) (tC (.str x)) (fC (.str x)):=⟨hk,Ub,Jt x⟩
A8 qT{op:Operator}{r:R2}{φ:D→D→Option D}(ho:jQ X (binaryOp op) r)(hd:Ju K r φ)(ha:XR K X a ta f)(hb:XR K X b tb g):XN K X (.BinOp a op b pos) (xY r ta tb) (f2 φ f g):=⟨ha.hk,Yu ho ha.pe hb.pe,Jv hd ha.ev hb.ev⟩
def Jz:D→D→Option D:=tQ (fun _ _=>True) fun i j=>.int (i-j)
instance (i j:Int):Decidable (vR i j):=by A7 vR;~inferInstance
instance (i j:Int):Decidable (Ga i j):=by A7 Ga;~inferInstance
instance (i j:Int):Decidable (Gb i j):=by A7 Gb;~inferInstance
def Gs:D→D→Option D:=tQ vR fun i j=>.int (i*j)
def Gu:D→D→Option D:=tQ Ga fun i j=>.int (i/j)
def mV:D→D→Option D:=tQ (fun _ j=>0<j) fun i j=>.int (i%j)
def oY:D→D→Option D:=tQ Gb fun i j=>.int (i ^ j.toNat)
A8 Ka(ha:XR K X a ta f)(hb:XR K X b tb g):XN K X (.BinOp a .Sub b pos) (xY (Nj fun i j=>.int (i-j)) ta tb) (f2 Jz f g):=qT Ux Pz ha hb
A8 Ax(ha:XR K X a ta f)(hb:XR K X b tb g):XN K X (.BinOp a .Mult b pos) (xY (rI vR fun i j=>.int (i*j)) ta tb) (f2 Gs f g):=qT Uy (qQ fun _ _ h=>h) ha hb
A8 Ay(ha:XR K X a ta f)(hb:XR K X b tb g):XN K X (.BinOp a .FloorDiv b pos) (xY (rI Ga fun i j=>.int (i/j)) ta tb) (f2 Gu f g):=qT Od (qQ fun _ _ h=>h) ha hb
A8 eU(ha:XR K X a ta f)(hb:XR K X b tb g):XN K X (.BinOp a .Mod b pos) (xY (rI (fun _ j=>0<j) fun i j=>.int (i%j)) ta tb) (f2 mV f g):=qT Uz (qQ fun _ _ h=>h) ha hb
A8 qU(ha:XR K X a ta f)(hb:XR K X b tb g):XN K X (.BinOp a .Pow b pos) (xY (rI Gb fun i j=>.int (i ^ j.toNat)) ta tb) (f2 oY f g):=qT Va (qQ fun _ _ h=>h) ha hb
A8 Az{op:CmpOp}{r:R2}{φ:D→D→Option D}(ho:jQ X (compareOp op) r)(hd:Ju K r φ)(ha:XR K X a ta f)(hb:XR K X b tb g)(hm:behindInMarks op b=false):XN K X (.Compare a [op] [b] pos) (xY r ta tb) (f2 φ f g):=⟨ha.hk,Oe ho ha.pe hb.pe hm,Jv hd ha.ev hb.ev⟩
def fB(f:FE):FT:=fun e=>(f e).bind fun d=>match d with | .bl b=>some b | _=>none
A8 pJ{f:FE}{e:DE}{b:Bool}(h:fB f e=some b):f e=some (.bl b):=by
 A7 fB at h
 A6⟨d,h1,h2⟩:=aR h
 split at h2
 ·cases h2;~h1
 ·cases h2
A8 Qd(h:wL K t f):Ah K (Iz t) (fB f):=fun σ H e b Q re q k=>h σ H H e _ _ (Zn.self K H) re (pJ q) fun v H' Z' s1 s2 z rv=>by
 A7 Rv at rv
 ~⟨b,rv,k H' s1⟩
A8 Sq(h:wL K t f):Ah K (tB t) (fB f):=fun σ H e b Q re q k=>h σ H H e _ _ (Zn.self K H) re (pJ q) fun v H' Z' s1 s2 z rv=>by
 A7 Rv at rv
 ~⟨b,rv,k H' s1⟩
A8 kJ{op:CmpOp}{r:R2}{φ:D→D→Option D}(ho:jQ X (compareOp op) r)(hd:Ju K r φ)(ha:XR K X a ta f)(hb:XR K X b tb g)(hm:behindInMarks op b=false):XT K X (.Compare a [op] [b] pos) (Iz (xY r ta tb)) (fB (f2 φ f g)):=⟨ha.hk,Og ho ha.pe hb.pe hm,Qd (Jv hd ha.ev hb.ev).r⟩
A8 iH(h:XR K X e t f)(he:∀whole,isTrue e X.env whole=(do let v ←whole;standAt e.pos;holding [v] (truthy v)):=by intro _;rfl):XT K X e (tB t) (fB f):=⟨h.hk,Ud h.pe he,Sq h.ev⟩
def Zq:D→D→Option D:=tQ (fun _ _=>True) fun i j=>.bl (decide (i<j))
def VR:D→D→Option D:=tQ (fun _ _=>True) fun i j=>.bl (decide (i≤j))
def WD:D→D→Option D:=tQ (fun _ _=>True) fun i j=>.bl (decide (j<i))
def WK:D→D→Option D:=tQ (fun _ _=>True) fun i j=>.bl (decide (j≤i))
def toV:D→Option V
  | .non=>some .non | .bl b=>some (.bl b) | .int i=>some (.int i) | .str x=>some (.str x)
  | _=>none
A8 wM{H:Hp}{d:D}{v x:V}(h:toV d=some v)(r:Rv K H d x):x=v:=by
 cases d<;>A7 toV at h<;>first | (cases h;A7 Rv at r;~r) | cases h
mutual
def bR:D→Option DV
 | .int i=>some (.int i)
 | .non=>some .non
 | .lst ds=>(cT ds).map DV.lst
 | .tup ds=>(cT ds).map DV.tup
 | _=>none
def cT:List D→Option (List DV)
 | []=>some []
 | d::ds=>(bR d).bind fun x=>(cT ds).bind fun xs=>some (x::xs)
end
mutual
A8 gB{H:Hp}:∀(d:D)(x:DV)(v:V),bR d=some x→Rv K H d v→Reads K H x v
 | .int i,x,v,h,r=>by A7 bR at h;cases h;A7 Rv at r;A7 Reads;~r
 | .lst ds,x,v,h,r=>by
  A7 bR at h
  A6⟨xs,h1,rfl⟩:=cR h
  A7 Rv at r;A7 Reads
  A6⟨a,vs,r1,r2,r3⟩:=r
  ~⟨a,vs,r1,r2,qW ds xs vs h1 r3⟩
 | .tup ds,x,v,h,r=>by
  A7 bR at h
  A6⟨xs,h1,rfl⟩:=cR h
  A7 Rv at r;A7 Reads
  A6⟨a,vs,r1,r2,r3⟩:=r
  ~⟨a,vs,r1,r2,qW ds xs vs h1 r3⟩
 | .non,x,v,h,r=>by A7 bR at h;cases h;A7 Rv at r;A7 Reads;~r
 | .bl _,x,v,h,r=>by A7 bR at h;cases h
 | .str _,x,v,h,r=>by A7 bR at h;cases h
 | .dk _ _,x,v,h,r=>by A7 bR at h;cases h
 | .dt _ _,x,v,h,r=>by A7 bR at h;cases h
 | .ins _ _ _,x,v,h,r=>by A7 bR at h;cases h
A8 qW{H:Hp}:∀(ds:List D)(xs:List DV)(vs:List V),cT ds=some xs→bC K H ds vs→aZ K H xs vs
 | [],xs,vs,h,r=>by A7 cT at h;cases h;A7 bC at r;A7 aZ;~r
 | d::ds,xs,vs,h,r=>by
  A7 cT at h
  A6⟨x,h1,h2⟩:=aR h
  A6⟨xt,h3,h4⟩:=aR h2
  cases h4
  A7 bC at r;A7 aZ
  A6⟨y,ys,r1,r2,r3⟩:=r
  ~⟨y,ys,r1,gB d x y h1 r2,qW ds xt ys h3 r3⟩
end
mutual
A8 Kc:∀(d e:D)(x:DV),bR d=some x→bR e=some x→d=e
 | .int i,e,x,h,h'=>by
  A7 bR at h;cases h
  cases e<;>A7 bR at h'<;>first | (cases h';rfl) | cases h' | (A6⟨xs,q1,q2⟩:=cR h';cases q2)
 | .lst ds,e,x,h,h'=>by
  A7 bR at h
  A6⟨xs,h1,rfl⟩:=cR h
  cases e with
  | lst es=>A7 bR at h';A6⟨ys,q1,q2⟩:=cR h';cases q2;rw[mW ds es xs h1 q1]
  | tup es=>A7 bR at h';A6⟨ys,q1,q2⟩:=cR h';cases q2
  | _=>A7 bR at h';cases h'
 | .tup ds,e,x,h,h'=>by
  A7 bR at h
  A6⟨xs,h1,rfl⟩:=cR h
  cases e with
  | tup es=>A7 bR at h';A6⟨ys,q1,q2⟩:=cR h';cases q2;rw[mW ds es xs h1 q1]
  | lst es=>A7 bR at h';A6⟨ys,q1,q2⟩:=cR h';cases q2
  | _=>A7 bR at h';cases h'
 | .non,e,x,h,h'=>by
  A7 bR at h;cases h
  cases e<;>A7 bR at h'<;>first | (cases h';rfl) | cases h' | (A6⟨xs,q1,q2⟩:=cR h';cases q2)
 | .bl _,e,x,h,h'=>by A7 bR at h;cases h
 | .str _,e,x,h,h'=>by A7 bR at h;cases h
 | .dk _ _,e,x,h,h'=>by A7 bR at h;cases h
 | .dt _ _,e,x,h,h'=>by A7 bR at h;cases h
 | .ins _ _ _,e,x,h,h'=>by A7 bR at h;cases h
A8 mW:∀(ds es:List D)(xs:List DV),cT ds=some xs→cT es=some xs→ds=es
 | [],[],xs,h,h'=>rfl
 | [],e::es,xs,h,h'=>by
  A7 cT at h h'
  cases h
  A6⟨x,h1,h2⟩:=aR h'
  A6⟨xt,h3,h4⟩:=aR h2
  cases h4
 | d::ds,[],xs,h,h'=>by
  A7 cT at h h'
  cases h'
  A6⟨x,h1,h2⟩:=aR h
  A6⟨xt,h3,h4⟩:=aR h2
  cases h4
 | d::ds,e::es,xs,h,h'=>by
  A7 cT at h h'
  A6⟨x,h1,h2⟩:=aR h
  A6⟨xt,h3,h4⟩:=aR h2
  cases h4
  A6⟨y,k1,k2⟩:=aR h'
  A6⟨yt,k3,k4⟩:=aR k2
  cases k4
  rw[Kc d e x h1 k1,mW ds es xt h3 k3]
end
noncomputable def Gv(a b:D):Option D:=match toV a,toV b with
 | some x,some y=>if Gd x y=true then some (.bl (decide (x=y)))else none
 | _,_=>match bR a,bR b with
  | some x,some y=>if x.depth≤32 then some (.bl (iB x y))else none
  | _,_=>none
A8 Dv:Ju K (fun x y H Q=>HY x y H Q∨Vr K false x y H Q) Gv:=fun x y H a b d Q ra rb q k=>by
 A7 Gv at q
 split at q
 ·rename_i u v h1 h2
  split at q
  ·rename_i hs
   cases q
   rw[wM h1 ra,wM h2 rb]
   ~.inl ⟨hs,k _ H (aD.refl _) (.cX rfl (by A7 Rv;rfl))⟩
  ·cases q
 ·split at q
  ·rename_i u v h1 h2
   split at q
   ·rename_i hs
    cases q
    ~.inr ⟨u,v,gB a u x h1 ra,gB b v y h2 rb,hs,k _ H (aD.refl _) (.cX rfl (by A7 Rv;rfl))⟩
   ·cases q
  ·cases q
noncomputable def Yi(a b:D):Option D:=match toV a,toV b with
 | some x,some y=>if Gd x y=true then some (.bl (!decide (x=y)))else none
 | _,_=>match bR a,bR b with
  | some (.lst x),some (.lst y)=>if bF x≤32 then some (.bl (!iB (.lst x) (.lst y)))else none
  | some (.tup x),some (.tup y)=>if bF x≤32 then some (.bl (!iB (.tup x) (.tup y)))else none
  | _,_=>none
def Zr(K:aA):R2:=fun x y H Q=>MK x y H Q∨(∃ds es,Reads K H (.lst ds) x∧Reads K H (.lst es) y∧bF ds≤32∧Q (.bl (!iB (.lst ds) (.lst es))) H)∨(∃ds es,Reads K H (.tup ds) x∧Reads K H (.tup es) y∧bF ds≤32∧Q (.bl (!iB (.tup ds) (.tup es))) H)
A8 Ss:Ju K (Zr K) Yi:=fun x y H a b d Q ra rb q k=>by
 A7 Yi at q
 split at q
 ·rename_i u v h1 h2
  split at q
  ·rename_i hs
   cases q
   rw[wM h1 ra,wM h2 rb]
   ~.inl ⟨hs,k _ H (aD.refl _) (.cX rfl (by A7 Rv;rfl))⟩
  ·cases q
 ·split at q
  ·rename_i u v h1 h2
   split at q
   ·rename_i hs
    cases q
    ~.inr (.inl ⟨u,v,gB a _ x h1 ra,gB b _ y h2 rb,hs,k _ H (aD.refl _) (.cX rfl (by A7 Rv;rfl))⟩)
   ·cases q
  ·rename_i u v h1 h2
   split at q
   ·rename_i hs
    cases q
    ~.inr (.inr ⟨u,v,gB a _ x h1 ra,gB b _ y h2 rb,hs,k _ H (aD.refl _) (.cX rfl (by A7 Rv;rfl))⟩)
   ·cases q
  ·cases q
A8 or_eq(hu:X.A.units+64<cLine)(hk:X.K=K):jQ X (compareOp .Eq) (fun x y H Q=>HY x y H Q∨Vr K false x y H Q):=by subst hk;~Yx.or (Vs hu)
A8 Su(hu:X.A.units+64<cLine)(hk:X.K=K):jQ X (compareOp .NotEq) (Zr K):=by subst hk;~Yy.or ((Vt hu).or (Vw hu))
def lV:D→Option (List D)
 | .lst ds=>some ds
 | .tup ds=>some ds
 | _=>none
A8 Dw{H:Hp}{d:D}{ds:List D}{v:V}(h:lV d=some ds)(r:Rv K H d v):∃p xs,v=.ref p∧(gW K H p xs∨jP K H p xs)∧bC K H ds xs:=by
 cases d with
 | lst es=>A7 lV at h;cases h;A7 Rv at r;A6⟨p,xs,r1,r2,r3⟩:=r;~⟨p,xs,r1,.inl r2,r3⟩
 | tup es=>A7 lV at h;cases h;A7 Rv at r;A6⟨p,xs,r1,r2,r3⟩:=r;~⟨p,xs,r1,.inr r2,r3⟩
 | _=>A7 lV at h;cases h
end
section
variable{κ:Type} [DecidableEq κ] {K:aA} {H:Hp}
def posK:List κ→κ→Option Nat
 | [],_=>none
 | a::ks,k=>if a=k then some 0 else(posK ks k).map (·+1)
A8 fH:∀{ks:List κ} {xs:List V} {k:κ},ks.length=xs.length→gP (ks.zip xs) k=(posK ks k).bind fun j=>xs[j]?
 | [],xs,k,h=>by A7 posK;rfl
 | a::ks,[],k,h=>by simp at h
 | a::ks,x::xs,k,h=>by
  have ih:=fH (ks:=ks) (xs:=xs) (k:=k) (by simpa using h)
  A7 posK
  rw[F2]
  A7 gP at ih ⊢
  rw[J0]
  by_cases c:a=k
  ·rw[if_pos c,decide_eq_true c];rfl
  ·rw[if_neg c,decide_eq_false c]
   show Option.map _ (List.find? _ (ks.zip xs))=_
   rw[ih]
   cases posK ks k<;>rfl
A8 pK:∀{ks:List κ} {k:κ} {j:Nat},posK ks k=some j→j<ks.length∧ks[j]?=some k
 | [],k,j,h=>by A7 posK at h;cases h
 | a::ks,k,j,h=>by
  A7 posK at h
  split at h
  ·rename_i c;cases h;~⟨by simp,by simp[c]⟩
  ·A6⟨i,h1,rfl⟩:=cR h
   A6⟨a1,a2⟩:=pK h1
   ~⟨by simpa using a1,by simpa using a2⟩
A8 mX:∀{ks:List κ} {k:κ},posK ks k=none↔k∉ks
  | [],k=>by A7 posK;simp
  | a::ks,k=>by
    A7 posK
    have ih:=mX (ks:=ks) (k:=k)
    split
    · rename_i c;simp[c]
    · rename_i c
      rw[Option.map_eq_none_iff,ih,E3]
      constructor
      · rintro h (q | q)
        · ~c q.symm
        · ~h q
      · intro h q;~h (.inr q)
def qX(ks:List κ)(k:κ):List κ:=if(posK ks k).isSome then ks else ks++[k]
def putD{β:Type}(ks:List κ)(ds:List β)(k:κ)(d:β):List β:=if(posK ks k).isSome then M4 (fun k' d'=>if k'=k then d else d') ks ds else ds++[d]
A8 yK{β:Type}{ks:List κ}{ds:List β}{k:κ}{d:β}(h:ks.length=ds.length):(qX ks k).length=(putD ks ds k d).length:=by
 A7 qX putD
 split
 ·rw[List.length_zipWith,h,O2]
 ·rw[D7,D7,h];rfl
A8 Kd{ks:List κ}{xs:List V}{k:κ}{v:V}(h:ks.length=xs.length):putK (ks.zip xs) k v=(qX ks k).zip (putD ks xs k v):=by
 have ha:((ks.zip xs).any fun kv=>decide (kv.1=k))=(posK ks k).isSome:=by
  rw[qF,fH h]
  cases q:posK ks k with
  | none=>rfl
  | some j=>
   A6⟨h1,h2⟩:=pK q
   rw[C7,A9 A0]
   rfl
 A7 putK qX putD
 rw[ha]
 by_cases c:(posK ks k).isSome=true
 ·rw[if_pos c,if_pos c,if_pos c]
  clear ha c
  induction ks generalizing xs with
  | nil=>rfl
  | cons a ks ih=>
   cases xs with
   | nil=>simp at h
   | cons x xs=>
    rw[F2,B3,G3,F2,ih (by simpa using h)]
    split<;>rfl
 ·rw[if_neg c,if_neg c,if_neg c,List.zip_append h]
  rfl
end
def Gw:D→Option Key
 | .int i=>some (.inl i)
 | .str x=>some (.inr x)
 | _=>none
A8 pL{K:aA}{H:Hp}{d:D}{k:Key}{v:V}(h:Gw d=some k)(r:Rv K H d v):v=kV k:=by
 cases d<;>A7 Gw at h<;>first | (cases h;A7 Rv at r;~r) | cases h
def kD:Key→D
 | .inl i=>.int i
 | .inr x=>.str x
section
variable{K:aA}{X:Cx}{e a b c:Expr}{es:List Expr}{t ta tb:TE}{f g:FE}{pos:Pos}
def lW(neg:Bool)(k d:D):Option D:=match d with
 | .dk ks ds=>(Gw k).bind fun k=>some (.bl (if neg then !(posK ks k).isSome else(posK ks k).isSome))
 | _=>none
def Gx(d k:D):Option D:=match d with
 | .dk ks ds=>(Gw k).bind fun k=>(posK ks k).bind fun j=>ds[j]?
 | _=>none
A8 Ba{ks:List Key}{xs:List V}{k:Key}(h:ks.length=xs.length):(gP (ks.zip xs) k).isSome=(posK ks k).isSome:=by
 rw[fH h]
 cases q:posK ks k with
 | none=>rfl
 | some j=>
  A6⟨h1,h2⟩:=pK q
  rw[C7,A9 A0]
  rfl
A8 yL{H:Hp}{x y:V}{ka d r:D}{neg:Bool}(h:lW neg ka d=some r)(rk:Rv K H ka y)(rd:Rv K H d x):∃p o,x=.ref p∧yF H p y o∧r=.bl (if neg then !o.isSome else o.isSome):=by
 A7 lW at h
 split at h
 ·rename_i ks ds
  A6⟨k,h1,h2⟩:=aR h
  cases h2
  A7 Rv at rd
  A6⟨p,xs,r1,r2,r3,r4⟩:=rd
  &⟨p,gP (ks.zip xs) k,r1,.inl ⟨_,k,r2,pL h1 rk,rfl⟩,?_⟩
  rw[Ba r3]
 ·cases h
A8 We(hu:X.A.units+1<cLine)(ha:XR K X a ta f)(hb:XR K X b tb g)(h1:behindInMarks .In b=false:=by first | ~nobehind _ A4 A4 | rfl):XN K X (.Compare a [.In] [b] pos) (Vn ta tb) (f2 (lW false) f g):=
 ⟨ha.hk,Io (Je hu ha.pe hb.pe) h1,fun σ H e d Q re q k=>by
  A6⟨da,db,q1,q2,q3⟩:=lU q
  &ha.ev σ H H e da _ (Zn.self K H) re q1 fun x H1 Z1 s1 t1 z1 rx=>hb.ev σ H1 Z1 e db _ z1 (re.same t1) q2 fun y H2 Z2 s2 t2 z2 ry=>?_
  A6⟨p,o,e1,e2,e3⟩:=yL q3 (z2.sm.rv _ _ (t2.rv _ _ rx)) (z2.sm.rv _ _ ry)
  subst e3
  ~⟨p,o,e1,e2,k _ H2 (s1.trans s2) (.cX rfl (by A7 Rv;rfl))⟩⟩
A8 Gy(hu:X.A.units+1<cLine)(ha:XR K X a ta f)(hb:XR K X b tb g)(h1:behindInMarks .NotIn b=false:=by first | ~nobehind _ A4 A4 | rfl):XN K X (.Compare a [.NotIn] [b] pos) (wB ta tb) (f2 (lW true) f g):=
 ⟨ha.hk,Io (uP hu ha.pe hb.pe) h1,fun σ H e d Q re q k=>by
  A6⟨da,db,q1,q2,q3⟩:=lU q
  &ha.ev σ H H e da _ (Zn.self K H) re q1 fun x H1 Z1 s1 t1 z1 rx=>hb.ev σ H1 Z1 e db _ z1 (re.same t1) q2 fun y H2 Z2 s2 t2 z2 ry=>?_
  A6⟨p,o,e1,e2,e3⟩:=yL q3 (z2.sm.rv _ _ (t2.rv _ _ rx)) (z2.sm.rv _ _ ry)
  subst e3
  ~⟨p,o,e1,e2,k _ H2 (s1.trans s2) (.cX rfl (by A7 Rv;rfl))⟩⟩
A8 Sv{op:CmpOp}(h:XN K X (.Compare a [op] [b] pos) t f)(pc:PC X op a b t)(h1:behindInMarks op b=false):XT K X (.Compare a [op] [b] pos) (tB t) (fB f):=⟨h.hk,Uc pc h1,Sq h.ev.r⟩
A8 Ke(hu:X.A.units+1<cLine)(ha:XR K X a ta f)(hb:XR K X b tb g)(h1:behindInMarks .In b=false:=by first | ~nobehind _ A4 A4 | rfl):XT K X (.Compare a [.In] [b] pos) (tB (Vn ta tb)) (fB (f2 (lW false) f g)):=Sv (We hu ha hb h1) (Je hu ha.pe hb.pe) h1
A8 mY(hu:X.A.units+1<cLine)(ha:XR K X a ta f)(hb:XR K X b tb g)(h1:behindInMarks .NotIn b=false:=by first | ~nobehind _ A4 A4 | rfl):XT K X (.Compare a [.NotIn] [b] pos) (tB (wB ta tb)) (fB (f2 (lW true) f g)):=Sv (Gy hu ha hb h1) (uP hu ha.pe hb.pe) h1
A8 Qe(hu:X.A.units+1<cLine)(ha:XR K X a ta f)(hb:XR K X b tb g)(hs:Vm b):XR K X (.Subscript a b pos) (Sd ta tb) (f2 Gx f g):=
 ⟨ha.hk,Pb hu ha.pe hb.pe hs,fun σ H Z e d Q z re q k=>by
  A6⟨da,db,q1,q2,q3⟩:=lU q
  &ha.ev σ H Z e da _ z re q1 fun x H1 Z1 s1 t1 z1 rx=>hb.ev σ H1 Z1 e db _ z1 (re.same t1) q2 fun y H2 Z2 s2 t2 z2 ry=>?_
  have NQ:=t2.rv _ _ rx
  A7 Gx at q3
  split at q3
  ·rename_i ks ds
   A6⟨kk,h1,h2⟩:=aR q3
   A6⟨j,h3,h4⟩:=aR h2
   A7 Rv at NQ
   A6⟨p,xs,r1,r2,r3,r4⟩:=NQ
   A6⟨v,e1,e2⟩:=r4.get h4
   &⟨p,v,r1,.inl ⟨_,kk,z2.sm.rd r2,pL h1 ry,?_⟩,k v H2 Z2 (s1.trans s2) (t1.trans t2) z2 e2⟩
   rw[fH r3,h3]
   ~e1.symm
  ·cases q3⟩
def nZ(a i:D):Option D:=match i with
 | .int i=>(lV a).bind fun ds=>Jc ds i
 | _=>none
A8 Sw{H:Hp}{ds:List D}{xs:List V}{i:Int}{d:D}(r:bC K H ds xs)(h:Jc ds i=some d):∃v,Jc xs i=some v∧Rv K H d v:=by
 A7 Jc at h ⊢
 A6⟨j,h1,h2⟩:=aR h
 rw[r.length,h1]
 ~r.get h2
A8 Zt(hk:X.K=K):Nk X (JB K):=by subst hk;~Vj
A8 dZ(ha:XR K X a ta f)(hb:XR K X b tb g)(hs:Dj b):XR K X (.Subscript a b pos) (xY (JB K) ta tb) (f2 nZ f g):=
 ⟨ha.hk,Zc (Zt ha.hk) ha.pe hb.pe hs,Zo (fun x y H Z da db d Q z ra rb q k=>by
  A7 nZ at q
  split at q
  ·rename_i i
   A6⟨ds,h1,h2⟩:=aR q
   A7 Rv at rb
   cases da with
   | lst es=>
    A7 lV at h1;cases h1
    A7 Rv at ra
    A6⟨p,xs,r1,r2,r3⟩:=ra
    A6⟨v,e1,e2⟩:=Sw r3 h2
    ~.inl ⟨p,xs,i,v,r1,rb,z.sm.seq r2,e1,k v H Z (aD.refl _) (aD.refl _) z e2⟩
   | tup es=>
    A7 lV at h1;cases h1
    A7 Rv at ra
    A6⟨p,xs,r1,r2,r3⟩:=ra
    A6⟨v,e1,e2⟩:=Sw r3 h2
    ~.inr (.inl ⟨p,xs,i,v,r1,rb,z.sm.tup r2,e1,k v H Z (aD.refl _) (aD.refl _) z e2⟩)
   | _=>A7 lV at h1;cases h1
  ·cases q) ha.ev hb.ev⟩
end
end L2


namespace L2
open PySem PySem.Spec PyProof.Rows
section
variable{K:aA}{X:Cx}{e a b c:Expr}{es rest:List Expr}{t ta tb:TE}{f g:FE}{tA:TA}{fs:FA}{pos:Pos}{tc:TT}{fc fd:FT}{td:TT}
A8 aU(hk:X.K=K:=by rfl):XA K X [] oR aN:=⟨hk,mJ,Jx⟩
A8 aF(h:XR K X e t f)(hs:XA K X es tA fs)(hst:starEach (e::es) X.env=(false,eval e X.env)::starEach es X.env:=by rfl):XA K X (e::es) (eX t tA) (aC f fs):=⟨h.hk,gA h.pe hs.pa hst,Ds h.ev hs.ev⟩
A8 kO(hk:X.K=K:=by rfl):XB K X [] oR aN:=⟨hk,mJ,Wa⟩
A8 cC(h:XN K X e t f)(hs:XB K X es tA fs)(hst:starEach (e::es) X.env=(false,eval e X.env)::starEach es X.env:=by rfl):XB K X (e::es) (eX t tA) (aC f fs):=⟨h.hk,gA h.pe hs.pa hst,Qa h.ev hs.ev⟩
A8 Kf(h:XB K X es tA fs):XN K X (.List es pos) (Ja tA) (kI fs):=⟨h.hk,Jb h.pa,Wb h.ev⟩
A8 qY(h:XA K X es tA fs):XR K X (.List es pos) (Ja tA) (kI fs):=⟨h.hk,Jb h.pa,Wd h.ev⟩
A8 qZ{x1:Nat}(h:XB K X es tA fs):XN K X (.Tuple es x1 pos) (Vd tA) (mU fs):=⟨h.hk,Ve h.pa,Wc h.ev⟩
A8 Qf:uA K Al (fC (.dk [] [])):=fun σ H e d Q re q k=>by
 cases q
 intro p hp
 &k _ _ (bD hp _) ⟨(·=p),?_,fun a q=>by cases q;~hp⟩
 A7 Ow
 ~⟨p,[],nil,rfl,aQ,rfl,fun z=>z,fun x=>⟨.inl,fun z=>z.elim id False.elim⟩,by A7 bH;~⟨fun _ z=>z,rfl⟩⟩
A8 wN(hk:X.K=K:=by rfl):XN K X (.Dict [] [] pos) Al (fC (.dk [] [])):=⟨hk,Jg,Qf⟩
def oZ(f g:FT):FT:=fun e=>(f e).bind fun c=>if c=true then g e else some false
def Nq(f g:FT):FT:=fun e=>(f e).bind fun c=>if c=true then some true else g e
def mZ(f:FT):FT:=fun e=>(f e).map fun c=>!c
A8 Wf(h1:Ah K tc fc)(h2:Ah K td fd):Ah K (Ue tc td) (oZ fc fd):=fun σ H e b Q re q k=>by
 A7 oZ at q
 A6⟨c,q1,q2⟩:=aR q
 &h1 σ H e c _ re q1 fun H1 s1=>?_
 cases c with
 | true=>rw[if_pos rfl]at q2 ⊢;~h2 σ H1 e b Q (re.same s1) q2 fun H2 s2=>k H2 (s1.trans s2)
 | false=>rw[if_neg A4]at q2 ⊢;cases q2;~k H1 s1
A8 Zu(h1:Ah K tc fc)(h2:Ah K td fd):Ah K (HQ tc td) (Nq fc fd):=fun σ H e b Q re q k=>by
 A7 Nq at q
 A6⟨c,q1,q2⟩:=aR q
 &h1 σ H e c _ re q1 fun H1 s1=>?_
 cases c with
 | false=>rw[if_neg A4]at q2 ⊢;~h2 σ H1 e b Q (re.same s1) q2 fun H2 s2=>k H2 (s1.trans s2)
 | true=>rw[if_pos rfl]at q2 ⊢;cases q2;~k H1 s1
A8 Wg(h1:Ah K tc fc):Ah K (Ug tc) (mZ fc):=fun σ H e b Q re q k=>by
 A7 mZ at q
 A6⟨c,q1,rfl⟩:=cR q
 ~h1 σ H e c _ re q1 k
A8 XW.xt(h:XW K X e tc fc):XT K X e tc fc:=⟨h.hk,h.pw.pt,h.ev⟩
A8 wO(h:XT K X a tc fc):XW K X (.BoolOp .And [a] pos) tc fc:=⟨h.hk,Nz h.pt,h.ev⟩
A8 Bb(h:XT K X a tc fc):XW K X (.BoolOp .Or [a] pos) tc fc:=⟨h.hk,Uh h.pt,h.ev⟩
A8 Bc(h:XT K X a tc fc)(h2:XW K X (.BoolOp .And (b::rest) pos) td fd):XW K X (.BoolOp .And (a::b::rest) pos) (Ue tc td) (oZ fc fd):=⟨h.hk,Ui h.pt h2.pw,Wf h.ev h2.ev⟩
A8 yM(h:XT K X a tc fc)(h2:XW K X (.BoolOp .Or (b::rest) pos) td fd):XW K X (.BoolOp .Or (a::b::rest) pos) (HQ tc td) (Nq fc fd):=⟨h.hk,Yo h.pt h2.pw,Zu h.ev h2.ev⟩
A8 nA(h:XT K X a tc fc):XT K X (.UnaryOp .Not a pos) (Ug tc) (mZ fc):=⟨h.hk,Uj h.pt,Wg h.ev⟩
def rA(f g:FE):FE:=fun e=>(fB f e).bind fun c=>if c=true then g e else some (.bl false)
def yN(f:FE):FE:=fun e=>(fB f e).map fun c=>.bl (!c)
A8 Dy{op:BoolOp}(h:XN K X a t f):XN K X (.BoolOp op [a] pos) t f:=⟨h.hk,Uk h.pe,h.ev⟩
A8 Bd(h:XR K X a ta f)(h2:XN K X (.BoolOp .And (b::rest) pos) tb g):XN K X (.BoolOp .And (a::b::rest) pos) (Ro ta tb) (rA f g):=⟨h.hk,Ul h.pe h2.pe,fun σ H e d Q re q k=>by
 A7 rA at q
 A6⟨c,q1,q2⟩:=aR q
 &h.ev σ H H e _ _ (Zn.self K H) re (pJ q1) fun v H1 Z1 s1 t1 z1 rv=>?_
 A7 Rv at rv
 &⟨c,rv,?_⟩
 cases c with
 | true=>rw[if_pos rfl]at q2 ⊢;~h2.ev σ H1 e d Q (re.same s1) q2 fun v H2 s2 n=>k v H2 (s1.trans s2) (n.back s1)
 | false=>rw[if_neg A4]at q2 ⊢;cases q2;~k _ H1 s1 (.cX rfl (by A7 Rv;rfl))⟩
A8 Wh(h:XR K X a ta f):XN K X (.UnaryOp .Not a pos) (Rp ta) (yN f):=⟨h.hk,Um h.pe,fun σ H e d Q re q k=>by
 A7 yN at q
 A6⟨c,q1,rfl⟩:=cR q
 &h.ev σ H H e _ _ (Zn.self K H) re (pJ q1) fun v H1 Z1 s1 t1 z1 rv=>?_
 A7 Rv at rv
 ~⟨c,rv,k _ H1 s1 (.cX rfl (by A7 Rv;rfl))⟩⟩
def fL(φ:List D→Option D)(fs:FA):FE:=fun e=>(fs e).bind φ
def rB(K:aA)(r:List V→Hp→VK→Prop)(φ:List D→Option D):Prop:=∀(vs:List V)(H:Hp)(ds:List D)(d:D)(Q:VK),bC K H ds vs→φ ds=some d →
 (∀v H',aD H H'→Ag K H H' d v→Q v H')→r vs H Q
A8 Kg{r:List V→Hp→VK→Prop}{φ:List D→Option D}(o:rB K r φ)(h:Yg K tA fs):uA K (Ol r tA) (fL φ fs):=fun σ H e d Q re q k=>by
 A6⟨ds,q1,q2⟩:=aR q
 ~h σ H H e ds _ (Zn.self K H) re q1 fun vs H1 Z1 s1 t1 z1 rs=>o vs H1 ds d Q (z1.sm.Ig _ _ rs) q2 fun v H2 s2 n=>k v H2 (s1.trans s2) (n.back s1)
A8 uV{r:List V→Hp→VK→Prop}{φ:List D→Option D}{x:Str}{id:String}{p:Pos}(o:rB K r φ)(hc:dY X (.builtin id) r)(hg:Gl X x)(hm:X.mg x=none)(hv:bootBuiltins x=some (.builtin id))(ha:XA K X (e::es) tA fs)(hn:x ≠ "__name__" := by decide) (hdb:(x==("__debug__" : Str))=false:=by decide)
  (he:starEach (e::es) X.env=(false,eval e X.env)::starEach es X.env:=by rfl) (hpl:(backTo pos (starEach es X.env)).any (·.1)=false:=by rfl):XN K X (.Call (.Name x p) (e::es) [] pos) (Ol r tA) (fL φ fs):=⟨ha.hk,pY hc hg hm hv ha.pa hn hdb he hpl,Kg o ha.ev⟩
A8 Kh{r:List V→Hp→VK→Prop}{φ:List D→Option D}{x:Str}{id:String}{p:Pos}(o:rB K r φ)(hc:dY X (.type id) r)(hg:Gl X x)(hm:X.mg x=none)(hv:bootBuiltins x=some (.type id))(ha:XA K X (e::es) tA fs)(hn:x ≠ "__name__" := by decide) (hdb:(x==("__debug__" : Str))=false:=by decide)
  (he:starEach (e::es) X.env=(false,eval e X.env)::starEach es X.env:=by rfl) (hpl:(backTo pos (starEach es X.env)).any (·.1)=false:=by rfl):XN K X (.Call (.Name x p) (e::es) [] pos) (Ol r tA) (fL φ fs):=⟨ha.hk,Gh hc hg hm hv ha.pa hn hdb he hpl,Kg o ha.ev⟩
A8 wQ{H:Hp}{d:D}{vs:List V}(h:bC K H [d] vs):∃v,vs=[v]∧Rv K H d v:=by
 A7 bC at h
 A6⟨y,ys,rfl,h1,h2⟩:=h
 A7 bC at h2
 subst h2
 ~⟨y,rfl,h1⟩
def uB:List D→Option D
 | [d]=>(lV d).map fun ds=>.int ds.length
 | _=>none
def Zv(K:aA):List V→Hp→VK→Prop:=fun xs H Q=>∃p ys,xs=[.ref p]∧(gW K H p ys∨jP K H p ys)∧Q (.int ys.length) H
A8 rC:rB K (Zv K) uB:=fun vs H ds d Q rs q k=>by
 A7 uB at q
 split at q
 ·rename_i d0
  A6⟨es,q1,rfl⟩:=cR q
  A6⟨v,rfl,r⟩:=wQ rs
  A6⟨p,xs,rfl,r2,r3⟩:=Dw q1 r
  &⟨p,xs,rfl,r2,k _ H (aD.refl _) (.cX rfl ?_)⟩
  rw[r3.length];A7 Rv;rfl
 ·cases q
A8 rD(hk:X.K=K):dY X (.builtin "len") (Zv K):=by subst hk;~vY
def dList:List D→Option D
 | [d]=>(lV d).bind fun ds=>if D.bM ds=true then some (.lst ds)else none
 | _=>none
def Sx(K:aA):List V→Hp→VK→Prop:=fun xs H Q=>∃p ys,xs=[.ref p]∧(gW K H p ys∨jP K H p ys)∧∀l,H l=none→Q (.ref l) (upd H l (.lst ys))
A8 Dz:rB K (Sx K) dList:=fun vs H ds d Q rs q k=>by
 A7 dList at q
 split at q
 ·rename_i d0
  A6⟨es,q1,q2⟩:=aR q
  split at q2
  ·rename_i hi
   cases q2
   A6⟨v,rfl,r⟩:=wQ rs
   A6⟨p,xs,rfl,r2,r3⟩:=Dw q1 r
   ~⟨p,xs,rfl,r2,fun l hl=>k _ _ (bD hl _) (jG (aD.refl _) (.bM hi r3) hl)⟩
  ·cases q2
 ·cases q
A8 Ea(hk:X.K=K):dY X (.type "list") (Sx K):=by subst hk;~vZ
def intsOf:List D→Option (List Int)
 | []=>some []
 | .int i::ds=>(intsOf ds).map (i::·)
 | _=>none
A8 iI:∀{ds:List D} {ns:List Int},intsOf ds=some ns→ds=ns.map D.int
 | [],ns,h=>by A7 intsOf at h;cases h;rfl
 | d::ds,ns,h=>by
  cases d with
  | int i=>
   A7 intsOf at h
   A6⟨ms,h1,rfl⟩:=cR h
   rw[B3,←iI h1]
  | _=>A7 intsOf at h;cases h
A8 fJ{H:Hp}:∀{ns:List Int} {xs:List V},bC K H (ns.map D.int) xs↔xs=ns.map V.int
 | [],xs=>by rw[D4,D4];A7 bC;rfl
 | n::ns,xs=>by
  rw[B3,B3]
  A7 bC
  constructor
  ·rintro⟨y,ys,rfl,h1,h2⟩
   A7 Rv at h1
   rw[h1,fJ.mp h2]
  ·rintro rfl
   ~⟨_,_,rfl,by A7 Rv;rfl,fJ.mpr rfl⟩
A8 rF:∀ns:List Int,D.bM (ns.map D.int)=true
 | []=>by rw[D4];A7 D.bM;rfl
 | n::ns=>by rw[B3];A7 D.bM D.cX;rw[rF ns];rfl
def NT:List D→Option D
 | [.int i,.int j]=>some (.int (if j > i then j else i))
 | _=>none
def NZ:List D→Option D
 | [.int i,.int j]=>some (.int (if j<i then j else i))
 | _=>none
end
end L2


namespace L2
open PySem PySem.Spec PyProof.Rows
section
variable{K:aA}{X:Cx}{e a b c:Expr}{es rest:List Expr}{t ta tb:TE}{f g:FE}{tA:TA}{fs:FA}{pos:Pos}{tc:TT}{fc fd:FT}{td:TT}
abbrev FO:=DE→Option (Option Int)
def RG(K:aA)(t:TO)(f:FO):Prop:=∀(σ:St)(H:Hp)(e:DE)(o:Option Int)(Q:Option Int→Hp→Prop),iG K H e σ→f e=some o→(∀H',aD H H'→Q o H')→t σ H Q
structure XO(K:aA)(X:Cx)(e:Option Expr)(t:TO)(f:FO):Prop where
 po:PO X e t
 ev:RG K t f
def Be:FO:=fun _=>some none
def iJ(f:FE):FO:=fun e=>(f e).bind fun d=>match d with | .int i=>some (some i) | _=>none
A8 Eb:XO K X none Di Be:=⟨Oo,fun σ H e o Q re q k=>by cases q;~k H (aD.refl _)⟩
A8 pM(h:XR K X e t f):XO K X (some e) (Rw t) (iJ f):=⟨Oq h.pe,fun σ H e o Q re q k=>by
 A7 iJ at q
 A6⟨d,q1,q2⟩:=aR q
 split at q2
 ·rename_i i
  cases q2
  &h.ev σ H H e _ _ (Zn.self K H) re q1 fun v H1 Z1 s1 t1 z1 rv=>?_
  A7 Rv at rv
  ~⟨i,rv,k H1 s1⟩
 ·cases q2⟩
def gQ{α:Type}(xs:List α)(lo hi:Option Int):List α:=(xs.drop (HT.oU xs.length 0 lo)).take (HT.oU xs.length xs.length hi-HT.oU xs.length 0 lo)
A8 bC.drop{H:Hp}:∀{ds:List D} {xs:List V} (n:Nat),bC K H ds xs→bC K H (ds.drop n) (xs.drop n)
 | ds,xs,0,h=>h
 | [],xs,n+1,h=>by A7 bC at h;subst h;simp;A7 bC;rfl
 | d::ds,xs,n+1,h=>by A7 bC at h;A6⟨y,ys,rfl,_,h2⟩:=h;simpa using bC.drop n h2
A8 bC.take{H:Hp}:∀{ds:List D} {xs:List V} (n:Nat),bC K H ds xs→bC K H (ds.take n) (xs.take n)
 | ds,xs,0,h=>by simp;A7 bC;rfl
 | [],xs,n+1,h=>by A7 bC at h;subst h;simp;A7 bC;rfl
 | d::ds,xs,n+1,h=>by A7 bC at h;A6⟨y,ys,rfl,h1,h2⟩:=h;rw[Q8,Q8];A7 bC;~⟨y,_,rfl,h1,bC.take n h2⟩
A8 Ec{H:Hp}{ds:List D}{xs:List V}(lo hi:Option Int)(h:bC K H ds xs):bC K H (gQ ds lo hi) (Aj xs lo hi):=by
 A7 gQ Aj
 rw[h.length]
 ~(h.drop _).take _
def Nr(cX:Bool)(f:FE)(l h:FO):FE:=fun e=>(f e).bind fun d=>(l e).bind fun lo=>(h e).bind fun hi=>match d with
 | .lst ds=>if cX=false∨D.bM (gQ ds lo hi)=true then some (.lst (gQ ds lo hi))else none
 | _=>none
A8 yO{cX:Bool}{f:FE}{l h:FO}{e:DE}{d:D}(q:Nr cX f l h e=some d):∃ds lo hi,f e=some (.lst ds)∧l e=some lo∧h e=some hi∧(cX=false∨D.bM (gQ ds lo hi)=true)∧d=.lst (gQ ds lo hi):=by
 A7 Nr at q
 A6⟨d0,q1,q⟩:=aR q
 A6⟨lo,q2,q⟩:=aR q
 A6⟨hi,q3,q⟩:=aR q
 split at q
 ·split at q
  ·rename_i c;cases q;~⟨_,lo,hi,q1,q2,q3,c,rfl⟩
  ·cases q
 ·cases q
A8 Ed(hk:X.K=K):IV X (Ov K):=by subst hk;~Ox
variable{lo hi:Option Expr}{tl th:TO}{fl fh:FO}{p2:Pos}
A8 yP(h:XR K X e t f)(hl:XO K X lo tl fl)(hu:XO K X hi th fh):XR K X (.Subscript e (.Slice lo hi none p2) pos) (IW (Ov K) t tl th) (Nr false f fl fh):=⟨h.hk,yD (Ed h.hk) h.pe hl.po hu.po,fun σ H Z e d Q z re q k=>by
 A6⟨ds,lo,hi,q1,q2,q3,_,rfl⟩:=yO q
 &h.ev σ H Z e _ _ z re q1 fun v H1 Z1 s1 t1 z1 rv=>hl.ev σ H1 e lo _ (re.same (z.sm.trans s1)) q2 fun H2 s2=>hu.ev σ H2 e hi _ (re.same (z.sm.trans (s1.trans s2))) q3 fun H3 s3=>?_
 have z3:=wK z1 (s2.trans s3)
 have t3:aD Z1 (wJ Z1 H1 H3):=mR z1
 A7 Rv at rv
 A6⟨p,xs,rfl,r2,r3⟩:=rv
 &⟨p,xs,rfl,z3.sm.seq (t3.seq r2),fun l hl=>?_⟩
 A6⟨a1,a2⟩:=Jy (o:=.lst (Aj xs lo hi)) z3 hl
 ~k _ _ _ (s1.trans (s2.trans (s3.trans (bD hl _)))) (t1.trans (t3.trans a1)) a2 (by A7 Rv;~⟨l,_,rfl,gW.of aQ,a1.Ig _ _ (t3.Ig _ _ (Ec lo hi r3))⟩)⟩
A8 Kl(h:XR K X e t f)(hl:XO K X lo tl fl)(hu:XO K X hi th fh):XN K X (.Subscript e (.Slice lo hi none p2) pos) (IW (Ov K) t tl th) (Nr true f fl fh):=⟨h.hk,yD (Ed h.hk) h.pe hl.po hu.po,fun σ H e d Q re q k=>by
 A6⟨ds,lo,hi,q1,q2,q3,qi,rfl⟩:=yO q
 &h.ev σ H H e _ _ (Zn.self K H) re q1 fun v H1 Z1 s1 t1 z1 rv=>hl.ev σ H1 e lo _ (re.same s1) q2 fun H2 s2=>hu.ev σ H2 e hi _ (re.same (s1.trans s2)) q3 fun H3 s3=>?_
 have OD:=(z1.sm.trans (s2.trans s3)).rv _ _ rv
 A7 Rv at OD
 A6⟨p,xs,rfl,r2,r3⟩:=OD
 &⟨p,xs,rfl,r2,fun l hl=>?_⟩
 have Wi:=s1.trans (s2.trans s3)
 ~k _ _ (Wi.trans (bD hl _)) (jG Wi (.bM (qi.resolve_left A4) (Ec lo hi r3)) hl)⟩
def Km(K:aA):R2:=fun x y H Q=>∃l b xs zs,x=.ref l∧y=.ref b∧gW K H l xs∧gW K H b zs∧xs.length+zs.length≤sizeLine∧∀p,H p=none→Q (.ref p) (upd H p (.lst (xs++zs)))
A8 Qg(hk:X.K=K):jQ X (binaryOp .Add) (Km K):=by
 subst hk
 intro pins s σ H x y v u Q I rx ry h
 A6⟨l,b,xs,zs,rfl,rfl,h1,h2,hz,q⟩:=h
 cases rx
 cases ry
 A6⟨its,r,pl,_⟩:=I.list h1
 A6⟨its2,r2,oW,_⟩:=I.list h2
 A6⟨⟨cl,dd,da,sl⟩,ho,hc,n,hd⟩:=pl.isList
 A6⟨⟨cl2,dd2,da2,sl2⟩,ho2,hc2,n2,hd2⟩:=oW.isList
 dsimp only at hc hd hc2 hd2
 subst hc hd hc2 hd2
 have hlen:its.toArray.size+its2.toArray.size≤sizeLine:=by rw[B0,B0,←r.length,←r2.length];~hz
 have ea:its.toArray++its2.toArray=(its++its2).toArray:=by simp
 &concat_meets ⟨_,ho,rfl⟩ ⟨_,ho2,rfl⟩ noFill_list_add seq_list_add PySem.F.slot_list_add PySem.F.entry_list_add (PySem.F.args_list_add_2 _ _)
  (list_addW l b its.toArray its2.toArray n n2 dd dd2 sl sl2 hlen) ⟨ho,ho2,?_⟩
 rw[ea]
 ~⟨.ref _,_,I.Zg (t':=s.toks) (r.append r2) (by rw[D7];~hz),rfl,q _ I.fresh⟩
def gO(a b:D):Option D:=match a,b with
 | .int i,.int j=>some (.int (i+j))
 | .lst x,.lst y=>if D.bM (x++y)=true∧x.length+y.length≤100000 then some (.lst (x++y))else none
 | _,_=>none
A8 bC.append{H:Hp}:∀{ds es:List D} {xs ys:List V},bC K H ds xs→bC K H es ys→bC K H (ds++es) (xs++ys)
 | [],es,xs,ys,h,h'=>by A7 bC at h;subst h;~h'
 | d::ds,es,xs,ys,h,h'=>by A7 bC at h;A6⟨y,yt,rfl,h1,h2⟩:=h;rw[K0,K0];A7 bC;~⟨y,_,rfl,h1,bC.append h2 h'⟩
A8 Qh:Ju K (fun x y H Q=>Nj (fun i j=>.int (i+j)) x y H Q∨Km K x y H Q) gO:=fun x y H a b d Q ra rb q k=>by
 A7 gO at q
 split at q
 ·cases q;A7 Rv at ra rb;~.inl ⟨_,_,ra,rb,k _ H (aD.refl _) (.cX rfl (by A7 Rv;rfl))⟩
 ·split at q
  ·rename_i c
   cases q
   A7 Rv at ra rb
   A6⟨p,xs,rfl,r2,r3⟩:=ra
   A6⟨p',xs',rfl,r2',r3'⟩:=rb
   &.inr ⟨p,p',xs,xs',rfl,rfl,r2,r2',Dt (by rw[r3.length,r3'.length];~c.2),fun l hl=>?_⟩
   ~k _ _ (bD hl _) (jG (aD.refl _) (.bM c.1 (r3.append r3')) hl)
  ·cases q
 ·cases q
A8 gC(ha:XR K X a ta f)(hb:XR K X b tb g):XN K X (.BinOp a .Add b pos) (xY (fun x y H Q=>Nj (fun i j=>.int (i+j)) x y H Q∨Km K x y H Q) ta tb) (f2 gO f g):=qT (Uw.or (Qg ha.hk)) Qh ha hb
def JH(K:aA)(wi:TI)(fi:FA):Prop:=∀{N:Fp}(σ:St)(H Z:Hp)(e:DE)(ds:List D)(R:It→Hp→Prop),Zn K N Z H→iG K Z e σ→fi e=some ds →
 (∀J H' Z' P vs,aD H H'→aD Z Z'→Zn K N Z' H'→Vq J P vs→(∀H2,aD Z' H2→P H2)→bC K Z' ds vs→R J H')→wi σ H R
structure XI(K:aA)(X:Cx)(tg iter:Expr)(wi:TI)(fi:FA):Prop where
 hk:X.K=K
 pi:PI X tg iter wi
 ev:JH K wi fi
def pA(f:FE):FA:=fun e=>(f e).bind lV
def JK(K:aA)(t:TE):TI:=fun σ H R=>Rr K t σ H R∨Yt K t σ H R
A8 kW{tg:Expr}(h:XR K X e t f):XI K X tg e (JK K t) (pA f):=⟨h.hk,by
 have hk:=h.hk
 subst hk
 ~fun pins s σ H R I q=>q.elim (Oc h.pe pins s σ H R I) (Us h.pe pins s σ H R I),fun σ H Z e ds R z re q k=>by
 A7 pA at q
 A6⟨d,q1,q2⟩:=aR q
 cases d with
 | lst es=>
  A7 lV at q2;cases q2
  &.inl (h.ev σ H Z e _ _ z re q1 fun v H1 Z1 s1 t1 z1 rv=>?_)
  A7 Rv at rv
  A6⟨p,xs,rfl,r2,r3⟩:=rv
  ~⟨p,rfl,⟨xs,z1.sm.seq r2⟩,k _ H1 Z1 _ xs s1 t1 z1 Jm (fun H2 s=>s.seq r2) r3⟩
 | tup es=>
  A7 lV at q2;cases q2
  &.inr (h.ev σ H Z e _ _ z re q1 fun v H1 Z1 s1 t1 z1 rv=>?_)
  A7 Rv at rv
  A6⟨p,xs,rfl,r2,r3⟩:=rv
  ~⟨p,rfl,⟨xs,z1.sm.tup r2⟩,k _ H1 Z1 _ xs s1 t1 z1 Pq (fun H2 s=>s.tup r2) r3⟩
 | _=>A7 lV at q2;cases q2⟩
def lim(i:Int):Bool:=decide (-100000≤i∧i≤100000)
def dC(e:DE)(fr:List Nat):DE:=fr.map fun i=>(e[i]?).getD none
A8 Ef{H:Hp}{e:DE}{σ:St}{fr:List Nat}{d:D}{x:V}(re:iG K H e σ)(r:Rv K H d x):iG K H (some d::dC e fr) (some x::wD σ fr):=fun i d' h=>by
 cases i with
 | zero=>simp at h;subst h;~⟨x,rfl,r⟩
 | succ i=>
  rw[List.getElem?_cons_succ]at h ⊢
  A7 dC at h
  A7 wD
  rw[C4]at h ⊢
  cases q:fr[i]? with
  | none=>rw[q]at h;cases h
  | some j=>
   rw[q]at h
   have h:(e[j]?).getD none=some d':=D9 h
   have h2:e[j]?=some (some d'):=by
    cases q2:e[j]? with
    | none=>rw[q2]at h;cases h
    | some o=>rw[q2]at h;rw[show o=some d' from h]
   A6⟨v,h3,h4⟩:=re j d' h2
   &⟨v,?_,h4⟩
   show some (σ.getD j none)=_
   rw[B7,h3]
   rfl
def eE(c:D→Option Bool)(el:D→Option D):List D→Option (List D)
 | []=>some []
 | x::xs=>(c x).bind fun b=>if b=true then(el x).bind fun y=>(eE c el xs).map (y::·)else eE c el xs
def fK(fi:FA)(fr:List Nat)(fc:FT)(fe:FE):FE:=fun e=>(fi e).bind fun xs=>if xs.length≤100000 then(eE (fun x=>fc (some x::dC e fr)) (fun x=>fe (some x::dC e fr)) xs).map D.lst else none
A8 kY{H:Hp}{p:Addr}{o:HO}(n:lN H p):mQ K H (upd H p o):=fun a xs h=>h.upd n
A8 Eg{wi:TI}{fi:FA}{fr:List Nat}{te:TE}{fe:FE}(hi:JH K wi fi)(hc:Ah K tc fc)(he:uA K te fe):uA K (lJ wi 1 fr (bZ 0) tc te) (fK fi fr fc fe):=by
 intro σ H e d Q re q k
 A7 fK at q
 A6⟨xs,q1,q⟩:=aR q
 split at q
 ·rename_i hlen
  A6⟨ds,q2,rfl⟩:=cR q
  &hi σ H H e xs _ (Zn.self K H) re q1 fun J H1 Z1 P vs s1 t1 z1 hJ hP rvs=>?_
  intro D0 hD
  have hl:=rvs.length
  have JL:H D0=none:=s1.free hD
  generalize hcc:(fun x=>fc (some x::dC e fr))=cc at q2
  generalize hel:(fun x=>fe (some x::dC e fr))=el at q2
  &⟨fun i m ys H2=>∃Gz Qi A,m=vs.length-i∧i≤vs.length∧ds=Gz++Qi∧eE cc el (xs.drop i)=some Qi∧aD H1 H2∧H2 D0=some (.lst ys)∧bH K H2 Gz A ys∧(∀a,A a→H1 a=none∧a≠D0)∧ys.length≤i,
   ⟨vs.length,[],ds,nil,by simp,F9 _,rfl,by simpa using q2,bD hD _,aQ,by A7 bH;~⟨fun _ z=>z,rfl⟩,fun _ z=>z.elim,B6 _⟩,?_⟩
  rintro i m ys H2 ⟨Gz,Qi,A,rfl,hi',hds,hcl,s2,hD2,ow,fr2,hyl⟩
  A6⟨j1,j2,j3⟩:=hJ i H2 (hP H2 (z1.sm.trans s2))
  &⟨hD2,?_⟩
  by_cases hlt:i<vs.length
  ·&.inr ⟨j1 hlt,fun x H' y=>?_⟩
   A6⟨e1,ex⟩:=j2 x H' y
   subst e1
   have hx:=ex hlt
   have hxi:i<xs.length:=by omega
   have hxs:xs.drop i=xs[i]::xs.drop (i+1):=K4 hxi
   A6⟨x',hx',rx⟩:=rvs.get (A9 hxi)
   rw[hx]at hx'
   cases hx'
   rw[hxs]at hcl
   A7 eE at hcl
   A6⟨bb,c1,c2⟩:=aR hcl
   show Kp 1 σ fr (some x::wD σ fr)∧_
   &⟨⟨by simp[blk],fun j v hv=>?_⟩,?_⟩
   ·cases j with
    | zero=>simp[blk]at hv
    | succ j=>simpa[blk]using hv
   have Zw:iG K H' (some xs[i]::dC e fr) (some x::wD σ fr):=Ef (re.same (s1.trans s2)) ((z1.sm.trans s2).rv _ _ rx)
   &hc _ H' _ bb _ Zw (by rw[←hcc]at c1;~c1) fun H3 s3=>?_
   have Wj:=s3 _ _ hD2
   cases bb with
   | false=>
    rw[if_neg A4]at c2 ⊢
    ~⟨vs.length-(i+1),by omega,Gz,Qi,A,rfl,by omega,hds,c2,s2.trans s3,Wj,ow.same s3,fr2,by omega⟩
   | true=>
    rw[if_pos rfl]at c2 ⊢
    A6⟨dy,c3,c4⟩:=aR c2
    A6⟨JM,c5,rfl⟩:=cR c4
    &he _ H3 _ dy _ (Zw.same s3) (by rw[←hel]at c3;~c3) fun yv H4 s4 n4=>?_
    have Zx:=s4 _ _ Wj
    &⟨Zx,Du A0,vs.length-(i+1),by omega,Gz++[dy],JM,?_⟩
    A6⟨B,oB,fB⟩:=n4
    have hB:∀a,B a→H1 a=none∧a≠D0:=fun a qa=>⟨(s2.trans s3).free (fB a qa),fun z=>by have q0:=fB a qa;rw[z,Wj]at q0;cases q0⟩
    &⟨cI A B,rfl,by omega,by rw[hds];simp,c5,fun b o eb=>?_,aQ,?_,fun a qa=>qa.elim (fr2 a) (hB a),by rw[D7];simp;~hyl⟩
    ·rw[aJ (bU eb hD)]
     ~(s2.trans (s3.trans s4)) b o eb
    ·have o4:=(ow.same s3).same s4
     have ap:Apart A B:=fun a qa qb=>by
      A6⟨⟨u,eu⟩,_⟩:=bH.cells _ _ _ (ow.same s3) a qa
      rw[fB a qb]at eu;cases eu
     have all:bH K H4 (Gz++[dy]) (cI A B) (ys++[yv]):=cA.mpr ((cA.mp o4).snoc oB ap)
     ~bH.frame (kY (fG Zx)) _ _ _ all fun a qa=>aJ (qa.elim (fun z=>(fr2 a z).2) fun z=>(hB a z).2)
  ·have ei:i=vs.length:=by omega
   subst ei
   have:xs.drop vs.length=[]:=P6 A0
   rw[this]at hcl
   A7 eE at hcl
   cases hcl
   rw[L8]at hds
   subst hds
   &.inl ⟨j3 (B6 _),k _ H2 (s1.trans s2) ⟨cI (·=D0) A,?_,fun a qa=>qa.elim (fun z=>by cases z;~JL) fun z=>s1.free (fr2 a z).1⟩⟩
   A7 Ow
   ~⟨D0,ys,A,rfl,hD2,fun z=>(fr2 D0 z).2 rfl,fun _=>Iff.rfl,ow⟩
 ·cases q
def Ko:FT:=fun _=>some true
structure JN(K:aA)(X:Cx)(ifs:List Expr)(t:TT)(f:FT):Prop where
 OJ:Vp X ifs t
 ev:Ah K t f
A8 Eh(h:XT K X c tc fc):JN K X [c] tc fc:=⟨Ph h.pt,h.ev⟩
A8 Qj{tg elt iter:Expr}{ifs:List Expr}{scope:Scope}{wi:TI}{fi:FA}{te:TE}{fe:FE}(N:List Str)(fr:List Nat)(hcalm:X.calm=true)(B:bW X.env.scope scope X.N N 1 fr)(hi:XI K X tg iter wi fi)
  (hg:∀cl fp s H C,PG (bO X scope N cl fp s H C) tg (bZ 0)) (hc:∀cl fp s H C,JN K (bO X scope N cl fp s H C) ifs tc fc) (he:∀cl fp s H C,XN K (bO X scope N cl fp s H C) elt te fe)
  (hs:∀x,foldedSetIterable iter X.env x=pure x:=by intro _;rfl):XN K X (.ListComp elt [⟨tg,iter,ifs,0⟩] scope pos) (lJ wi 1 fr (bZ 0) tc te) (fK fi fr fc fe):=
 ⟨hi.hk,Dm N 1 fr hcalm B hi.pi hg (fun cl fp s H C=>(hc cl fp s H C).OJ) (fun cl fp s H C=>(he cl fp s H C).pe) hs,
  Eg hi.ev (hc [] [] X.s₀ X.H₀ 0).ev (he [] [] X.s₀ X.H₀ 0).ev⟩
def oE(K:aA)(n:Nat)(F:List D→Option D):Sp:=fun vs H Q _=>∃ds d,ds.length=n∧bC K H ds vs∧F ds=some d∧∀v H',aD H H'→Ag K H H' d v→Q v H'
def bI(n:Nat)(F:List D→Option D)(fs:FA):FE:=fun e=>(fs e).bind fun ds=>if ds.length=n then F ds else none
A8 bL{x:Str}{k n:Nat}{F:List D→Option D}{p:Pos}(C:mO X.prog X.w X.K X.mg X.base x k n (oE K n F))(hr:dH k X.A)(hg:Gl X x)(ha:XA K X (e::es) tA fs)(hdb:(x==("__debug__" : Str))=false:=by decide)
  (he:starEach (e::es) X.env=(false,eval e X.env)::starEach es X.env:=by rfl) (hpl:(backTo pos (starEach es X.env)).any (·.1)=false:=by rfl):XN K X (.Call (.Name x p) (e::es) [] pos) (xZ (oE K n F) [] E0 tA) (bI n F fs):=
 ⟨ha.hk,Vv C hr hg ha.pa hdb he hpl,fun σ H e d Q re q k=>by
  A7 bI at q
  A6⟨ds,q1,q2⟩:=aR q
  split at q2
  ·rename_i hl
   &call_of (ha.ev σ H H e ds _ (Zn.self K H) re q1 fun vs H1 Z1 s1 t1 z1 rs=>?_)
   ~⟨ds,d,hl,z1.sm.Ig _ _ rs,q2,fun v H2 s2 n=>k v H2 (s1.trans s2) (n.back s1)⟩
  ·cases q2⟩
end
end L2


namespace L2
open PySem PySem.Spec PyProof.Rows
inductive SD where
  | no | fro (d:D) | own (d:D) | inn (v:V) (d:D)
def SD.z:SD→Option D
 | .fro d=>some d
 | .own d=>if d.cX=true then some d else none
 | .inn _ d=>if d.cX=true then some d else none
 | .no=>none
def SD.r:SD→Option D
 | .fro d=>some d
 | .own d=>some d
 | .inn _ d=>some d
 | .no=>none
abbrev EN:=List SD
def zE(env:EN):DE:=env.map SD.z
def rE(env:EN):DE:=env.map SD.r
def cY(K:aA)(H Z:Hp):SD→Fp→Option V→Prop
 | .no,A,_=>None A
 | .fro d,A,y=>None A∧∃v,y=some v∧Rv K Z d v
 | .own d,A,y=>∃v,y=some v∧Ow K H d A v
 | .inn v d,A,y=>y=some v∧Ow K H d A v
def Rel(K:aA)(B:Hp)(env:EN)(σ:St)(H:Hp):Prop:=∃A,cQ (cY K H (out H A)) env A σ∧aD B (out H A)
section
variable{K:aA}{B B' H H' Z Z':Hp}{env:EN}{σ:St}{A:Fp}
A8 cQ.all{α β:Type}{R:α→Fp→β→Prop}{Pr:Addr→Prop}:∀{ds:List α} {A:Fp} {ys:List β},cQ R ds A ys→(∀d B y,R d B y→∀a,B a→Pr a)→∀a,A a→Pr a
 | [],A,ys,h,_,a,q=>absurd q (h.1 a)
 | d::ds,A,ys,⟨y,yt,A1,A2,h1,h2,h3,h4,h5⟩,m,a,q=>((h3 a).mp q).elim (m _ _ _ h4 a) (cQ.all h5 m a)
A8 cY.cells{s:SD}{y:Option V}(h:cY K H Z s A y):∀a,A a→iC H a:=by
 cases s with
 | no=>~fun a q=>absurd q (h a)
 | fro d=>~fun a q=>absurd q (h.1 a)
 | own d=>A6⟨v,_,o⟩:=h;~Ow.cells d A v o
 | inn v d=>~Ow.cells d A v h.2
A8 cN(h:cQ (cY K H Z) env A σ):∀a,A a→iC H a:=cQ.all h fun _ _ _ q=>q.cells
A8 Rel.mono(h:Rel K B' env σ H)(s:aD B B'):Rel K B env σ H:=let ⟨A,a,b⟩:=h;⟨A,a,s.trans b⟩
A8 iK{A A':Fp}(s:aD H H')(h:∀a,A' a→A a∨H a=none):aD (out H A) (out H' A'):=fun b o e=>by
 A6⟨e1,e2⟩:=aV.mp e
 &aV.mpr ⟨fun q=>?_,s b o e2⟩
 rcases h b q with q | q
 ·~e1 q
 ·rw[q]at e2;cases e2
A8 cY.same{s:SD}{y:Option V}(h:cY K H Z s A y)(e:aD H H')(z:aD Z Z'):cY K H' Z' s A y:=by
 cases s with
 | no=>~h
 | fro d=>A6⟨h1,v,h2,h3⟩:=h;~⟨h1,v,h2,z.rv _ _ h3⟩
 | own d=>A6⟨v,h1,h2⟩:=h;~⟨v,h1,h2.same e⟩
 | inn v d=>~⟨h.1,h.2.same e⟩
A8 Rel.same(h:Rel K B env σ H)(s:aD H H'):Rel K B env σ H':=by
 A6⟨A,a,b⟩:=h
 have g:aD (out H A) (out H' A):=iK s fun a q=>.inl q
 ~⟨A,a.mono fun e C z _ q=>q.same s g,b.trans g⟩
A8 Kq(h:cQ (cY K H (out H A)) env A σ):Zn K A (out H A) H:=⟨iD H A,Js fun a q=>(cN h a q).2,fun a q=>⟨by
 A7 out;rw[if_pos q],fun z=>by A6⟨⟨o,e⟩,_⟩:=cN h a q;rw[z]at e;cases e⟩⟩
A8 Rel.r(h:Rel K B env σ H):iG K H (rE env) σ:=fun i d q=>by
 A6⟨A,a,b⟩:=h
 A7 rE at q
 rw[C4]at q
 cases e:env[i]? with
 | none=>rw[e]at q;cases q
 | some s=>
  rw[e]at q
  A6⟨y,A1,C,h1,h2,h3,h4,_⟩:=a.focus e
  cases s with
  | no=>cases q
  | fro d0=>cases q;A6⟨_,v,rfl,h5⟩:=h4;~⟨v,h1,(iD H A).rv _ _ h5⟩
  | own d0=>cases q;A6⟨v,rfl,h5⟩:=h4;~⟨v,h1,Ow.rv _ _ _ h5⟩
  | inn v d0=>cases q;A6⟨rfl,h5⟩:=h4;~⟨v,h1,Ow.rv _ _ _ h5⟩
A8 Zy(a:cQ (cY K H (out H A)) env A σ):iG K (out H A) (zE env) σ:=fun i d q=>by
 A7 zE at q
 rw[C4]at q
 cases e:env[i]? with
 | none=>rw[e]at q;cases q
 | some s=>
  rw[e]at q
  A6⟨y,A1,C,h1,h2,h3,h4,_⟩:=a.focus e
  cases s with
  | no=>cases q
  | fro d0=>cases q;A6⟨_,v,rfl,h5⟩:=h4;~⟨v,h1,h5⟩
  | own d0=>
   A6⟨v,rfl,h5⟩:=h4
   have q:(if d0.cX=true then some d0 else none)=some d:=D9 q
   split at q
   ·rename_i im
    cases q
    ~⟨v,h1,(qN _ v im (Ow.rv _ _ _ h5)).out (fun _ z=>z.elim) fun x hx=>(cN a x hx).2⟩
   ·cases q
  | inn v d0=>
   A6⟨rfl,h5⟩:=h4
   have q:(if d0.cX=true then some d0 else none)=some d:=D9 q
   split at q
   ·rename_i im
    cases q
    ~⟨v,h1,(qN _ v im (Ow.rv _ _ _ h5)).out (fun _ z=>z.elim) fun x hx=>(cN a x hx).2⟩
   ·cases q
A8 Rel.own{i:Nat}{d:D}{v:V}(h:Rel K B env σ H)(hi:i<env.length)(s:aD H H')(n:Ag K H H' d v):Rel K B (env.set i (.own d)) (σ.set i (some v)) H':=by
 A6⟨A,a,b⟩:=h
 A6⟨N,o,f⟩:=n
 have cl:=cN a
 A6⟨y,A1,C,h1,h2,h3,h4,k⟩:=a.focus (A9 hi)
 have g:aD (out H A) (out H' (cI N C)):=iK s fun x q=>q.elim (fun q=>.inr (f x q)) fun q=>.inl ((h3 x).mpr (.inr q))
 &⟨cI N C,k (cY K H' (out H' (cI N C))) (fun e D z _ q=>q.same s g) (.own d) (some v) N (fun x q c=>?_) ⟨v,rfl,o⟩,b.trans g⟩
 A6⟨⟨u,e⟩,_⟩:=cl x ((h3 x).mpr (.inr c))
 rw[f x q]at e;cases e
A8 Qk{i:Nat}{d:D}{v:V}(a:cQ (cY K H (out H A)) env A σ)(b:aD B (out H A))(hi:i<env.length)(s:aD H H')(t:aD (out H A) Z')(z:Zn K A Z' H')(r:Rv K Z' d v):Rel K B (env.set i (.fro d)) (σ.set i (some v)) H':=by
 A6⟨y,A1,C,h1,h2,h3,h4,k⟩:=a.focus (A9 hi)
 have hC:∀x,cI nil C x→A x:=fun x q=>q.elim False.elim fun q=>(h3 x).mpr (.inr q)
 have g:aD (out H A) (out H' (cI nil C)):=iK s fun x q=>.inl (hC x q)
 have g2:aD Z' (out H' (cI nil C)):=fun x o e=>aV.mpr ⟨fun q=>(by rw[(z.no x (hC x q)).1]at e;cases e),z.sm x o e⟩
 ~⟨cI nil C,k (cY K H' (out H' (cI nil C))) (fun e D z _ q=>q.same s g) (.fro d) (some v) nil (fun x q c=>q) ⟨fun _ z=>z,v,rfl,g2.rv _ _ r⟩,b.trans g⟩
def Kr(env:EN)(j:Nat):EN:=match env[j]? with
 | some (.own d)=>env.set j (.fro d)
 | _=>env
def eV(js:List Nat)(env:EN):EN:=js.foldl Kr env
A8 set_same{α:Type}{l:List α}{i:Nat}{x:α}(h:l[i]?=some x):l.set i x=l:=by
 apply N7
 intro j
 rw[List.getElem?_set]
 by_cases c:i=j
 ·subst c
  rw[if_pos rfl,h]
  split
  ·rfl
  ·rename_i q;rw[F7 A0]at h;cases h
 ·rw[if_neg c]
A8 Rel.Kr{j:Nat}(h:Rel K B env σ H):Rel K B (Kr env j) σ H:=by
 A7 L2.Kr
 cases e:env[j]? with
 | none=>~h
 | some s=>
  cases s with
  | no=>~h
  | fro d=>~h
  | inn v d=>~h
  | own d=>
   A6⟨A,a,b⟩:=h
   have cl:=cN a
   A6⟨y,A1,C,h1,h2,h3,h4,k⟩:=a.focus e
   A6⟨v,rfl,o⟩:=h4
   have g:aD (out H A) (out H (cI nil C)):=iK (aD.refl _) fun x q=>q.elim False.elim fun q=>.inl ((h3 x).mpr (.inr q))
   have:=k (cY K H (out H (cI nil C))) (fun e D z _ q=>q.same (aD.refl _) g) (.fro d) (some v) nil (fun x q c=>q)
    ⟨fun _ z=>z,v,rfl,o.out (fun x q c=>h2 x q (c.elim False.elim id)) fun x q=>(cl x ((h3 x).mpr (.inr (q.elim False.elim id)))).2⟩
   rw[set_same h1]at this
   ~⟨cI nil C,this,b.trans g⟩
A8 Rel.eV{js:List Nat}(h:Rel K B env σ H):Rel K B (eV js env) σ H:=by
 A7 L2.eV
 induction js generalizing env with
 | nil=>~h
 | cons j js ih=>~ih h.Kr
end
inductive SR where
  | next (env:EN) | ret (d:D) | brk (env:EN) | cont (env:EN) | bad | rete (d:D) (env:EN)
def Bf(K:aA)(B:Hp)(E:Ends):SR→Prop
 | .next env=>∀σ H,Rel K B env σ H→E.nx σ H
 | .ret d=>∀v H A,aD B (out H A)→Ow K H d A v→E.rt v H
 | .brk env=>∀σ H,Rel K B env σ H→E.bk σ H
 | .cont env=>∀σ H,Rel K B env σ H→E.ct σ H
 | .bad=>False
 | .rete d env=>∀v σ H,Rel K B (env++[.own d]) (σ++[some v]) H→E.rt v H
A8 Bf.mono{K:aA}{B B':Hp}{E:Ends}{r:SR}(h:Bf K B E r)(s:aD B B'):Bf K B' E r:=by
 cases r with
 | next env=>~fun σ H q=>h σ H (q.mono s)
 | ret d=>~fun v H A q=>h v H A (s.trans q)
 | brk env=>~fun σ H q=>h σ H (q.mono s)
 | cont env=>~fun σ H q=>h σ H (q.mono s)
 | bad=>~h
 | rete d env=>~fun v σ H q=>h v σ H (q.mono s)
abbrev GS:=EN→SR
def DS(K:aA)(t:TS)(g:GS):Prop:=∀(B:Hp)(E:Ends)(σ:St)(H:Hp)(env:EN),Rel K B env σ H→Bf K B E (g env)→t E σ H
def Zz(K:aA)(B:Hp)(E:Ends)(σ:St):SR→Prop
 | .next env=>∀H,Rel K B env σ H→E.nx σ H
 | r=>Bf K B E r
def BJ(K:aA)(t:TS)(g:GS):Prop:=∀(B:Hp)(E:Ends)(σ:St)(H:Hp)(env:EN),Rel K B env σ H→Zz K B E σ (g env)→t E σ H
A8 BJ.ds{K:aA}{t:TS}{g:GS}(h:BJ K t g):DS K t g:=fun B E σ H env r p=>h B E σ H env r (by
 cases q:g env with
 | next e=>rw[q]at p;~fun H' r'=>p σ H' r'
 | ret d=>rw[q]at p;~p
 | brk e=>rw[q]at p;~p
 | cont e=>rw[q]at p;~p
 | bad=>rw[q]at p;~p
 | rete d e=>rw[q]at p;~p)
structure YS(K:aA)(X:Cx)(st:Stmt)(t:TS)(g:GS):Prop where
 ps:PS X st t
 ev:DS K t g
structure YB(K:aA)(X:Cx)(st:List Stmt)(t:TS)(g:GS):Prop where
 ps:Af X st t
 ev:DS K t g
section
variable{K:aA}{X:Cx}{st:Stmt}{sts:List Stmt}{t u:TS}{g g1 g2:GS}{e a b c:Expr}{te ta tb:TE}{f fa fb:FE}{tc:TT}{fc:FT}{pos:Pos}
def aX(g1 g2:GS):GS:=fun env=>match g1 env with
 | .next env'=>g2 env'
 | r=>r
A8 Wk(h1:DS K t g1)(h2:DS K u g2):DS K (Up t u) (aX g1 g2):=fun B E σ H env r p=>by
 A7 aX at p
 &h1 B {E with nx:=u E} σ H env r ?_
 cases q:g1 env with
 | next env'=>rw[q]at p;~fun σ' H' r'=>h2 B E σ' H' env' r' p
 | ret d=>rw[q]at p;~p
 | brk d=>rw[q]at p;~p
 | cont d=>rw[q]at p;~p
 | bad=>rw[q]at p;~p
 | rete d e=>rw[q]at p;~p
def fM:GS:=fun env=>.next env
A8 gD:YB K X [] Rq fM:=⟨Oa,fun B E σ H env r p=>p σ H r⟩
A8 bB(h:YS K X st t g):YB K X [st] t g:=⟨Ob h.ps,h.ev⟩
A8 aO(h:YS K X st t g1)(h2:YB K X sts u g2):YB K X (st::sts) (Up t u) (aX g1 g2):=⟨Ip h.ps h2.ps,Wk h.ev h2.ev⟩
def dB(i:Nat)(f:FE):GS:=fun env=>match f (rE env)with
 | some d=>if i<env.length then .next (env.set i (.own d))else .bad
 | none=>.bad
A8 Bg{i:Nat}(h:uA K te f):DS K (xX te (bZ i)) (dB i f):=fun B E σ H env r p=>by
 A7 dB at p
 split at p
 ·rename_i d q
  split at p
  ·rename_i hi
   ~h σ H (rE env) d _ r.r q fun v H' s n=>p _ _ (r.own hi s n)
  ·~p.elim
 ·~p.elim
A8 cJ{i:Nat}{x:Str}{pos':Pos}(h:XN K X e te f)(hp:PE X e te→PS X (.Assign [.Name x pos'] e pos) (xX te (bZ i))):YS K X (.Assign [.Name x pos'] e pos) (xX te (bZ i)) (dB i f):=⟨hp h.pe,Bg h.ev⟩
def dX(f:FE):GS:=fun env=>match f (rE env)with
 | some d=>.ret d
 | none=>.bad
A8 cL(h:XN K X e te f):YS K X (.Return (some e) pos) (Yp te) (dX f):=⟨Uq h.pe,fun B E σ H env r p=>by
 A7 dX at p
 split at p
 ·rename_i d q
  &h.ev σ H (rE env) d _ r.r q fun v H' s ⟨N,o,fr⟩=>p v H' N (fun x u ex=>?_) o
  A6⟨A,a,b⟩:=r
  have h1:=(aV.mp (b x u ex)).2
  ~aV.mpr ⟨fun z=>(by rw[fr x z]at h1;cases h1),s x u h1⟩
 ·~p.elim⟩
def rG(f:FE):GS:=fun env=>match f (rE env)with
 | some _=>.next env
 | none=>.bad
A8 Ql(h:wL K te f):DS K (nU te) (rG f):=fun B E σ H env r p=>by
 A7 rG at p
 split at p
 ·rename_i d q
  ~h σ H H (rE env) d _ (Zn.self K H) r.r q fun v H' Z' s t z rv=>p _ _ (r.same s)
 ·~p.elim
def rH(f:FT)(g1 g2:GS):GS:=fun env=>match f (rE env)with
 | some true=>g1 env
 | some false=>g2 env
 | none=>.bad
A8 jW{s1 s2:List Stmt}(hc:XT K X c tc fc)(h1:YB K X s1 t g1)(h2:YB K X s2 u g2):YS K X (.If c s1 s2 pos) (Yq tc t u) (rH fc g1 g2):=⟨Yr hc.pt h1.ps h2.ps,fun B E σ H env r p=>by
 A7 rH at p
 split at p
 ·rename_i q
  &hc.ev σ H (rE env) true _ r.r q fun H' s=>?_
  rw[if_pos rfl]
  ~h1.ev B E σ H' env (r.same s) p
 ·rename_i q
  &hc.ev σ H (rE env) false _ r.r q fun H' s=>?_
  rw[if_neg A4]
  ~h2.ev B E σ H' env (r.same s) p
 ·~p.elim⟩
def wR(i:Nat)(g:GS):List D→EN→SR
 | [],env=>.next env
 | x::xs,env=>if i<env.length then match g (env.set i (.fro x))with
   | .next env'=>wR i g xs env'
   | .cont env'=>wR i g xs env'
   | .brk env'=>.next env'
   | r=>r
  else .bad
def pB(js:List Nat)(i:Nat)(fi:FA)(g:GS):GS:=fun env=>match fi (zE (eV js env))with
 | some xs=>wR i g xs (eV js env)
 | none=>.bad
A8 Wl{js:List Nat}{i:Nat}{wi:TI}{fi:FA}{tb:TS}(hi:JH K wi fi)(h:DS K tb g):DS K (Ut wi (bZ i) tb) (pB js i fi g):=fun B E σ H env r p=>by
 A7 pB at p
 have r':Rel K B (eV js env) σ H:=r.eV
 generalize eV js env=iM at r' p
 split at p
 ·rename_i xs q
  A6⟨A,a,b⟩:=r'
  &hi σ H (out H A) (zE iM) xs _ (Kq a) (Zy a) q fun J H1 Z1 P vs s t z hJ hP rvs=>?_
  have hl:=rvs.length
  have g0:aD Z1 (out H1 A):=fun x o e=>aV.mpr ⟨fun qa=>(by rw[(z.no x qa).1]at e;cases e),z.sm x o e⟩
  have JP:Rel K Z1 iM σ H1:=⟨A,a.mono fun e D y _ qq=>qq.same s (iK s fun x q=>.inl q),g0⟩
  have bz:aD B Z1:=b.trans t
  have p':=p.mono bz
  &Px hJ (fun k σ2 H2=>∃wU,Rel K Z1 wU σ2 H2∧Bf K Z1 E (wR i g (xs.drop k) wU)) ⟨iM,JP,by simpa using p'⟩ (fun k σ2 H2 _ ⟨wU,⟨A2,a2,b2⟩,_⟩=>hP H2 (b2.trans (iD H2 A2))) ?_ ?_
  ·rintro k x σ2 H2 hx ⟨wU,r2,p2⟩
   have hk:k<xs.length:=by
    have:=B9.mp hx
    A6⟨h1,_⟩:=this
    omega
   rw[K4 hk]at p2
   A7 wR at p2
   A6⟨x',hx',rx⟩:=rvs.get (A9 hk)
   rw[hx]at hx'
   cases hx'
   split at p2
   ·rename_i hlen
    A6⟨A2,a2,b2⟩:=r2
    have r3:Rel K Z1 (wU.set i (.fro xs[k])) (σ2.set i (some x)) H2:=Qk a2 b2 hlen (aD.refl _) (aD.refl _) (Kq a2) (b2.rv _ _ rx)
    &h Z1 _ _ H2 _ r3 ?_
    split at p2
    ·rename_i env' q2;rw[q2];~fun σ' H' r'=>⟨env',r',p2⟩
    ·rename_i env' q2;rw[q2];~fun σ' H' r'=>⟨env',r',p2⟩
    ·rename_i env' q2;rw[q2];~p2
    ·rename_i n1 n2 n3
     cases q2:g (wU.set i (.fro xs[k]))with
     | next e=>~absurd q2 (n1 e)
     | cont e=>~absurd q2 (n2 e)
     | brk e=>~absurd q2 (n3 e)
     | ret d=>rw[q2]at p2;~p2
     | bad=>rw[q2]at p2;~p2
     | rete d e=>rw[q2]at p2;~p2
   ·~p2.elim
  ·rintro σ2 H2 ⟨wU,r2,p2⟩
   rw[hl,List.drop_length]at p2
   ~p2 σ2 H2 r2
 ·~p.elim
A8 rJ{tg iter:Expr}{body:List Stmt}{wi:TI}{fi:FA}{tb:TS}{i:Nat}(js:List Nat)(hp:PassesOwn (model X.prog X.w) X.A X.env X.xe)(JQ:X.calm=true)(hi:XI K X tg iter wi fi)(hg:PG X tg (bZ i))(hb:YB K X body tb g)
  (hs:∀x,foldedSetIterable iter X.env x=pure x:=by intro _;rfl):YS K X (.For tg iter body [] pos) (Ut wi (bZ i) tb) (pB js i fi g):=⟨Uu hp JQ hi.pi hg hb.ps hs,Wl hi.ev hb.ev⟩
end
end L2


namespace L2
open PySem PySem.Spec PyProof.Rows
inductive Step where
  | ix (k:Nat) | key (k:Key) | fld (C:Addr) (f:Str)
def kids:D→List D
 | .lst ds=>ds
 | .dk _ ds=>ds
 | .ins _ _ ds=>ds
 | _=>[]
def rK:D→List D→D
 | .lst _,ds=>.lst ds
 | .dk ks _,ds=>.dk ks ds
 | .ins C nm _,ds=>.ins C nm ds
 | d,_=>d
def wV:Step→D→Option Nat
 | .ix k,.lst ds=>some k
 | .key k,.dk ks _=>posK ks k
 | .fld C f,.ins C' nm _=>if C'=C then posK nm f else none
 | _,_=>none
def lX:List Step→D→Option D
 | [],d=>some d
 | s::p,d=>(wV s d).bind fun j=>((kids d)[j]?).bind (lX p)
def lY:List Step→D→D→D
 | [],_,d'=>d'
 | s::p,d,d'=>match wV s d with
  | some j=>(match (kids d)[j]? with
   | some c=>rK d ((kids d).set j (lY p c d'))
   | none=>d)
  | none=>d
def stepV(H:Hp)(s:Step)(v:V):Option V:=match v with
 | .ref a=>(match s,H a with
  | .ix k,some (.lst xs)=>xs[k]?
  | .key k,some (.dK kvs)=>gP kvs k
  | .fld C f,some (.ins C' _ fs)=>if C'=C then fs.lookup f else none
  | _,_=>none)
 | _=>none
def Ih(H:Hp):List Step→V→Option V
 | [],v=>some v
 | s::p,v=>(stepV H s v).bind (Ih H p)
A8 Bh{H H':Hp}(e:aD H H'){s:Step}{v w:V}(h:stepV H s v=some w):stepV H' s v=some w:=by
 cases v with
 | ref a=>
  A7 stepV at h ⊢
  dsimp only at h ⊢
  cases q:H a with
  | none=>rw[q]at h;cases s<;>cases h
  | some o=>rw[e a o q];rw[q]at h;~h
 | _=>A7 stepV at h;cases h
A8 yQ{H H':Hp}(e:aD H H'):∀{p:List Step} {v w:V},Ih H p v=some w→Ih H' p v=some w
 | [],v,w,h=>h
 | s::p,v,w,h=>by
  A7 Ih at h ⊢
  A6⟨u,h1,h2⟩:=aR h
  rw[Bh e h1]
  ~yQ e h2
A8 Bj{nm:List Str}{xs:List V}{f:Str}(h:nm.length=xs.length):(nm.zip xs).lookup f=(posK nm f).bind fun j=>xs[j]?:=by
 induction nm generalizing xs with
 | nil=>A7 posK;rfl
 | cons a nm ih=>
  cases xs with
  | nil=>simp at h
  | cons x xs=>
   have ih:=ih (xs:=xs) (by simpa using h)
   A7 posK
   rw[F2,L5]
   by_cases c:a=f
   ·subst c;simp
   ·have c2:(f==a)=false:=by
     rw[beq_eq_false_iff_ne];~fun z=>c z.symm
    rw[c2,if_neg c,ih]
    cases posK nm f<;>rfl
A8 Ow.kids{K:aA}{H:Hp}{d:D}{A:Fp}{v:V}{s:Step}{j:Nat}(h:Ow K H d A v)(q:wV s d=some j):∃xs T Bt,(∀x,xs[j]?=some x→stepV H s v=some x)∧bH K H (kids d) Bt xs∧Is A (cI T Bt)∧Apart T Bt ∧
  ∀H' ds' B',ds'.length=(kids d).length→bH K H' ds' B' xs→(∀a,T a→H' a=H a)→Apart T B'→Ow K H' (rK d ds') (cI T B') v:=by
 cases d with
 | lst ds=>
  A7 Ow at h
  A6⟨a,xs,B,rfl,h2,h3,h4,h5⟩:=h
  cases s with
  | ix k=>
   A7 wV at q
   cases q
   &⟨xs,(·=a),B,fun x hx=>?_,h5,h4,fun x qx qb=>h3 (qx▸qb),fun H' ds' B' hl o f ap=>?_⟩
   ·A7 stepV;dsimp only;rw[h2];~hx
   ·show Ow K H' (.lst ds') _ _
    A7 Ow
    ~⟨a,xs,B',rfl,(f a rfl).trans h2,ap a rfl,fun _=>Iff.rfl,o⟩
  | _=>A7 wV at q;cases q
 | dk ks ds=>
  A7 Ow at h
  A6⟨a,xs,B,rfl,h2,h2',h3,h4,h5⟩:=h
  cases s with
  | key k=>
   have q:posK ks k=some j:=q
   &⟨xs,(·=a),B,fun x hx=>?_,h5,h4,fun x qx qb=>h3 (qx▸qb),fun H' ds' B' hl o f ap=>?_⟩
   ·A7 stepV;dsimp only;rw[h2];show gP (ks.zip xs) k=_;rw[fH h2',q];~hx
   ·show Ow K H' (.dk ks ds') _ _
    A7 Ow
    ~⟨a,xs,B',rfl,(f a rfl).trans h2,h2',ap a rfl,fun _=>Iff.rfl,o⟩
  | _=>A7 wV at q;cases q
 | ins C nm ds=>
  A7 Ow at h
  A6⟨a,dx,xs,B,rfl,h2,h2',h3,h3',h3'',h4,h5⟩:=h
  cases s with
  | fld C0 k=>
   have q:(if C=C0 then posK nm k else none)=some j:=q
   by_cases hc:C=C0
   rotate_left
   ·rw[if_neg hc]at q;cases q
   rw[if_pos hc]at q
   &⟨xs,(fun x=>x=a∨x=dx),B,fun x hx=>?_,h5,h4,fun x qx qb=>qx.elim (fun z=>h3' (z▸qb)) fun z=>h3'' (z▸qb),fun H' ds' B' hl o f ap=>?_⟩
   ·A7 stepV;dsimp only;rw[h2];show (if C=C0 then(nm.zip xs).lookup k else none)=_;rw[if_pos hc,Bj h3,q];~hx
   ·show Ow K H' (.ins C nm ds') _ _
    A7 Ow
    ~⟨a,dx,xs,B',rfl,(f a (.inl rfl)).trans h2,(f dx (.inr rfl)).trans h2',h3,ap a (.inl rfl),ap dx (.inr rfl),fun _=>Iff.rfl,o⟩
  | _=>A7 wV at q;cases q
 | _=>cases s<;>(A7 wV at q;cases q)
A8 Ow.at{K:aA}{H:Hp}:∀{p:List Step} {d d1:D} {A:Fp} {v:V},Ow K H d A v→lX p d=some d1→∃w A1 C,Ih H p v=some w∧Apart A1 C∧Is A (cI A1 C)∧Ow K H d1 A1 w ∧
    ∀H' d' A',Apart A' C→(∀a,C a→H' a=H a)→mQ K H H'→Ow K H' d' A' w→Ow K H' (lY p d d') (cI A' C) v
  | [],d,d1,A,v,h,q=>by
    A7 lX at q
    cases q
    ~⟨v,A,nil,rfl,fun _ _ z=>z,fun x=>⟨.inl,fun z=>z.elim id False.elim⟩,h,fun H' d' A' _ _ _ o=>o.congr fun x=>⟨.inl,fun z=>z.elim id False.elim⟩⟩
  | s::p,d,d1,A,v,h,q=>by
    A7 lX at q
    A6⟨j,q1,q2⟩:=aR q
    A6⟨c,q3,q4⟩:=aR q2
    A6⟨xs,T,Bt,k1,k2,k3,k4,k5⟩:=h.kids q1
    A6⟨y,B1,C1,f1,f2,f3,f4,f5⟩:=(cA.mp k2).focus q3
    A6⟨w,A1,C2,g1,g2,g3,g4,g5⟩:=Ow.at f4 q4
    &⟨w,A1,cI T (cI C1 C2),?_,?_,?_,g4,fun H' d' A' ap fr tk o=>?_⟩
    · A7 Ih
      rw[k1 y f1]
      ~g1
    · intro x qx qc
      have b1:B1 x:=(g3 x).mpr (.inl qx)
      rcases qc with qc | qc | qc
      · ~k4 x qc ((f3 x).mpr (.inl b1))
      · ~f2 x b1 qc
      · ~g2 x qx qc
    · intro x
      rw[k3 x]
      constructor
      · rintro(z | z)
        · ~.inr (.inl z)
        · rcases(f3 x).mp z with z | z
          · rcases(g3 x).mp z with z | z
            · ~.inl z
            · ~.inr (.inr (.inr z))
          · ~.inr (.inr (.inl z))
      · rintro(z | z | z | z)
        · ~.inr ((f3 x).mpr (.inl ((g3 x).mpr (.inl z))))
        · ~.inl z
        · ~.inr ((f3 x).mpr (.inr z))
        · ~.inr ((f3 x).mpr (.inl ((g3 x).mpr (.inr z))))
    · have o1:Ow K H' (lY p c d') (cI A' C2) y:=g5 H' d' A' (fun x a b=>ap x a (.inr (.inr b))) (fun a z=>fr a (.inr (.inr z))) tk o
      have RJ:Apart (cI A' C2) C1:=fun x a b=>a.elim (fun z=>ap x z (.inr (.inl b))) fun z=>f2 x ((g3 x).mpr (.inr z)) b
      have o2:=f5 (Ow K H') (fun e B z hb qq=>Ow.frame tk e B z qq fun a za=>fr a (.inr (.inl (hb a za)))) (lY p c d') y (cI A' C2) RJ o1
      rw[set_same f1]at o2
      have o3:=k5 H' ((L2.kids d).set j (lY p c d')) _ (by rw[T3]) (cA.mpr o2) (fun a z=>fr a (.inl z)) (fun x a b=>by
        rcases b with (b | b) | b
        · ~ap x b (.inl a)
        · ~k4 x a ((f3 x).mpr (.inl ((g3 x).mpr (.inr b))))
        · ~k4 x a ((f3 x).mpr (.inr b)))
      have e:lY (s::p) d d'=rK d ((L2.kids d).set j (lY p c d')):=by
        show (match wV s d with | some j=>_ | none=>_)=_
        rw[q1]
        show (match (L2.kids d)[j]? with | some c=>_ | none=>_)=_
        rw[q3]
      rw[e]
      &o3.congr fun x=>?_
      show (T x∨(A' x∨C2 x)∨C1 x)↔(A' x∨T x∨C1 x∨C2 x)
      constructor
      · rintro(z | (z | z) | z)
        · ~.inr (.inl z)
        · ~.inl z
        · ~.inr (.inr (.inr z))
        · ~.inr (.inr (.inl z))
      · rintro(z | z | z | z)
        · ~.inr (.inl (.inl z))
        · ~.inl z
        · ~.inr (.inr z)
        · ~.inr (.inl (.inr z))
section
variable{K:aA}{B H:Hp}{env:EN}{σ:St}
A8 Rel.at{i:Nat}{p:List Step}{d0 d:D}(h:Rel K B env σ H)(e:env[i]?=some (.own d0))(q:lX p d0=some d):∃v0 w A1 C,σ[i]?=some (some v0)∧Ih H p v0=some w∧Ow K H d A1 w∧Apart A1 C∧(∀a,C a→iC H a) ∧
    ∀H' d' A',Apart A' C→(∀a,C a→H' a=H a)→mQ K H H'→Ow K H' d' A' w→aD (out H (cI A1 C)) (out H' (cI A' C))→Rel K B (env.set i (.own (lY p d0 d'))) σ H':=by
  A6⟨A,a,b⟩:=h
  have cl:=cN a
  A6⟨y,A1,C,h1,h2,h3,h4,k⟩:=a.focus e
  A6⟨v0,rfl,o⟩:=h4
  A6⟨w,B1,C1,g1,g2,g3,g4,g5⟩:=o.at q
  &⟨v0,w,B1,cI C1 C,h1,g1,g4,fun x z1 z2=>?_,fun x z=>?_,fun H' d' A' ap fr tk o' sm=>?_⟩
  · ~z2.elim (g2 x z1) (h2 x ((g3 x).mpr (.inl z1)))
  · ~cl x ((h3 x).mpr (z.elim (fun z=>.inl ((g3 x).mpr (.inr z))) .inr))
  · have o2:=g5 H' d' A' (fun x z1 z2=>ap x z1 (.inl z2)) (fun x z=>fr x (.inl z)) tk o'
    have RK:Apart (cI A' C1) C:=fun x z1 z2=>z1.elim (fun z=>ap x z (.inr z2)) fun z=>h2 x ((g3 x).mpr (.inr z)) z2
    have hA:Is A (cI B1 (cI C1 C)):=fun x=>by
      rw[h3 x]
      constructor
      · rintro(z | z)
        · ~((g3 x).mp z).elim .inl fun z=>.inr (.inl z)
        · ~.inr (.inr z)
      · rintro(z | z | z)
        · ~.inl ((g3 x).mpr (.inl z))
        · ~.inl ((g3 x).mpr (.inr z))
        · ~.inr z
    have g:aD (out H A) (out H' (cI (cI A' C1) C)):=fun x u ex=>by
      A6⟨e1,e2⟩:=aV.mp ex
      have:=sm x u (aV.mpr ⟨fun z=>e1 ((hA x).mpr z),e2⟩)
      A6⟨e3,e4⟩:=aV.mp this
      ~aV.mpr ⟨fun z=>e3 (z.elim (fun z=>z.elim .inl fun z=>.inr (.inl z)) fun z=>.inr (.inr z)),e4⟩
    have s:=k (cY K H' (out H' (cI (cI A' C1) C))) (fun s D z hb qq=>by
      cases s with
      | no=>~qq
      | fro d=>A6⟨q1,v,q2,q3⟩:=qq;~⟨q1,v,q2,g.rv _ _ q3⟩
      | inn v d=>~⟨qq.1,Ow.frame tk _ _ _ qq.2 fun x zx=>fr x (.inr (hb x zx))⟩
      | own d=>A6⟨v,q1,q2⟩:=qq;~⟨v,q1,Ow.frame tk _ _ _ q2 fun x zx=>fr x (.inr (hb x zx))⟩) (.own (lY p d0 d')) (some v0) (cI A' C1) RK ⟨v0,rfl,o2⟩
    rw[set_same h1]at s
    ~⟨_,s,b.trans g⟩
A8 Rel.JR{i:Nat}{p:List Step}{d0:D}{ds:List D}(h:Rel K B env σ H)(e:env[i]?=some (.own d0))(q:lX p d0=some (.lst ds)):∃v0 a xs Bs,σ[i]?=some (some v0)∧Ih H p v0=some (.ref a)∧H a=some (.lst xs)∧¬Bs a∧bH K H ds Bs xs ∧
    ∀H2 ds' xs' Bn,aD H H2→bH K H2 ds' Bn xs'→(∀b,Bn b→Bs b∨H b=none)→Rel K B (env.set i (.own (lY p d0 (.lst ds')))) σ (upd H2 a (.lst xs')):=by
  A6⟨v0,w,A1,C,h1,h2,h3,h4,h5,h6⟩:=h.at e q
  A7 Ow at h3
  A6⟨a,xs,Bs,rfl,o2,o3,o4,o5⟩:=h3
  &⟨v0,a,xs,Bs,h1,h2,o2,o3,o5,fun H2 ds' xs' Bn s o hb=>?_⟩
  have BK:¬Bn a:=fun z=>(hb a z).elim o3 fun z=>by rw[o2]at z;cases z
  have hC:∀x,C x→¬x=a:=fun x z y=>h4 x ((o4 x).mpr (.inl y)) z
  have Ks:H2 a=some (.lst xs):=s a _ o2
  &h6 _ (.lst ds') (cI (·=a) Bn) (fun x z1 z2=>?_) (fun x z=>?_) (s.tk.trans (kY (fG Ks))) ?_ (fun x u ex=>?_)
  · rcases z1 with z1 | z1
    · ~hC x z2 z1
    · rcases hb x z1 with z | z
      · ~h4 x ((o4 x).mpr (.inr z)) z2
      · A6⟨⟨u,eu⟩,_⟩:=h5 x z2
        rw[z]at eu;cases eu
  · A6⟨⟨u,eu⟩,_⟩:=h5 x z
    rw[aJ (hC x z),eu,s x u eu]
  · A7 Ow
    &⟨a,xs',Bn,rfl,aQ,BK,fun _=>Iff.rfl,bH.frame (kY (fG Ks)) _ _ _ o fun x zx=>aJ fun y=>BK (y▸zx)⟩
  · A6⟨e1,e2⟩:=aV.mp ex
    have na:x≠a:=fun y=>e1 (.inl ((o4 x).mpr (.inl y)))
    &aV.mpr ⟨fun z=>?_,by rw[aJ na];~s x u e2⟩
    rcases z with (z | z) | z
    · ~na z
    · rcases hb x z with z | z
      · ~e1 (.inl ((o4 x).mpr (.inr z)))
      · rw[z]at e2;cases e2
    · ~e1 (.inr z)
A8 Rel.BL{i:Nat}{p:List Step}{d0:D}{ks:List Key}{ds:List D}(h:Rel K B env σ H)(e:env[i]?=some (.own d0))(q:lX p d0=some (.dk ks ds)):∃v0 a xs Bs,σ[i]?=some (some v0)∧Ih H p v0=some (.ref a)∧H a=some (.dK (ks.zip xs))∧ks.length=xs.length∧¬Bs a∧bH K H ds Bs xs ∧
    ∀H2 ks' ds' xs' Bn,aD H H2→ks'.length=xs'.length→bH K H2 ds' Bn xs'→(∀b,Bn b→Bs b∨H b=none)→Rel K B (env.set i (.own (lY p d0 (.dk ks' ds')))) σ (upd H2 a (.dK (ks'.zip xs'))):=by
  A6⟨v0,w,A1,C,h1,h2,h3,h4,h5,h6⟩:=h.at e q
  A7 Ow at h3
  A6⟨a,xs,Bs,rfl,o2,o2',o3,o4,o5⟩:=h3
  &⟨v0,a,xs,Bs,h1,h2,o2,o2',o3,o5,fun H2 ks' ds' xs' Bn s hl o hb=>?_⟩
  have BK:¬Bn a:=fun z=>(hb a z).elim o3 fun z=>by rw[o2]at z;cases z
  have hC:∀x,C x→¬x=a:=fun x z y=>h4 x ((o4 x).mpr (.inl y)) z
  have Ks:H2 a=some (.dK (ks.zip xs)):=s a _ o2
  &h6 _ (.dk ks' ds') (cI (·=a) Bn) (fun x z1 z2=>?_) (fun x z=>?_) (s.tk.trans (kY (lO Ks))) ?_ (fun x u ex=>?_)
  · rcases z1 with z1 | z1
    · ~hC x z2 z1
    · rcases hb x z1 with z | z
      · ~h4 x ((o4 x).mpr (.inr z)) z2
      · A6⟨⟨u,eu⟩,_⟩:=h5 x z2
        rw[z]at eu;cases eu
  · A6⟨⟨u,eu⟩,_⟩:=h5 x z
    rw[aJ (hC x z),eu,s x u eu]
  · A7 Ow
    &⟨a,xs',Bn,rfl,aQ,hl,BK,fun _=>Iff.rfl,bH.frame (kY (lO Ks)) _ _ _ o fun x zx=>aJ fun y=>BK (y▸zx)⟩
  · A6⟨e1,e2⟩:=aV.mp ex
    have na:x≠a:=fun y=>e1 (.inl ((o4 x).mpr (.inl y)))
    &aV.mpr ⟨fun z=>?_,by rw[aJ na];~s x u e2⟩
    rcases z with (z | z) | z
    · ~na z
    · rcases hb x z with z | z
      · ~e1 (.inl ((o4 x).mpr (.inr z)))
      · rw[z]at e2;cases e2
    · ~e1 (.inr z)
end
end L2


namespace L2
open PySem PySem.Spec PyProof.Rows
abbrev FP:=DE→Option (List Step)
def FQ(K:aA)(t:TE)(i:Nat)(π:FP):Prop:=∀(σ:St)(H:Hp)(e:DE)(v0:V)(p:List Step)(v:V)(Q:VK),iG K H e σ→σ[i]?=some (some v0)→π e=some p→Ih H p v0=some v→(∀H',aD H H'→Q v H')→t σ H Q
structure XP(K:aA)(X:Cx)(e:Expr)(t:TE)(i:Nat)(π:FP):Prop where
 hk:X.K=K
 pe:PE X e t
 ev:FQ K t i π
def iQ:FP:=fun _=>some []
section
variable{K:aA}{X:Cx}{e a b c:Expr}{es:List Expr}{t ta tb te:TE}{f g:FE}{tA:TA}{fs:FA}{pos:Pos}{i j:Nat}{π:FP}{st:Stmt}
A8 Bk(h:PE X e (tV i))(hk:X.K=K:=by rfl):XP K X e (tV i) i iQ:=⟨hk,h,fun σ H e v0 p v Q re h1 h2 h3 k=>by
 cases h2
 A7 Ih at h3
 cases h3
 ~⟨v0,h1,k H (aD.refl _)⟩⟩
def yR(i:Nat)(π:FP)(f:FE):GS:=fun env=>match env[i]?,π (rE env),f (rE env)with
 | some (.own d0),some p,some d=>(match lX p d0 with
  | some (.lst ds)=>if ds.length<100000 then .next (env.set i (.own (lY p d0 (.lst (ds++[d])))))else .bad
  | _=>.bad)
 | _,_,_=>.bad
A8 Wm{H H1:Hp}{A:Fp}{ds:List D}{xs:List V}{N:Fp}(o:bH K H ds A xs)(fr:∀a,N a→H a=none):Apart A N:=fun x q1 q2=>by
 A6⟨⟨u,eu⟩,_⟩:=bH.cells _ _ _ o x q1
 rw[fr x q2]at eu;cases eu
A8 Wn(h:FQ K ta i π)(he:uA K te f):BJ K (nU (EY K "list" pH ta (eX te oR))) (yR i π f):=fun B E σ H env r p=>by
 A7 yR at p
 split at p
 ·rename_i d0 pp d q1 q2 q3
  split at p
  ·rename_i ds q4
   split at p
   ·rename_i hl
    A6⟨v0,a,xs,Bs,k1,k2,k3,k4,k5,k6⟩:=r.JR q1 q4
    &h σ H (rE env) v0 pp _ _ r.r k1 q2 k2 fun H1 s1=>⟨.inl ⟨rfl,xs,gW.of (s1 _ _ k3)⟩,?_⟩
    &he σ H1 (rE env) d _ (r.r.same s1) q3 fun y H2 s2 n=>?_
    A6⟨N,o,fr⟩:=n.back s1
    have s12:=s1.trans s2
    &⟨a,xs,y,rfl,rfl,s12 _ _ k3,Du (by rw[(bH.rv _ _ _ k5).length];omega),p _ ?_⟩
    ~k6 H2 (ds++[d]) (xs++[y]) (cI Bs N) s12 (cA.mpr ((cA.mp (k5.same s12)).snoc o (Wm (H1:=H) k5 fr))) fun b z=>z.imp id (fr b)
   ·~p.elim
  ·~p.elim
 ·~p.elim
A8 Ku{m:Str}{apos cpos:Pos}(h:XP K X a ta i π)(he:XN K X e te f)(hp:PE X a ta→PE X e te→PS X (.Expr (.Call (.Attribute a m apos) [e] [] cpos) pos) (nU (EY K "list" pH ta (eX te oR)))):YS K X (.Expr (.Call (.Attribute a m apos) [e] [] cpos) pos) (nU (EY K "list" pH ta (eX te oR))) (yR i π f):=⟨hp h.pe he.pe,(Wn h.ev he.ev).ds⟩
def iR(i:Nat)(π:FP)(g f:FE):GS:=fun env=>match env[i]?,π (rE env),g (rE env),f (rE env)with
 | some (.own d0),some p,some k,some d=>(match lX p d0,Gw k with
  | some (.dk ks ds),some k=>if d.cX=true∧ks.length<100000 then .next (env.set i (.own (lY p d0 (.dk (qX ks k) (putD ks ds k d)))))else .bad
  | _,_=>.bad)
 | _,_,_,_=>.bad
A8 yS{H:Hp}{d:D}{v:V}(o:Ow K H d nil v)(k:Key):∀{ks:List Key} {ds:List D} {A:Fp} {xs:List V},ks.length=xs.length→bH K H ds A xs→∃A',(∀x,A' x→A x)∧bH K H (M4 (fun k' d'=>if k'=k then d else d') ks ds) A' (M4 (fun k' d'=>if k'=k then v else d') ks xs)
 | [],ds,A,xs,hl,h=>by
  cases xs with
  | nil=>~⟨nil,fun _ z=>z.elim,by rw[Q0,Q0];A7 bH;~⟨fun _ z=>z,rfl⟩⟩
  | cons x xs=>simp at hl
 | k0::ks,[],A,xs,hl,h=>by A7 bH at h;rw[h.2]at hl;simp at hl
 | k0::ks,d0::ds,A,xs,hl,h=>by
  A7 bH at h
  A6⟨y,yt,A1,A2,rfl,h2,h3,h4,h5⟩:=h
  A6⟨A',a1,a2⟩:=yS o k (by simpa using hl) h5
  by_cases c:k0=k
  ·&⟨A',fun x q=>(h3 x).mpr (.inr (a1 x q)),?_⟩
   rw[G3,G3,if_pos c,if_pos c]
   A7 bH
   ~⟨v,_,nil,A',rfl,fun _ z=>z.elim,fun x=>⟨.inr,fun z=>z.elim False.elim id⟩,o,a2⟩
  ·&⟨cI A1 A',fun x q=>(h3 x).mpr (q.imp id (a1 x)),?_⟩
   rw[G3,G3,if_neg c,if_neg c]
   A7 bH
   ~⟨y,_,A1,A',rfl,fun x z1 z2=>h2 x z1 (a1 x z2),fun _=>Iff.rfl,h4,a2⟩
A8 Qm(h:FQ K ta i π)(hx:wL K tb g)(he:wL K te f):BJ K (Dk ta tb te) (iR i π g f):=fun B E σ H env r p=>by
 A7 iR at p
 split at p
 ·rename_i d0 pp kd d q1 q2 q3 RL
  split at p
  ·rename_i ks ds k q4 q5
   split at p
   ·rename_i hc
    A6⟨v0,a,xs,Bs,k1,k2,k3,Sy,k4,k5,k6⟩:=r.BL q1 q4
    &he σ H H (rE env) d _ (Zn.self K H) r.r RL fun y H1 Z1 s1 t1 z1 ry=>?_
    &h σ H1 (rE env) v0 pp _ _ (r.r.same s1) k1 q2 (yQ s1 k2) fun H2 s2=>hx σ H2 H2 (rE env) _ _ (Zn.self K H2) (r.r.same (s1.trans s2)) q3 fun y' H3 Z3 s3 t3 z3 JS=>?_
    have Wi:=s1.trans (s2.trans s3)
    have o:Ow K H3 d nil y:=qN d y hc.1 ((z1.sm.trans (s2.trans s3)).rv _ _ ry)
    have ek:=pL q5 (z3.sm.rv _ _ JS)
    &⟨a,_,rfl,.inl ⟨ks.zip xs,k,Wi _ _ k3,ek,Du (by rw[List.length_zip];omega),rfl⟩,p _ ?_⟩
    rw[Kd Sy]
    have PB:=k5.same Wi
    have hl3:=(bH.rv _ _ _ k5).length
    by_cases c:(posK ks k).isSome=true
    ·A6⟨A',a1,a2⟩:=yS o k Sy PB
     &k6 H3 (qX ks k) (putD ks ds k d) (putD ks xs k y) A' Wi (yK Sy) ?_ fun b z=>.inl (a1 b z)
     A7 putD
     rw[if_pos c,if_pos c]
     ~a2
    ·&k6 H3 (qX ks k) (putD ks ds k d) (putD ks xs k y) (cI Bs nil) Wi (yK Sy) ?_ fun b z=>z.elim .inl False.elim
     A7 putD
     rw[if_neg c,if_neg c]
     ~cA.mpr ((cA.mp PB).snoc o fun _ _ z=>z)
   ·~p.elim
  ·~p.elim
 ·~p.elim
A8 pN{pos':Pos}(h:XP K X a ta i π)(hx:XR K X b tb g)(he:XR K X e te f)(hp:PE X a ta→PE X b tb→PE X e te→PS X (.Assign [.Subscript a b pos'] e pos) (Dk ta tb te)):YS K X (.Assign [.Subscript a b pos'] e pos) (Dk ta tb te) (iR i π g f):=⟨hp h.pe hx.pe he.pe,(Qm h.ev hx.ev he.ev).ds⟩
end
end L2


namespace L2
open PySem PySem.Spec PyProof.Rows
def RM(K:aA)(B:Hp)(R:Fp)(env:EN)(σ:St)(H:Hp):Prop:=∃A,cQ (cY K H (out H (cI A R))) env A σ∧Apart A R∧aD B (out H (cI A R))
section
variable{K:aA}{B H H':Hp}{env:EN}{σ:St}{R R' A1:Fp}
end
section
variable{K:aA}{X:Cx}{e a b c:Expr}{es:List Expr}{t ta tb te:TE}{f g:FE}{tA:TA}{fs:FA}{pos:Pos}{i j:Nat}{π:FP}{st:Stmt}
inductive Wo(K:aA)(H:Hp):V→Value→Prop where
 | bl (x:Bool):Wo K H (.bl x) (.type "bool")
 | int (i:Int):Wo K H (.int i) (.type "int")
 | lst {a:Addr} {xs:List V} (e:gW K H a xs):Wo K H (.ref a) (.type "list")
 | tup {a:Addr} {xs:List V} (e:jP K H a xs):Wo K H (.ref a) (.type "tuple")
A8 wW:dY X (.builtin "isinstance") (fun xs H Q=>∃x T t b,xs=[x,.ty T]∧Wo X.K H x t∧E1 X.K t (.type T)=some b∧Q (.bl b) H):=by
 intro pins s σ H xs us Q I r h
 A6⟨x,T,t,b,rfl,ty,hk,q⟩:=h
 A6⟨u,w',rfl,rx,rt⟩:=vals2 r
 cases rt
 cases ty with
 | bl y=>~uH I rx (.bl y) hk fun tk=>⟨.bl b,H,I.tok _,rfl,q⟩
 | int i=>~uH I rx (.int i) hk fun tk=>⟨.bl b,H,I.tok _,rfl,q⟩
 | @lst a xs e=>
  cases(show u=Value.ref a from rx)
  A6⟨its,_,pl,_⟩:=I.list e
  A6⟨o,n,h1,h2,_⟩:=pl
  ~E5 N5 I.vN ⟨o,h1,h2⟩ hk (fun z=>nomatch z) fun tk=>⟨.bl b,H,I.tok _,rfl,q⟩
 | @tup a xs e=>
  cases(show u=Value.ref a from rx)
  A6⟨its,_,pl,_⟩:=I.tuple e
  A6⟨o,h1,h2,_⟩:=pl
  ~E5 R4 I.vN ⟨o,h1,h2⟩ hk (fun z=>nomatch z) fun tk=>⟨.bl b,H,I.tok _,rfl,q⟩
def yU(T:String)(d:D):Option D:=match d with
 | .int _=>if T = "int" then some (.bl true)else if T = "bool" then some (.bl false)else none
 | .bl _=>if T = "bool" then some (.bl true)else none
 | .lst _=>if T = "list" then some (.bl true)else none
 | .tup _=>if T = "tuple" then some (.bl true)else none
 | _=>none
def yV(T:String)(f:FE):FE:=fun e=>(f e).bind (yU T)
def BP(K:aA):List V→Hp→VK→Prop:=fun xs H Q=>∃x T t b,xs=[x,.ty T]∧Wo K H x t∧E1 K t (.type T)=some b∧Q (.bl b) H
A8 Wq{H:Hp}{T:String}{d r:D}{v:V}(h:yU T d=some r)(rv:Rv K H d v):∃t b,Wo K H v t∧E1 K t (.type T)=some b∧r=.bl b:=by
 cases d with
 | int i=>
  A7 yU at h
  dsimp only at h
  A7 Rv at rv
  subst rv
  split at h
  ·rename_i c;cases h;subst c;~⟨_,_,.int i,yI,rfl⟩
  ·split at h
   ·rename_i c;cases h;subst c;~⟨_,_,.int i,wH,rfl⟩
   ·cases h
 | bl b=>
  A7 yU at h
  dsimp only at h
  A7 Rv at rv
  subst rv
  split at h
  ·rename_i c;cases h;subst c;~⟨_,_,.bl b,tX,rfl⟩
  ·cases h
 | lst ds=>
  A7 yU at h
  dsimp only at h
  A7 Rv at rv
  A6⟨a,xs,rfl,r2,_⟩:=rv
  split at h
  ·rename_i c;cases h;subst c;~⟨_,_,.lst r2,tY,rfl⟩
  ·cases h
 | tup ds=>
  A7 yU at h
  dsimp only at h
  A7 Rv at rv
  A6⟨a,xs,rfl,r2,_⟩:=rv
  split at h
  ·rename_i c;cases h;subst c;~⟨_,_,.tup r2,oX,rfl⟩
  ·cases h
 | _=>A7 yU at h;cases h
A8 Wr(hk:X.K=K):dY X (.builtin "isinstance") (BP K):=by subst hk;~wW
A8 wX{T:String}{p:Pos}{eT:Expr}(h:XR K X e t f)(hT:PE X eT (tC (.ty T)))(hg:Gl X "isinstance") (hm:X.mg "isinstance" = none) (hst:starEach (e::[eT]) X.env=(false,eval e X.env)::starEach [eT] X.env:=by rfl) (hst2:starEach [eT] X.env=(false,eval eT X.env)::starEach [] X.env:=by rfl)
  (hpl:(backTo pos (starEach [eT] X.env)).any (·.1)=false:=by rfl):XN K X (.Call (.Name "isinstance" p) [e,eT] [] pos) (Ol (BP K) (eX t (eX (tC (.ty T)) oR))) (yV T f):=
 ⟨h.hk,pY (Wr h.hk) hg hm PyProof.Rows.boot_isinstance (gA h.pe (gA hT mJ hst2) hst) A4 A4 hst hpl,fun σ H e d Q re q k=>by
  A7 yV at q
  A6⟨d0,q1,q2⟩:=aR q
  &h.ev σ H H e d0 _ (Zn.self K H) re q1 fun v H1 Z1 s1 t1 z1 rv=>?_
  A6⟨ty,b,b1,b2,rfl⟩:=Wq q2 (z1.sm.rv _ _ rv)
  ~⟨v,T,ty,b,rfl,b1,b2,k _ H1 s1 (.cX rfl (by A7 Rv;rfl))⟩⟩
structure PJ(mg:Str→Option Value)(x:Str)(i:Int):Prop where
 ex:∃t,mg x=some (.int i t)
structure PK(K:aA)(mg:Str→Option Value)(x:Str)(ns:List Int):Prop where
 ex:∃a,mg x=some (.ref a)∧∀H:Hp,jP K H a (ns.map V.int)
def dTup(ns:List Int):D:=.tup (ns.map D.int)
end
def fO(n m:Nat)(g:GS):List D→Option D:=fun ds=>if ds.length=m then(match g (ds.map SD.fro++E2 (n-m) SD.no)with
  | .ret d=>some d
  | .next _=>some .non
  | _=>none)else none
A8 yW{K:aA}{H Z:Hp}{k:Nat}:∀{ds:List D} {vs:List V},bC K Z ds vs→cQ (cY K H Z) (ds.map SD.fro++E2 k SD.no) nil (vs.map some++E2 k none)
 | [],vs,h=>by
  A7 bC at h
  subst h
  simp only[D4,T4]
  induction k with
  | zero=>~⟨fun _ z=>z,rfl⟩
  | succ k ih=>
   rw[Q9,Q9]
   ~⟨none,_,nil,nil,rfl,fun _ z=>z.elim,fun x=>⟨.inl,fun z=>z.elim id id⟩,fun _ z=>z,ih⟩
 | d::ds,vs,h=>by
  A7 bC at h
  A6⟨y,ys,rfl,h1,h2⟩:=h
  rw[B3,B3,K0,K0]
  ~⟨some y,_,nil,nil,rfl,fun _ z=>z.elim,fun x=>⟨.inl,fun z=>z.elim id id⟩,⟨fun _ z=>z,y,rfl,h1⟩,yW h2⟩
A8 uW{K:aA}{H:Hp}{k:Nat}{ds:List D}{vs:List V}(h:bC K H ds vs):Rel K H (ds.map SD.fro++E2 k SD.no) (vs.map some++E2 k none) H:=by
 have g:aD H (out H nil):=fun x u e=>aV.mpr ⟨fun z=>z,e⟩
 ~⟨nil,yW (g.Ig _ _ h),g⟩
A8 Raw.uC{P:Program}{w:World}{K:aA}{mg:Str→Option Value}{base:Heap}{x:Str}{st:Stmt}{N ps:List Str}{k:Nat}{g:GS}(R:Raw K mg x st)(S:bJ N ps (aH st))
  (hb:∀(kV doc pm:Value)(an:Option Addr)(cdv ct:Value)(us:List Value),us.length=ps.length→bindArgs (E9 x x (cB st) (bK st) (aH st) .none kV doc pm an cdv ct) ⟨us,[]⟩=pure (ps.zip us))
  (hbody:∀(f:Addr)(cdv:Value)(A:Around)(outer:List Env)(s:Shared)(H:Hp)(E:XK),dH k (A.deeper (envOfC x (aH st) s.heap.objs.size f cdv)) →
   ∃t,YB K (vV Ie P w K mg base N x (aH st) f cdv A outer s H E).Uo (bK st) t g):mO P w K mg base x (k+1) ps.length (oE K ps.length (fO N.length ps.length g)):=by
 &R.cal S (fun vs H Q E h=>?_) hb (fun f cdv A outer s H vs Q E hr h=>?_)
 ·A6⟨ds,d,h1,h2,_⟩:=h
  rw[h2.length];~h1
 A6⟨ds,d,h1,h2,h3,kk⟩:=h
 A6⟨t,yb⟩:=hbody f cdv A outer s H E hr
 &⟨t,yb.ps,yb.ev H _ _ H (ds.map SD.fro++E2 (N.length-ps.length) SD.no) ?_ ?_⟩
 ·have hl:vs.length=ps.length:=by rw[h2.length];~h1
  have:=uW (k:=N.length-ps.length) h2
  A7 start
  rw[hl]
  ~this
 ·A7 fO at h3
  rw[if_pos h1]at h3
  cases q:g (ds.map SD.fro++E2 (N.length-ps.length) SD.no)with
  | ret d'=>
   rw[q]at h3
   cases h3
   &fun v H' A' s' o=>kk v H' (s'.trans (iD _ _)) ⟨A',o,fun a qa=>?_⟩
   cases e:H a with
   | none=>rfl
   | some u=>~absurd qa (aV.mp (s' a u e)).1
  | next env'=>
   rw[q]at h3
   cases h3
   &fun σ' H' ⟨A',_,s'⟩=>kk .non H' (s'.trans (iD _ _)) (.cX rfl (by A7 Rv;rfl))
  | brk env'=>rw[q]at h3;cases h3
  | cont env'=>rw[q]at h3;cases h3
  | bad=>rw[q]at h3;cases h3
  | rete d e=>rw[q]at h3;cases h3
end L2


namespace L2
open PySem PySem.Spec PyProof.Rows
section
variable{K:aA}{X:Cx}{e a b c:Expr}{es:List Expr}{t ta tb te:TE}{f g:FE}{tA:TA}{fs:FA}{pos:Pos}{i j:Nat}{π:FP}{st:Stmt}{gb:GS}{tc:TT}{fc:FT}
def RN(f:FE):FE:=fun e=>(f e).bind fun d=>match d with | .int i=>some (.int (-i)) | _=>none
A8 Qn{tg elt iter:Expr}{ifs:List Expr}{scope:Scope}{spos py:Pos}{y:Str}{wi:TI}{fi:FA}{fe:FE}(N:List Str)(fr:List Nat)(hcalm:X.calm=true)(B:bW X.env.scope scope X.N N 1 fr)(hN:X.N.Nodup)(hy:X.N[i]?=some y)(hx:Loc X.env.scope y)(hi:XI K X tg iter wi fi)
  (hg:∀cl fp s H C,PG (bO X scope N cl fp s H C) tg (bZ 0)) (hc:∀cl fp s H C,JN K (bO X scope N cl fp s H C) ifs tc fc) (he:∀cl fp s H C,XN K (bO X scope N cl fp s H C) elt te fe)
  (hsw:swapsWith (.ListComp elt [⟨tg,iter,ifs,0⟩] scope pos) (some (.Name y py)) spos.line X.env=pure true:=by rfl)
  (hs:∀x,foldedSetIterable iter X.env x=pure x:=by intro _;rfl) (hf:X.fn y=true∨X.env.scope.names.lookup y=some .local:=by first | ~.inl rfl | ~.inr rfl | assumption) :
  YS K X (.Assign [.Name y py] (.ListComp elt [⟨tg,iter,ifs,0⟩] scope pos) spos) (xX (lJ wi 1 fr (bZ 0) tc te) (bZ i)) (dB i (fK fi fr fc fe)):=
 ⟨Pn N 1 fr hcalm B hN hy hx hi.pi hg (fun cl fp s H C=>(hc cl fp s H C).OJ) (fun cl fp s H C=>(he cl fp s H C).pe) hsw hs hf,Bg (Eg hi.ev (hc [] [] X.s₀ X.H₀ 0).ev (he [] [] X.s₀ X.H₀ 0).ev)⟩
def RP(K:aA)(wi:TI)(fi:FA):Prop:=∀(σ:St)(H:Hp)(e:DE)(ds:List D)(R:It→Hp→Prop),iG K H e σ→fi e=some ds →
 (∀J H' P vs,aD H H'→Vq J P vs→(∀H2,P H2)→(∀Z,bC K Z ds vs)→R J H')→wi σ H R
structure XJ(K:aA)(X:Cx)(tg iter:Expr)(wi:TI)(fi:FA):Prop where
 pi:PI X tg iter wi
 ev:RP K wi fi
end
A8 Bl{K:aA}{st:Stmt}{f:Addr}{fd:FuncData}(F:Nm K "law" "law" st f fd) (hb:∀(kV doc pm:Value)(an:Option Addr)(cdv ct:Value)(u:Value),bindArgs (E9 "law" "law" (cB st) (bK st) (aH st) .none kV doc pm an cdv ct) ⟨[u],[]⟩=pure [(("script" : Str),u)]):∀(s:Shared)(u:Value),BindsTo s fd ⟨[u],[]⟩ [("script", u)]:=by
 A6⟨oc,od,kV,doc,pm,an,cdv,ct,osl,rfl,lk,hcd⟩:=F.ex
 ~fun s u=>.of_eq (hb kV doc pm an cdv ct u)
end L2


namespace L2
open PySem PySem.Spec PyProof.Rows
section
variable{K:aA}{X:Cx}{e a b c:Expr}{es:List Expr}{t ta tb te:TE}{f g:FE}{tA:TA}{fs:FA}{pos:Pos}{i j:Nat}{π:FP}{st:Stmt}
variable{lo hi:Option Expr}{tl th:TO}{fl fh:FO}{p2:Pos}
def PL(a b:D):Option D:=match a,b with
 | .tup x,.tup y=>if D.bM x=true∧D.bM y=true∧x.length+y.length≤100000 then some (.tup (x++y))else none
 | _,_=>none
end
end L2


namespace L2
open PySem PySem.Spec PyProof.Rows
def Led(b:Bool)(t:SetTable):Prop:=t.led=b∧(t.plain=true→t.place.toList.Pairwise (·<·)∧t.dummies=#[])
end L2


namespace L2
open PySem PySem.Spec PyProof.Rows
section
variable{prog:Program}{w:World}{A:Around}{E:Value→Shared→Prop}{s:Shared}{b:Bool}
def RQ(prog:Program)(w:World)(b:Bool)(h:Heap)(a:Addr)(S:Int→Bool)(n:Nat):Prop:=
 ∃o es ep t,h.get? a=some o∧o.ExactSet∧o.data=.set es ep t∧ElemsOf (intKind prog w) es.toList∧(∀k,S k=true↔∃e∈es.toList,(intKind prog w).is k e.2=true)∧es.size<scanBound∧t.fits es.size=true∧es.size=n∧Led b t
end
section
variable{prog:Program}{w:World}{A:Around}{R:Result→Shared→Prop}{I:Addr}{fp wr:List Addr}{G:Array GenState→Array GenState→Prop}{n:Nat}{P:Nat→Value→Prop}{St:Nat→Shared→Prop}{b:Bool}
end
end L2


namespace L2
open PySem PySem.Spec PyProof.Rows
section
variable{prog:Program}{w:World}{A:Around}{E:Value→Shared→Prop}{s:Shared}
end
end L2


namespace L2
open PySem PySem.Spec PyProof.Rows
def WL(h:Heap)(I:Addr)(f:Value)(i:Nat)(a:Addr)(n ep:Nat):Prop:=∃o,h.get? I=some o∧o.cls=.type "set_iterator" ∧ o.data=.fields #[f,.int (i:Int) 0,.ref a,.int (n:Int) 0,.int (ep:Int) 0]
def WM(h:Heap)(a:Addr)(es:Array (Int×Value))(ep:Nat)(t:SetTable):Prop:=∃o,h.get? a=some o∧o.cls=.type "set" ∧ o.data=.set es ep t∧t.fits es.size=true
section
variable{prog:Program}{w:World}{A:Around}{E:Value→Shared→Prop}{s:Shared}{I a T:Addr}{f:Value}{i n ep:Nat}{es:Array (Int×Value)}{t:SetTable}
end
end L2


namespace L2
open PySem PySem.Spec PyProof.Rows
section
variable{prog:Program}{w:World}{A:Around}{E:Value→Shared→Prop}{s:Shared}{I a T:Addr}{f:Value}{i n ep:Nat}{es:Array (Int×Value)}{t:SetTable}
end
end L2


namespace L2
open PySem PySem.Spec PySem.Calls PyProof.Rows PyProof.V
section
variable{prog:Program}{w:World}{A:Around}{E:Value→Shared→Prop}{s:Shared}{I a T:Addr}{n:Nat}{S:Int→Bool}
end
end L2


namespace L2
open PySem PySem.Spec PySem.Calls PyProof.Rows PyProof.V
section
variable{X:Cx}{e:Expr}{t:TE}{x y:Str}{p p2 pos pos2:Pos}
end
end L2


namespace L2
open PySem PySem.Spec PySem.Calls PyProof.Rows PyProof.V
section
variable{prog:Program}{w:World}{A:Around}{E:Value→Shared→Prop}{s:Shared}{I l:Addr}
end
section
variable{K:aA}{X:Cx}{e:Expr}{t:TE}{f:FE}{x y:Str}{p p2 pos pos2:Pos}
def FW(φ:D→Option D)(f:FE):FE:=fun e=>(f e).bind φ
end
end L2


namespace L2
open PySem PySem.Spec PySem.Calls PyProof.Rows PyProof.V PySem.W Att
abbrev Small(k:Int):Prop:=Builtin.Int.intBits k≤1048576
A8 Kv{ns:List Int}(h:WData.layableAll [WData.list (ns.map WData.int)]=true):∀k∈ns,Small k:=fun k hk=>by
 have h1:(WData.list (ns.map WData.int)).layable=true:=by simpa[WData.layableAll]using h
 A6⟨c,_,w⟩:=layableW_iff.mp h1
 have c':WData.canLayAll (ns.map WData.int)=true:=by simpa[WData.canLay]using c
 have w':WData.weightAll (ns.map WData.int)≤2 ^ 20:=by simpa[WData.weight]using w
 have:=(items_part (D8.mpr ⟨k,hk,rfl⟩) c').2.2
 have e:(WData.int k).weight=Builtin.Int.intBits k:=by simp only[WData.weight,Builtin.Int.intBits]
 rw[e]at this
 ~E7 this w'
A8 yX{l:OpenLaw}{n:Nat}{q:Program}{loose:List Str}{XP:(Str→Option Value)→Heap→Prop}{YP:World→Heap→Prop}{d:DefRec}(hn:l.most=some n)(hdf:d.params.defaults=[])
  (call:∀(w:World)(s₀ s₁:Shared)(mg mb:Str→Option Value)(fa:Addr)(o:Obj)(pm cd doc:Value)(a:Addr)(vs:List Value)(ns:List Int),Ground q loose [] XP w s₀ mg mb s₁.heap→YP w s₁.heap →
   s₁.heap.get? fa=some o→o.data=.func (docDef d.name d.params d.body d.scope pm cd doc)→s₁.heap.CodeRec cd d.name→mg d.name=some (.ref fa) →
   s₁.heap.get? a=some {cls:=.type "list", data:=.seq vs.toArray}→IntsAre vs ns→ns.length≤n→(∀k∈ns,Small k)→s₁.gens=#[] →
   codeAny (model l.prog w) callerA (.call (.ref fa) ⟨[.ref a],[]⟩) (fun r s'=>r=.ok (.ret (.bool true))∧OldK s₁.heap s'.heap∧s'.os=s₁.os∧AllBare s'.gens) s₁) :
  WalkO q loose XP YP l.row.toRowW d [] (fun f vs=>T5 f vs):=by
 intro w s₀ s₁ mg mb G Y fa o pm cd doc dV kV ho hd hcd hD hmg hg args vals as hpre hlay hrd hwl hlo
 A6 rfl:dV=.none:=Dflts.none hD hdf
 A6 rfl:kV=.none:=Dflts.noKw hD
 A6⟨a,vs,ns,rfl,rfl,hobj,hints,hlen⟩:=Gm hn hpre hwl
 &enter_call (codeAny_mono (call w s₀ s₁ mg mb fa o pm cd doc a vs ns G Y ho (fd_plain hd) hcd hmg hobj hints hlen (Kv hlay) hg) fun r s' hq=>?_)
 A6⟨rfl,h2,h3,h4⟩:=hq
 ~⟨.inl ⟨.bool true,.bool true,[],rfl,fun _=>rfl,.bool true,Gn l _,fun _=>⟨List.Pairwise.nil,fun _ hm=>(nomatch hm)⟩⟩,h2,h3,h4⟩
A8 Hf{l:T6}{n k:Nat}{q:Program}{loose:List Str}{XP:(Str→Option Value)→Heap→Prop}{YP:World→Heap→Prop}{d:DefRec}{K:Params→aA}{CX:World→Gf}{sp:World→Sp}{x:Str}(hn:l.most=some n)(hn2:n≤sizeLine)(hdf:d.params.defaults=[])(hr:dH k callerA)
  (hY:∀(w:World)(h:Heap),YP w h→(K w.params).In h)
  (F:∀(w:World)(mg:Str→Option Value)(fa:Addr)(h:Heap),(K w.params).In h→h.Ns mainGlobals mg→mg d.name=some (.ref fa)→∃fd:FuncData,(∀(s:Shared)(u:Value),BindsTo s fd ⟨[u],[]⟩ [(x,u)])∧∀base:Heap,(K w.params).In base→base.Ns mainGlobals mg→mK l.prog w (K w.params) mg base (CX w) k fa fd [x] (sp w))
  (hsp:∀(w:World)(H:Hp)(a:Addr)(ns:List Int),ns.length≤n→(∀k∈ns,Small k)→Only H→gW (K w.params) H a (ns.map V.int)→sp w [.ref a] H (fun v _=>v=.bl true) fun _ _ _=>False)
  (JG:∀(w:World)(H:Hp)(s:Shared)(e:Value)(s':Shared),CX w [] H s (fun _ _ _=>False) e s'→False) :
  U1 q loose XP YP l.row.toRowW d [] (fun f vs=>T5 f vs):=by
 &yX hn hdf fun w s₀ s₁ mg mb fa o pm cd doc a vs ns G Y ho hd hcd hmg hobj hints hlen hsm hg=>?_
 have KX:=hY w _ Y
 A6⟨fd,hb,hF⟩:=F w mg fa _ KX G.T.g hmg
 ~Jj KX G.T.g G.T.b G.T.builtins G.T.nolimit hg hobj hints (E7 hlen hn2) hr hF hb (fun H hO hS=>hsp w H a ns hlen hsm hO hS) fun H e s'=>JG w H s₁ e s'
def JT(K:aA):Sp:=fun vs H Q _=>∃(a:Addr)(ns:List Int),vs=[.ref a]∧gW K H a (ns.map V.int)∧ns.length≤63∧(∀k∈ns,Small k)∧∀H',Q (.bl true) H'
A8 Nm.RT{P:Program}{w:World}{K:aA}{mg:Str→Option Value}{base:Heap}{x:Str}{st:Stmt}{N:List Str}{k:Nat}{g:GS}{f:Addr}{fd:FuncData}(F:Nm K x x st f fd)(S:bJ N ["script"] (aH st))
  (hbody:∀(cdv:Value)(A:Around)(outer:List Env)(s:Shared)(H:Hp)(E:XK),dH k (A.deeper (envOfC x (aH st) s.heap.objs.size f cdv))→∃t,YB K (vV Ie P w K mg base N x (aH st) f cdv A outer s H E).Uo (bK st) t g)
  (Ws:∀ns:List Int,ns.length≤63→(∀k∈ns,Small k)→fO N.length 1 g [.lst (ns.map D.int)]=some (.bl true)):mK P w K mg base Ie (k+1) f fd ["script"] (JT K):=by
 &F.ok S (fun vs H Q E h=>?_) (fun cdv A outer s H vs Q E hr h=>?_)
 ·A6⟨a,ns,rfl,_⟩:=h
  rfl
 A6⟨a,ns,rfl,hS,hl,hb,q⟩:=h
 A6⟨t,yb⟩:=hbody cdv A outer s H E hr
 have h3:=Ws ns hl hb
 have rv:bC K H [.lst (ns.map D.int)] [.ref a]:=by
  A7 bC
  ~⟨_,_,rfl,by A7 Rv;~⟨a,_,rfl,hS,fJ.mpr rfl⟩,by A7 bC;rfl⟩
 &⟨t,yb.ps,yb.ev H _ _ H ([D.lst (ns.map D.int)].map SD.fro++E2 (N.length-1) SD.no) (uW rv) ?_⟩
 A7 fO at h3
 rw[if_pos (show [D.lst (ns.map D.int)].length=1 from rfl)]at h3
 cases qq:g ([D.lst (ns.map D.int)].map SD.fro++E2 (N.length-1) SD.no)with
 | ret d'=>
  rw[qq]at h3
  cases h3
  &fun v H' A' s' o=>?_
  have:=Ow.rv _ _ _ o
  A7 Rv at this
  subst this
  ~q _
 | _=>
  rw[qq]at h3
  cases h3
section
variable{K:aA}{X:Cx}{e a b c:Expr}{es:List Expr}{t ta tb te:TE}{f g:FE}{pos:Pos}
def oF(i j:Int):Prop:=Builtin.Int.intBits i≤4000000∧Builtin.Int.intBits j≤4000000
instance (i j:Int):Decidable (oF i j):=by A7 oF;~inferInstance
A8 oF.ok{i j:Int}(h:oF i j):IntMulOk i j:=PyProof.Rows.mulOk_of_bits h.1 h.2 A4
A8 Qo:jQ X (binaryOp .Mult) (rI oF fun i j=>.int (i*j)):=Yv fun _ _ _ _ _ _ _ hc q=>mul_int q hc.ok
def yZ:D→D→Option D:=tQ oF fun i j=>.int (i*j)
A8 Ei(ha:XR K X a ta f)(hb:XR K X b tb g):XN K X (.BinOp a .Mult b pos) (xY (rI oF fun i j=>.int (i*j)) ta tb) (f2 yZ f g):=qT Qo (qQ fun _ _ h=>h) ha hb
variable{lo hi:Option Expr}{tl th:TO}{fl fh:FO}{p2:Pos}
end
end L2


namespace L2
open PySem PySem.Spec PySem.Calls PyProof.Rows PyProof.V
section
variable{K:aA}{X:Cx}
def PN:List D→Option D
 | [.bl c]=>some (.int (if c then 1 else 0))
 | _=>none
end
end L2


namespace L2
open PySem PySem.Spec PySem.Calls PyProof.Rows PyProof.V
section
variable{X:Cx}{pins:List (Addr×Obj)}{σ:St}{H:Hp}{s:Shared}{h':Heap}
end
section
variable{K:aA}{X:Cx}{e a b c:Expr}{es:List Expr}{t ta tb te:TE}{f g fe:FE}{tc:TT}{fc:FT}{pos p p2:Pos}{x:Str}
end
end L2


namespace L2
open PySem PySem.Spec PySem.Calls PyProof.Rows PyProof.V
section
variable{K:aA}{B H:Hp}{env:EN}{σ:St}{i:Nat}{v:V}{d:D}
end
section
variable{K:aA}{X:Cx}{st:Stmt}{sts:List Stmt}{t u tb:TS}{g g1 g2:GS}{e a b c:Expr}{es:List Expr}{te ta t0:TE}{f f0 fa fb:FE}{gk:FE}{tA:TA}{fs:FA}{tc:TT}{fc:FT}{pos:Pos}{i:Nat}{π:FP}
end
end L2


namespace L2
open PySem PySem.Spec PySem.Calls PyProof.Rows PyProof.V
section
variable{α β:Type}{R:α→Fp→β→Prop}
end
section
variable{K:aA}{B H H':Hp}{env:EN}{σ:St}{i:Nat}{v:V}{d:D}
end
def Qp:GS:=fun _=>.bad
A8 Bm{K:aA}{X:Cx}{st:Stmt}:YS K X st Ir Qp:=⟨Iu,fun _ _ _ _ _ _ p=>p.elim⟩
section
variable{K:aA}{X:Cx}{st:Stmt}{sts:List Stmt}{t u tb:TS}{g g1 g2:GS}{e a b c o:Expr}{es:List Expr}{te ta t0 tv:TE}{f f0 fa fb:FE}{gk:FE}{tA:TA}{fs:FA}{tc:TT}{fc:FT}{pos apos:Pos}{i:Nat}{π:FP}
structure RV(K:aA)(C:Addr)(nm:List Str):Prop where
 cl:DY K C
 no:∀f∈nm,Vc K C f
end
section
variable{K:aA}{B H:Hp}{env:EN}{σ:St}
end
section
variable{K:aA}{X:Cx}{st:Stmt}{sts:List Stmt}{t u tb:TS}{g g1 g2:GS}{e a b c o:Expr}{es:List Expr}{te ta t0 tv:TE}{f f0 fa fb:FE}{gk:FE}{tA:TA}{fs:FA}{tc:TT}{fc:FT}{pos apos:Pos}{i:Nat}{π:FP}
end
end L2


namespace L2
open PySem PySem.Spec PySem.Calls PyProof.Rows PyProof.V
section
variable{K:aA}{B H H':Hp}{env:EN}{σ:St}{i:Nat}{p:List Step}{d0 d:D}
def SD.hold:SD→Option (D×(D→SD))
 | .own d=>some (d,.own)
 | .inn v d=>some (d,.inn v)
 | _=>none
end
abbrev GM:=EN→Option (D×EN)
def RW(K:aA)(t:TE)(g:GM):Prop:=∀(B:Hp)(σ:St)(H:Hp)(env:EN)(d:D)(env':EN)(Q:VK),Rel K B env σ H→g env=some (d,env')→(∀v H',Rel K B (env'++[.own d]) (σ++[some v]) H'→Q v H')→t σ H Q
structure XM(K:aA)(X:Cx)(e:Expr)(t:TE)(g:GM):Prop where
 hk:X.K=K
 pe:PE X e t
 ev:RW K t g
abbrev GB:=EN→Option (Bool×EN)
def BR(K:aA)(t:TT)(g:GB):Prop:=∀(B:Hp)(σ:St)(H:Hp)(env:EN)(b:Bool)(env':EN)(Q:Bool→Hp→Prop),Rel K B env σ H→g env=some (b,env')→(∀H',Rel K B env' σ H'→Q b H')→t σ H Q
structure WN(K:aA)(X:Cx)(e:Expr)(t:TT)(g:GB):Prop where
 hk:X.K=K
 pt:PT X e t
 ev:BR K t g
structure WQ(K:aA)(X:Cx)(e:Expr)(t:TT)(g:GB):Prop where
 hk:X.K=K
 pw:PW X e t
 ev:BR K t g
abbrev FA2:=DE→DE→Option (List D)
def JV(K:aA)(t:TA)(fs:FA2):Prop:=∀(A1:Fp)(σ:St)(H:Hp)(eF eZ:DE)(ds:List D)(Q:List V→Hp→Prop),(∀x,A1 x→iC H x)→iG K H eF σ→iG K (out H A1) eZ σ→fs eF eZ=some ds →
 (∀vs H',aD H H'→bC K (out H' A1) ds vs→Q vs H')→t σ H Q
structure WR(K:aA)(X:Cx)(es:List Expr)(t:TA)(fs:FA2):Prop where
 hk:X.K=K
 pa:PA X es t
 ev:JV K t fs
section
variable{K:aA}{X:Cx}{st:Stmt}{sts:List Stmt}{t u tb:TS}{g:GM}{g1 g2:GS}{e a b c o:Expr}{es rest:List Expr}{te ta t0 tv:TE}{f f0 fa fb:FE}{tA:TA}{fs:FA2}{tc td:TT}{fc:FT}{gb gc:GB}{pos apos:Pos}{i:Nat}{π:FP}
structure RX(P:Program)(w:World)(K:aA)(mg:Str→Option Value)(base:Heap)(C:Addr)(m:Str)(k n:Nat)(df:Bool)(sp:Sp):Prop where
 ex:∃f fd ps,ps.length=n∧mK P w K mg base Ie k f fd ps sp∧Binds K fd ps []∧(df=true→Binds K fd ps [Value.none])∧Meth K C m f
structure RZ(P:Program)(w:World)(K:aA)(mg:Str→Option Value)(base:Heap)(x:Str)(C:Addr)(k n:Nat)(sp:Sp):Prop where
 ex:∃f fd ps,ps.length=n∧mK P w K mg base Ie k f fd ps sp∧Binds K fd ps []∧Mk K C f∧mg x=some (.ref C)
end
end L2


namespace L2
open PySem PySem.Spec PySem.Calls PyProof.Rows PyProof.V
def JW(K:aA)(dN:Bool)(dV:Value):Prop:=match dN with
 | false=>dV=.none
 | true=>∃T o n,dV=.ref T∧K.lookup T=some o∧o.data=.seq #[.none] n
structure BV(K:aA)(f:Addr)(m q:Str)(st:Stmt)(dN:Bool):Prop where
 ex:∃(oc:Value)(od:Option Addr)(dV kV doc pm:Value)(an:Option Addr)(cdv ct:Value)(osl:Array (Option Value)),
  K.lookup f=some ⟨oc,od,.func (E9 m q (cB st) (bK st) (aH st) dV kV doc pm an cdv ct),osl⟩∧J7 K cdv q=true∧JW K dN dV
structure SJ(K:aA)(C:Addr)(m q:Str)(st:Stmt)(dN:Bool):Prop where
 ex:∃f,BV K f m q st dN∧Meth K C m f
structure SM(K:aA)(mg:Str→Option Value)(x:Str)(C:Addr)(q:Str)(st:Stmt):Prop where
 ex:∃f,BV K f "__init__" q st false∧Mk K C f∧mg x=some (.ref C)
def HB(x q:Str)(st:Stmt)(ps:List Str):Prop:=∀(kV doc pm:Value)(an:Option Addr)(cdv ct:Value)(us:List Value),us.length=ps.length→bindArgs (E9 x q (cB st) (bK st) (aH st) .none kV doc pm an cdv ct) ⟨us,[]⟩=pure (ps.zip us)
def SN(x q:Str)(st:Stmt)(ps:List Str):Prop:=∀(T:Addr)(kV doc pm:Value)(an:Option Addr)(cdv ct:Value)(us:List Value),(us.length=ps.length→∃k,bindArgs (E9 x q (cB st) (bK st) (aH st) (.ref T) kV doc pm an cdv ct) ⟨us,[]⟩=seqItems? (Value.ref T) >>= k∧k (some #[Value.none])=pure (ps.zip us)) ∧
 (us.length+1=ps.length→∃k,bindArgs (E9 x q (cB st) (bK st) (aH st) (.ref T) kV doc pm an cdv ct) ⟨us,[]⟩=seqItems? (Value.ref T) >>= k∧k (some #[Value.none])=pure (ps.zip (us++[Value.none])))
def WT(dN:Bool)(x q:Str)(st:Stmt)(ps:List Str):Prop:=match dN with
 | false=>HB x q st ps
 | true=>SN x q st ps
section
variable{P:Program}{w:World}{K:aA}{mg:Str→Option Value}{base:Heap}
end
section
variable{K:aA}{X:Cx}{st:Stmt}{g g1 g2 gb:GS}{e a b c o:Expr}{es rest:List Expr}{te ta tb tc t0 tv:TE}{f f0 fa fb fc:FE}{tA:TA}{fs:FA}{pos apos:Pos}{i j:Nat}{π:FP}{PQ:TS}
end
end L2


namespace L2
open PySem PySem.Spec PySem.Calls PyProof.Rows PyProof.V
section
variable{K:aA}{B H:Hp}{env:EN}{σ:St}
end
abbrev FK:=DE→Option (List Key)
def SQ(K:aA)(t:TE)(fk:FK):Prop:=∀(σ:St)(H:Hp)(e:DE)(k:List Key)(Q:VK),iG K H e σ→fk e=some k→(∀b H',aD H H'→H' b=some (.tup (k.map kV))→Q (.ref b) H')→t σ H Q
structure WW(K:aA)(X:Cx)(e:Expr)(t:TE)(fk:FK):Prop where
 hk:X.K=K
 pe:PE X e t
 ev:SQ K t fk
section
variable{K:aA}{X:Cx}{st:Stmt}{e a b c o:Expr}{es rest:List Expr}{te ta tb tc t0 tv:TE}{f fa fb:FE}{g:FK}{gd:FE}{tA:TA}{fs:FA}{pos apos:Pos}{i j:Nat}{π:FP}{PQ:TS}
def JX(K:aA)(t:TA)(fs:FA)(i:Nat):Prop:=∀(σ:St)(H:Hp)(e:DE)(ds:List D)(v:V)(Q:List V→Hp→Prop),iG K H e σ→fs e=some ds→σ[i]?=some (some v)→(∀vs H',aD H H'→tZ K H H' ds vs→Q (vs++[v]) H')→t σ H Q
structure WX(K:aA)(X:Cx)(es:List Expr)(t:TA)(fs:FA)(i:Nat):Prop where
 hk:X.K=K
 pa:PA X es t
 ev:JX K t fs i
end
end L2


namespace L2
open PySem PySem.Spec PySem.Calls PyProof.Rows PyProof.V
section
variable{K:aA}{X:Cx}{st:Stmt}{e a b c o:Expr}{es rest:List Expr}{te ta tb tc t0 tv:TE}{f fa fb g:FE}{gk:FK}{gd:FE}{tA:TA}{fs:FA}{pos apos:Pos}{i j:Nat}{π:FP}{PQ:TS}{gm:GM}
A8 Qq(h:XR K X e te f)(hs:swapsWith e none pos.line X.env=pure false:=by rfl):YS K X (.Expr e pos) (nU te) (rG f):=⟨pG h.pe hs,Ql h.ev⟩
end
end L2
namespace L2
open PySem PySem.Spec PySem.Calls PyProof.Rows PyProof.V
end L2


namespace L2
open PySem PySem.Spec PySem.Calls PyProof.Rows PyProof.V
section
variable{K:aA}{X:Cx}{e stx:Expr}{te ts:TE}{f g:FE}{pos p2:Pos}
end
end L2


namespace L2
open PySem PySem.Spec PySem.Calls PyProof.Rows PyProof.V
abbrev FE2:=DE→DE→Option D
def SX(K:aA)(t:TE)(f:FE2):Prop:=∀{N:Fp}(σ:St)(H Z:Hp)(eF eZ:DE)(d:D)(Q:VK),Zn K N Z H→iG K H eF σ→iG K Z eZ σ→f eF eZ=some d →
 (∀v H' Z',aD H H'→aD Z Z'→Zn K N Z' H'→Rv K Z' d v→Q v H')→t σ H Q
def JZ(K:aA)(t:TA)(f:FA2):Prop:=∀{N:Fp}(σ:St)(H Z:Hp)(eF eZ:DE)(ds:List D)(Q:List V→Hp→Prop),Zn K N Z H→iG K H eF σ→iG K Z eZ σ→f eF eZ=some ds →
 (∀vs H' Z',aD H H'→aD Z Z'→Zn K N Z' H'→bC K Z' ds vs→Q vs H')→t σ H Q
structure XZ(K:aA)(X:Cx)(e:Expr)(t:TE)(f:FE2):Prop where
 hk:X.K=K
 pe:PE X e t
 ev:SX K t f
structure WY(K:aA)(X:Cx)(es:List Expr)(t:TA)(f:FA2):Prop where
 hk:X.K=K
 pa:PA X es t
 ev:JZ K t f
section
variable{K:aA}{X:Cx}{e a b:Expr}{es:List Expr}{te ta tb:TE}{f:FE}{g h:FE2}{tA:TA}{fs:FA2}{pos:Pos}{i:Nat}
end
end L2


namespace L2
open PySem PySem.Spec PySem.Calls PyProof.Rows PyProof.V
inductive Ar where
  | ch (i:Nat) | rd (f:FE) | nw (f:FE)
def FZ:List Ar→List Nat
 | []=>[]
 | .ch i::as=>i::FZ as
 | .rd _::as=>FZ as
 | .nw _::as=>FZ as
def GC:List Ar→DE→DE→Option (List D)
 | [],_,_=>some []
 | .ch _::as,eF,eZ=>GC as eF eZ
 | .rd f::as,eF,eZ=>(f eZ).bind fun d=>(GC as eF eZ).map fun r=>d::r
 | .nw f::as,eF,eZ=>(f eF).bind fun d=>(GC as eF eZ).map fun r=>d::r
def Ej(K:aA)(Z:Hp)(σ:St):List Ar→List D→List V→Prop
 | [],ds,vs=>ds=[]∧vs=[]
 | .ch i::as,ds,vs=>∃v r,vs=v::r∧σ[i]?=some (some v)∧Ej K Z σ as ds r
 | .rd _::as,ds,vs=>∃d dr v r,ds=d::dr∧vs=v::r∧Rv K Z d v∧Ej K Z σ as dr r
 | .nw _::as,ds,vs=>∃d dr v r,ds=d::dr∧vs=v::r∧Rv K Z d v∧Ej K Z σ as dr r
def PX(σ:St):List Nat→List V→Prop
 | [],vs=>vs=[]
 | j::js,vs=>∃v r,vs=v::r∧σ[j]?=some (some v)∧PX σ js r
def rM:List Nat→List D→EN→EN
 | j::js,d::ds,env=>(match env[j]?.bind SD.hold with
  | some db=>(rM js ds (env.set j .no)).set j (db.2 d)
  | none=>env)
 | _,_,env=>env
section
variable{K:aA}{X:Cx}{e:Expr}{es:List Expr}{te:TE}{f:FE}{tA:TA}{as:List Ar}{pos:Pos}{i:Nat}
def KC(K:aA)(t:TA)(as:List Ar):Prop:=∀(A1:Fp)(σ:St)(H:Hp)(eF eZ:DE)(ds:List D)(cv:List V)(Q:List V→Hp→Prop),(∀x,A1 x→iC H x)→iG K H eF σ→iG K (out H A1) eZ σ→PX σ (FZ as) cv→GC as eF eZ=some ds →
 (∀vs H',aD H H'→Ej K (out H' A1) σ as ds vs→Q vs H')→t σ H Q
structure XC(K:aA)(X:Cx)(es:List Expr)(t:TA)(as:List Ar):Prop where
 hk:X.K=K
 pa:PA X es t
 ev:KC K t as
end
section
variable{K:aA}{H H' Z Z' B:Hp}{σ:St}
end
section
variable{K:aA}{X:Cx}{e:Expr}{es:List Expr}{tA:TA}{as:List Ar}{pos pf:Pos}
end
section
variable{P:Program}{w:World}{K:aA}{mg:Str→Option Value}{base:Heap}
end
section
variable{K:aA}{X:Cx}{a b:Expr}{rest:List Expr}{ta tb:TE}{g h:GM}{f:FE}{pos:Pos}
end
end L2


namespace L2
open PySem PySem.Spec PySem.Calls PyProof.Rows PyProof.V
section
variable{prog:Program}{w:World}{A:Around}{R:Result→Shared→Prop}{I:Addr}{fp wr:List Addr}{n:Nat}{P:Nat→Value→Prop}{St:Nat→Heap→Prop}{kw:List (Str×Value)}
end
section
variable{prog:Program}{w:World}{A:Around}{E:Value→Shared→Prop}{s:Shared}
end
section
variable{K:aA}{X:Cx}{e e2:Expr}{te t2:TE}{f g:FE}{x:Str}{p pos kp:Pos}
end
end L2


namespace L2
open PySem PySem.Spec PySem.Calls PyProof.Rows PyProof.V
section
variable{X:Cx}
end
section
variable{K:aA}{X:Cx}{a b e:Expr}{ta tb te:TE}{f g:FE}{i:Nat}{π:FP}{pos apos cpos:Pos}{m:Str}
end
end L2


namespace L2
open PySem PySem.Spec PySem.Calls PyProof.Rows PyProof.V
def Wt(ks:List Key)(vs:List V):List (V×V):=(ks.zip vs).map fun kv=>(kV kv.1,kv.2)
def KD(K:aA)(t:List (TE×TE))(ks:List Key)(is:List Nat)(fs:FA):Prop:=∀(σ:St)(H:Hp)(e:DE)(ds:List D)(xs:List V)(Q:List (V×V)→Hp→Prop),iG K H e σ→fs e=some ds→xs.length=is.length →
 (∀(k i:Nat),is[k]?=some i→∃x,xs[k]?=some x∧σ[i]?=some (some x))→(∀vs H',aD H H'→tZ K H H' ds vs→Q (Wt ks (xs++vs)) H')→Am t σ H Q
structure XD(K:aA)(X:Cx)(p:Pos)(keys:List (Option Expr))(vals:List Expr)(t:List (TE×TE))(ks:List Key)(is:List Nat)(fs:FA):Prop where
 hk:X.K=K
 XF:QQ X p keys vals t
 ev:KD K t ks is fs
section
variable{K:aA}{X:Cx}{st:Stmt}{e:Expr}{vals:List Expr}{keys:List (Option Expr)}{te:TE}{f:FE}{fs:FA}{pos p p1:Pos}{i j:Nat}{t:List (TE×TE)}{ks:List Key}{is:List Nat}{x:Str}
end
section
variable{X:Cx}{K:aA}{x y:Str}{p p2 pos pos2:Pos}{a b:Expr}{t:TA}{fs:FA}
end
end L2


namespace L2
open PySem PySem.Spec PySem.Calls PyProof.Rows PyProof.V
section
variable{K:aA}{X:Cx}{a e:Expr}{ta te:TE}{f:FE}{π:FP}{i:Nat}{m:Str}{apos cpos pos:Pos}
end
end L2


namespace L2
open PySem PySem.Spec PySem.Calls PyProof.Rows PyProof.V
section
variable{K:aA}{X:Cx}{a b e:Expr}{es:List Expr}{ta tb te t:TE}{f g:FE}{tA:TA}{fs:FA}{pos apos cpos p2:Pos}{m:Str}
structure Ek(mg:Str→Option Value)(x:Str)(i:Str):Prop where
 ex:∃t,mg x=some (.str i t)
A8 Kw{K:aA}{h:Heap}{mg:Str→Option Value}{x:Str}{i:Str}{t:Tok}(X:K.In h)(G:h.Ns mainGlobals mg)(a:R6 K mainGlobals x=some (some (.str i t))):Ek mg x i:=⟨t,U0 X G a⟩
A8 BW{x:Str}{i:Str}(G:Ek X.mg x i)(hg:Gl X x)(hd:(x==("__debug__" : Str))=false:=by decide) (hk:X.K=K:=by rfl):XN K X (.Name x pos) (tC (.str i)) (fC (.str i)):=by
 A6⟨t,h⟩:=G.ex
 ~⟨hk,Ny hg h ⟨t,rfl⟩ hd,Jt i⟩
def Tc(i j:Int):Prop:=0<j∧j.natAbs.log2<9000
instance:∀i j,Decidable (Tc i j):=fun i j=>by A7 Tc;~inferInstance
end
section
variable{P:Program}{w:World}{K:aA}{tg:Expr}
end
section
variable{K:aA}{X:Cx}{tg e l:Expr}{t tl:TE}{f:FE}
end
end L2


namespace L2
open PySem PySem.Spec PySem.Calls PyProof.Rows PyProof.V
section
variable{K:aA}{X:Cx}{a b c e:Expr}{ta tb tc te t:TE}{f g fa fb fc:FE}{pos apos cpos:Pos}{m:Str}
end
end L2


namespace L2
open PySem PySem.Spec PySem.Calls PyProof.Rows PyProof.V
section
variable{K:aA}{B H H':Hp}{env:EN}{σ:St}{i j:Nat}{v:V}{d:D}
end
end L2


namespace L2
open PySem PySem.Spec PySem.Calls PyProof.Rows PyProof.V
abbrev BX(h:Heap)(l:List Env):Heap:=S9 h (frs l)
structure Fl(l:List Env)(s1:Shared)(e:Addr)(cls:Value)(s':Shared):Prop where
 XH:∃a0,Heap.FlyingW (BX s1.heap l) l e cls a0 s'.heap
 up:s1.heap.UpToSlots s'.heap
 os:s'.os=s1.os
 bare:AllBare s'.gens
def GD(P:Program)(w:World):Gf:=fun outer H s E ev s'=>∃e cls H' s1,ev=.ref e∧s1.os=s.os∧AllBare s1.gens∧Un (frs outer) [] H H' s.heap s1.heap∧jU P w H' s1.heap∧Fl outer s1 e cls s'∧E cls none H'
section
variable{P:Program}{w:World}{l:List Env}{s1 s':Shared}{e:Addr}{cls:Value}{H:Hp}{base:Heap}
end
section
variable{X:Cx}{pins:List (Addr×Obj)}{σ:St}{H:Hp}{s s1 s':Shared}{e:Addr}{cls ev:Value}{E:XK}
end
section
variable{P:Program}{w:World}{env:Env}{outer:List Env}{L e:Addr}{cls a0:Value}{s0 s1:Shared}{H0 H:Hp}{E:XK}{base h':Heap}{s2:Shared}
end
section
variable{P:Program}{w:World}{K:aA}{mg:Str→Option Value}{base:Heap}{N:List Str}{qual:Str}{scope:Scope}{f:Addr}{cd:Value}{A:Around}{outer:List Env}{s0:Shared}{H0:Hp}{E:XK}
end
end L2


namespace L2
open PySem PySem.Spec PySem.Calls PyProof.Rows PyProof.V
abbrev GZ:=EN→Option Nat
def DZ(K:aA)(κ:Nat→Addr)(E:XK)(t:TS)(z:GZ):Prop:=∀(B:Hp)(D:Ends)(σ:St)(H:Hp)(env:EN)(i:Nat),Rel K B env σ H→z env=some i→(∀H',aD B H'→E (.ref (κ i)) none H')→t D σ H
structure YZ(K:aA)(κ:Nat→Addr)(X:Cx)(E:XK)(st:Stmt)(t:TS)(z:GZ):Prop where
 ps:PS X st t
 ev:DZ K κ E t z
structure XQ(K:aA)(κ:Nat→Addr)(X:Cx)(E:XK)(st:List Stmt)(t:TS)(z:GZ):Prop where
 ps:Af X st t
 ev:DZ K κ E t z
structure TF(P:Program)(w:World)(K:aA)(mg:Str→Option Value)(base:Heap)(x:Str)(k:Nat)(n:Nat)(sp:Sp):Prop where
 ex:∃f fd ps,ps.length=n∧mK P w K mg base (GD P w) k f fd ps sp∧Binds K fd ps []∧G0 K (.ref f)=true∧mg x=some (.ref f)
structure QB(P:Program)(w:World)(K:aA)(mg:Str→Option Value)(base:Heap)(C:Addr)(m:Str)(k n:Nat)(df:Bool)(sp:Sp):Prop where
 ex:∃f fd ps,ps.length=n∧mK P w K mg base (GD P w) k f fd ps sp∧Binds K fd ps []∧(df=true→Binds K fd ps [Value.none])∧Meth K C m f
section
variable{K:aA}{κ:Nat→Addr}{X:Cx}{E:XK}{st:Stmt}{sts rest:List Stmt}{t u:TS}{z z1 z2:GZ}{g:GS}{c e o:Expr}{es:List Expr}{te ta:TE}{tA:TA}{tc:TT}{fc:FT}{f:FE}{fs:FA}{pos apos:Pos}{m:Str}
def TJ(X:Cx)(pins:List (Addr×Obj))(σ:St)(e:Expr)(t:TE):Prop:=∀(s:Shared)(H:Hp)(Q:VK),Inv X pins σ H s→t σ H Q→wpAny (model X.prog X.w) X.A (eval e X.env) (EP X pins σ Q) X.xe s
def TQ(X:Cx)(pins:List (Addr×Obj))(σ:St)(st:Stmt)(t:TS):Prop:=∀(s:Shared)(H:Hp)(D:Ends),Inv X pins σ H s→t D σ H→wpAny (model X.prog X.w) X.A (exec st X.env) (SP X pins D) X.xe s
def Td(CX:Gf)(X:Cx)(pins:List (Addr×Obj))(σ:St)(E:XK):Prop:=∀(H:Hp)(s:Shared)(e:Value)(s':Shared),Inv X pins σ H s→CX X.stack H s E e s'→X.xe e s'
structure XS(K:aA)(κ:Nat→Addr)(X:Cx)(E:XK)(e:Expr)(t:TE)(z:DE→Option Nat):Prop where
 pe:∀(pins:List (Addr×Obj))(σ:St),Td (GD X.prog X.w) X pins σ E→TJ X pins σ e t
 ev:∀(σ:St)(H:Hp)(de:DE)(i:Nat)(Q:VK),iG K H de σ→z de=some i→(∀H',aD H H'→E (.ref (κ i)) none H')→t σ H Q
end
section
variable{P:Program}{w:World}{K:aA}{mg:Str→Option Value}{base:Heap}{κ:Nat→Addr}
end
section
variable{K:aA}{κ:Nat→Addr}{X:Cx}{E:XK}{z:GZ}{g:GS}{pos:Pos}
end
end L2


namespace L2
open PySem PySem.Spec PySem.Calls PyProof.Rows PyProof.V
abbrev BZ:List Value:=[.type "ValueError", .type "Exception", .type "BaseException", .type "object"]
structure XX(K:aA)(mg:Str→Option Value)(x:Str)(C:Addr):Prop where
 mg:mg x=some (.ref C)
 ok:PySem.W.excIn K C BZ "ValueError.__new__" = true
section
variable{P:Program}{w:World}{K:aA}{mg:Str→Option Value}{base:Heap}{N:List Str}{qual:Str}{scope:Scope}{f:Addr}{cd:Value}{A:Around}{outer:List Env}{s0:Shared}{H0:Hp}{E:XK}{κ:Nat→Addr}
 {x:Str} {C:Addr} {np cpos pos:Pos} {e:Expr} {es:List Expr} {tA:TA}
end
abbrev Cx.tr(X:Cx)(pn:List (Addr×Obj))(Ex:Value→Shared→Prop):Cx:={X with pn:=pn,xe:=Ex}
abbrev Cx.hand(X:Cx)(pn:List (Addr×Obj))(e:Addr):Cx:={X with pn:=pn,A:=X.A.mark (some (.ref e)),calm:=false,xe:=fun _ _=>False}
section
variable{X:Cx}{pins Im pn:List (Addr×Obj)}{σ:St}{H:Hp}{s s':Shared}{Ex:Value→Shared→Prop}{e:Addr}{D:Ends}{fl:Flow}
end
abbrev CG:=Nat→Nat→Bool
section
variable{K:aA}{κ:Nat→Addr}{X:Cx}{sub:CG}{n nj:Nat}{z:GZ}{g:GS}{st:Stmt}{pos:Pos}
def TV(k:Nat)(g:GS):GS:=fun env=>if k<env.length then(match g (env.set k .no)with
 | .next env'=>if k<env'.length then .next (env'.set k .no)else .bad
 | _=>.bad)else .bad
structure YE(K:aA)(X:Cx)(k:Nat)(e:Addr)(sts:List Stmt)(t:TS)(g:GS):Prop where
 ps:Af X sts t
 ev:∀(B:Hp)(D:Ends)(σ:St)(H:Hp)(env:EN),Rel K B env σ H→σ[k]?=some (some (.ref e))→Bf K B D (g env)→t D σ H
inductive HK(K:aA)(κ:Nat→Addr)(X:Cx)(n i:Nat):List ExceptHandler→List (Nat×GS)→Prop
 | nil:HK K κ X n i [] []
 | cons {x:Str} {np hp:Pos} {b₀:Stmt} {suite:List Stmt} {rest:List ExceptHandler} {j:Nat} {gh:GS} {r:List (Nat×GS)} (hm:X.mg x=some (.ref (κ j))) (hg:Gl X x) (hd:(x==("__debug__" : Str))=false)
   (hs:∀(pn:List (Addr×Obj))(e:Addr),∃t,YB K (X.hand pn e) (b₀::suite) t gh) (hr:HK K κ X n i rest r):HK K κ X n i (.ExceptHandler (some (.Name x np)) none (b₀::suite) hp::rest) ((j,gh)::r)
 | as {x nm:Str} {np hp:Pos} {b₀:Stmt} {suite:List Stmt} {rest:List ExceptHandler} {j k:Nat} {gh:GS} {r:List (Nat×GS)} (hm:X.mg x=some (.ref (κ j))) (hg:Gl X x) (hd:(x==("__debug__" : Str))=false) (hN:X.N.Nodup) (hk:X.N[k]?=some nm) (hl:X.env.scope.names.lookup nm=some .local)
   (hs:∀(pn:List (Addr×Obj))(e:Addr)(oe:Obj),i<n→oe.cls=.ref (κ i)→(e,oe)∈pn→∃t,YE K (X.hand pn e) k e (b₀::suite) t gh) (hr:HK K κ X n i rest r):HK K κ X n i (.ExceptHandler (some (.Name x np)) (some nm) (b₀::suite) hp::rest) ((j,TV k gh)::r)
structure ZS(K:aA)(κ:Nat→Addr)(X:Cx)(E:XK)(st:Stmt)(t:TS)(z:GZ):Prop where
 ps:∀(pins:List (Addr×Obj))(σ:St),Td (GD X.prog X.w) X pins σ E→TQ X pins σ st t
 ev:∀(B:Hp)(D:Ends)(σ:St)(H:Hp)(env:EN)(i:Nat),Rel K B env σ H→z env=some i→(∀H',aD H H'→E (.ref (κ i)) none H')→t D σ H
end
end L2


namespace L2
open PySem PySem.Spec PySem.Calls PyProof.Rows PyProof.V
section
variable{K:aA}{X:Cx}{κ:Nat→Addr}{pos p:Pos}
structure XE(K:aA)(X:Cx)(k:Nat)(ea:Addr)(e:Expr)(t:TE)(d:D):Prop where
 pe:PE X e t
 ev:∀(σ:St)(H:Hp)(Q:VK),σ[k]?=some (some (.ref ea))→(∀v H',aD H H'→Ag K H H' d v→Q v H')→t σ H Q
end
section
variable{K:aA}{X:Cx}{g:GS}{pos:Pos}
end
end L2


namespace L2
open PySem PySem.Spec PySem.Calls PyProof.Rows PyProof.V
section
variable{K:aA}{X:Cx}{pos p0:Pos}
end
end L2


namespace L2
open PySem PySem.Spec PySem.Calls PyProof.Rows PyProof.V Builtin Builtin.ObjectAttr Builtin.Getset_descriptor
section
variable{P:Program}{w:World}{A:Around}{E:Value→Shared→Prop}{s:Shared}{K:aA}{x D:Addr}{ox:Obj}{od:Option Obj}
structure TX(K:aA)(D:Addr):Prop where
 ga:G4 K (.ref D) "__getattribute__" = some (some (.builtin "BaseException.__getattribute__"))
 gt:G4 K (.ref D) "__getattr__" = some none
 cl:G4 K (.ref D) "__class__" = some (some (.builtin "object.__class__"))
 sp:N4 K (.builtin "object.__class__") "__get__" = some (some (.builtin "getset_descriptor.__get__"))
 tk:T0 K (.builtin "object.__class__")=some true
 mr:T9 K D (.type "object")=some true
 bx:PySem.W.subIn K (.ref D) (.type "BaseException")=some true
 ct:(PySem.W.clsIn K D).isSome=true
end
section
variable{K:aA}{X:Cx}{κ:Nat→Addr}{pos p:Pos}
structure YC(K:aA)(X:Cx)(k:Nat)(ea:Addr)(e:Expr)(t:TE)(f:FE):Prop where
 hk:X.K=K
 pe:PE X e t
 ev:∀(σ:St)(H:Hp)(de:DE)(d:D)(Q:VK),iG K H de σ→σ[k]?=some (some (.ref ea))→f de=some d→(∀v H',aD H H'→Ag K H H' d v→Q v H')→t σ H Q
structure YD(K:aA)(X:Cx)(k:Nat)(ea:Addr)(es:List Expr)(t:TA)(fs:FA):Prop where
 hk:X.K=K
 pa:PA X es t
 ev:∀(σ:St)(H:Hp)(de:DE)(ds:List D)(Q:List V→Hp→Prop),iG K H de σ→σ[k]?=some (some (.ref ea))→fs de=some ds→(∀vs H',aD H H'→tZ K H H' ds vs→Q vs H')→t σ H Q
end
end L2


namespace L2
open PySem PySem.Spec PySem.Calls PyProof.Rows PyProof.V
section
variable{P:Program}{w:World}{K:aA}{mg:Str→Option Value}{base:Heap}{κ:Nat→Addr}
end
section
variable{K:aA}{κ:Nat→Addr}{X:Cx}{E:XK}{pos:Pos}
end
end L2


namespace L2
open PySem PySem.Spec PySem.Calls PyProof.Rows PyProof.V
section
variable{K:aA}{X:Cx}{e:Expr}{t:TE}{f:FE}{pos:Pos}
end
end L2


set_option maxHeartbeats 1000000
namespace L2
open PySem PySem.Spec PySem.Calls PyProof.Rows PyProof.V
section
variable{K:aA}{X:Cx}{e:Expr}{t:TE}{f:FE}{pos p2:Pos}
def CJ(z:Str)(lo hi:Option Int):Prop:=(∀i∈lo.toList,0≤i)∧(∀j∈hi.toList,0≤j)∧HT.oU z.length 0 lo≤HT.oU z.length z.length hi∧z.length≤100000
instance:∀z lo hi,Decidable (CJ z lo hi):=fun z lo hi=>by A7 CJ;~inferInstance
end
end L2


namespace L2
open PySem PySem.Spec PySem.Calls PyProof.Rows PyProof.V
section
variable{K:aA}{X:Cx}{pos:Pos}
variable{κ:Nat→Addr}{sub:CG}{n nj:Nat}
end
end L2


namespace L2
open PySem PySem.Spec PySem.Calls PyProof.Rows PyProof.V
section
variable{K:aA}{X:Cx}
end
end L2


namespace L2
open PySem PySem.Spec PySem.Calls PyProof.Rows PyProof.V
section
variable{K:aA}{X:Cx}{a e0 eM:Expr}{es:List Expr}{t0 tM:TE}{f0:FE}{gM:GM}{tA:TA}{fs:FA}{pos:Pos}{i:Nat}
end
end L2


namespace L2
open PySem PySem.Spec PySem.Calls PyProof.Rows PyProof.V
section
variable{K:aA}{X:Cx}{e1 e2:Expr}{t1 t2 te:TE}{f g fe:FE}{tc:TT}{fc:FT}{pos p p2:Pos}{x:Str}
end
end L2


namespace L2
open PySem PySem.Spec PySem.Calls PyProof.Rows PyProof.V
inductive Ap where
  | ch (i:Nat) (π:FP) | rd (f:FE) | nw (f:FE)
def GF:List Ap→DE→Option (List (Nat×List Step))
 | [],_=>some []
 | .ch i π::as,e=>(π e).bind fun p=>(GF as e).map fun r=>(i,p)::r
 | .rd _::as,e=>GF as e
 | .nw _::as,e=>GF as e
def GJ:List Ap→DE→DE→Option (List D)
 | [],_,_=>some []
 | .ch _ _::as,eF,eZ=>GJ as eF eZ
 | .rd f::as,eF,eZ=>(f eZ).bind fun d=>(GJ as eF eZ).map fun r=>d::r
 | .nw f::as,eF,eZ=>(f eF).bind fun d=>(GJ as eF eZ).map fun r=>d::r
def El(K:aA)(Z:Hp):List Ap→List V→List D→List V→Prop
 | [],cv,ds,vs=>cv=[]∧ds=[]∧vs=[]
 | .ch _ _::as,cv,ds,vs=>∃v cr r,cv=v::cr∧vs=v::r∧El K Z as cr ds r
 | .rd _::as,cv,ds,vs=>∃d dr v r,ds=d::dr∧vs=v::r∧Rv K Z d v∧El K Z as cv dr r
 | .nw _::as,cv,ds,vs=>∃d dr v r,ds=d::dr∧vs=v::r∧Rv K Z d v∧El K Z as cv dr r
def QC(σ:St)(H:Hp):List (Nat×List Step)→List V→Prop
 | [],vs=>vs=[]
 | (j,p)::js,vs=>∃v0 v r,vs=v::r∧σ[j]?=some (some v0)∧Ih H p v0=some v∧QC σ H js r
section
variable{K:aA}{X:Cx}{e:Expr}{es:List Expr}{te:TE}{f:FE}{tA:TA}{as:List Ap}{pos:Pos}{i:Nat}{π:FP}
def KH(K:aA)(t:TA)(as:List Ap):Prop:=∀(A1:Fp)(σ:St)(H:Hp)(eF eZ:DE)(ds:List D)(ps:List (Nat×List Step))(cv:List V)(Q:List V→Hp→Prop),(∀x,A1 x→iC H x)→iG K H eF σ→iG K (out H A1) eZ σ→GF as eF=some ps→QC σ H ps cv→GJ as eF eZ=some ds →
 (∀vs H',aD H H'→El K (out H' A1) as cv ds vs→Q vs H')→t σ H Q
structure YF(K:aA)(X:Cx)(es:List Expr)(t:TA)(as:List Ap):Prop where
 hk:X.K=K
 pa:PA X es t
 ev:KH K t as
end
section
variable{K:aA}{H H' Z Z' B:Hp}{σ:St}
end
section
variable{K:aA}{X:Cx}{e:Expr}{es:List Expr}{tA:TA}{as:List Ap}{pos pf:Pos}
end
section
variable{K:aA}{X:Cx}{a b e:Expr}{ta tb te:TE}{g:FE}{gm:GM}{i:Nat}{π:FP}{pos pos':Pos}
end
end L2


namespace L2
open PySem PySem.Spec PySem.Calls PyProof.Rows PyProof.V
section
variable{K:aA}{te:TE}{f:FE}{i:Nat}{c:Int}
end
end L2


namespace L2
open PySem PySem.Spec PySem.Calls PyProof.Rows PyProof.V HT
section
variable{X:Cx}{K:aA}{e:Expr}{t:TE}{f:FE}{x y:Str}{p p2 pos pos2:Pos}
end
end L2


namespace L2
open PySem PySem.Spec PySem.Calls PyProof.Rows PyProof.V
def CK(base:Heap)(l:List Env)(e:Addr)(cls a0:Value)(h:Heap):Prop:=base.StaysIn h∧base.get? e=none∧h.FunFrames base l∧∃fl,h.TracedAtW base e cls a0 fl
section
variable{M:Model}{A:Around}{E:Value→Shared→Prop}{s:Shared}{base:Heap}{env:Env}{outer l:List Env}{L e:Addr}{cls a0:Value}
end
structure Hl(l:List Env)(s1:Shared)(e:Addr)(cls:Value)(s':Shared):Prop where
 held:∃a0,CK (BX s1.heap l) l e cls a0 s'.heap
 up:s1.heap.UpToSlots s'.heap
 os:s'.os=s1.os
 bare:AllBare s'.gens
section
variable{P:Program}{w:World}{K:aA}{mg:Str→Option Value}{base:Heap}{N:List Str}{qual:Str}{scope:Scope}{f:Addr}{cd:Value}{A:Around}{outer:List Env}{s0:Shared}{H0:Hp}{E:XK}
end
section
variable{X:Cx}{EE:XK}
end
section
variable{K:aA}{κ:Nat→Addr}{X:Cx}{E:XK}
end
section
variable{K:aA}{κ:Nat→Addr}{X:Cx}{E:XK}{a e:Expr}{ta tz:TE}{f:FE}{z:DE→Option Nat}{pos:Pos}
end
end L2


namespace L2
open PySem PySem.Spec PySem.Calls PyProof.Rows PyProof.V
section
variable{K:aA}{te:TE}{f:FE}{tc:TT}{c:FT}{i j:Nat}
end
end L2


namespace L2
open PySem PySem.Spec PySem.Calls PyProof.Rows PyProof.V
section
variable{M:Model}{A:Around}{E:Value→Shared→Prop}{s:Shared}
end
structure Yj(mG scope:Scope)(oN N:List Str)(k:Nat)(fr:List Nat):Prop where
 kind:scope.kind=.function
 loc:∀y∈scope.names,y.2=.local→scope.names.lookup y.1=some .local
 free:∀y∈scope.names,y.2=.free→mG.names.lookup y.1=some .cell∨mG.names.lookup y.1=some .free
 len:N.length=k+fr.length
 slots:∀j∈D6 fr.length,oN[fr.getD j 0]?=N[k+j]?
 from_:∀x∈N.drop k,(x,NameKind.free)∈scope.names∧((cP scope mG).names.lookup x=some .cell∨(cP scope mG).names.lookup x=some .free)
 apart:∀y∈scope.names,y.2=.free→(y.1,NameKind.cell)∉scope.names
def KJ(mG scope:Scope)(oN N:List Str)(k:Nat)(fr:List Nat):Bool:=
 decide (scope.kind=.function)&&decide (∀y∈scope.names,y.2=.local→scope.names.lookup y.1=some .local) &&
 decide (∀y∈scope.names,y.2=.free→mG.names.lookup y.1=some .cell∨mG.names.lookup y.1=some .free)&&decide (N.length=k+fr.length) &&
 decide (∀j∈D6 fr.length,oN[fr.getD j 0]?=N[k+j]?) &&
 decide (∀x∈N.drop k,(x,NameKind.free)∈scope.names∧((cP scope mG).names.lookup x=some .cell∨(cP scope mG).names.lookup x=some .free)) &&
 decide (∀y∈scope.names,y.2=.free→(y.1,NameKind.cell)∉scope.names)
section
variable{X:Cx}
end
section
variable{K:aA}{X:Cx}{tc:TT}{fc:FT}{pos:Pos}
end
end L2


namespace L2
open PySem PySem.Spec PySem.Calls PyProof.Rows PyProof.V
section
variable{prog:Program}{w:World}{A:Around}{E:Value→Shared→Prop}{s:Shared}{it d:Addr}{i ep:Nat}{es:Array DictEntry}{od:Obj}
end
section
variable{X:Cx}
end
end L2


namespace L2
open PySem PySem.Spec PySem.Calls PyProof.Rows PyProof.V
section
variable{K:aA}{B H:Hp}{env:EN}{σ:St}
end
section
variable{K:aA}{t h:Nat}{tb:TS}{tb':Int→TS}{body:Int→GS}
end
section
variable{K:aA}{t h j:Nat}{tA:TA}{fs:FA}
end
section
variable{K:aA}{X:Cx}{t h j c i:Nat}{π:FP}{ta YG:TE}{g:FE}{tA:TA}{fs:FA}{tg o o2 hn cn two a b val:Expr}{es:List Expr}{st1 st2:Stmt}{pos pos' p1 p2 p3 p4:Pos}{x1:Nat}
end
end L2


namespace L2
open PySem PySem.W PyProof.Rows
def fP{α:Type}(N:Nat)(lt:Nat→Nat→Bool):KasT α→(α→Prop)→Prop
 | .ret a,Q=>Q a
 | .ask i j k,Q=>i<N∧j<N∧fP N lt (k (lt i j)) Q
A8 dF{α β:Type}{N:Nat}{lt:Nat→Nat→Bool}{f:α→KasT β}{Q:β→Prop}:∀t:KasT α,fP N lt (t.bind f) Q=fP N lt t fun a=>fP N lt (f a) Q
 | .ret _=>rfl
 | .ask i j k=>by
  show (i<N∧j<N∧fP N lt ((k (lt i j)).bind f) Q)=(i<N∧j<N∧fP N lt (k (lt i j)) _)
  rw[dF (k (lt i j))]
A8 bQ{α:Type}{N:Nat}{lt:Nat→Nat→Bool}{Q Q':α→Prop}(h:∀a,Q a→Q' a):∀t:KasT α,fP N lt t Q→fP N lt t Q'
 | .ret a,q=>h a q
 | .ask i j k,q=>⟨q.1,q.2.1,bQ h (k (lt i j)) q.2.2⟩
A8 Em{α:Type}{N:Nat}{lt:Nat→Nat→Bool}{cmp:Nat→Nat→(Bool→Shared→Prop)→Shared→Prop}{Q:α→Shared→Prop}{s:Shared}(hc:∀i j (C:Bool→Shared→Prop),i<N→j<N→C (lt i j) s→cmp i j C s):∀t:KasT α,fP N lt t (fun a=>Q a s)→t.kasWp cmp Q s
 | .ret a,q=>q
 | .ask i j k,q=>hc i j _ q.1 q.2.1 (Em hc (k (lt i j)) q.2.2)
section
variable{N:Nat}(key:Nat→Int)
A8 wY{p:Array Nat}(h0:0<N)(hb:∀x∈p.toList,x<N)(k:Nat):p.getD k 0<N:=by
 rw[F3]
 cases e:p[k]? with
 | none=>~h0
 | some x=>~hb x (E8 (by rw[L7];~e))
abbrev Bo(i j:Nat):Bool:=decide (key i<key j)
abbrev kA(p:Array Nat)(k:Nat):Int:=key (p.getD k 0)
def Qt(p:Array Nat)(m:Nat):Prop:=∀i j,i≤j→j<m→kA key p i≤kA key p j
A8 iT{p q:Array Nat}{i j:Nat}(h:p[i]?=q[j]?):kA key p i=kA key q j:=by
 A7 kA
 rw[F3,F3,h]
A8 En{p:Array Nat}{m:Nat}(h:∀k,1≤k→k<m→kA key p (k-1)≤kA key p k):Qt key p m:=by
 intro i j hij hj
 induction j with
 | zero=>rw[Nat.le_zero.mp hij];~S3 _
 | succ j ih=>
  rcases G9 i (j+1)with z | z
  ·have a:=ih A0 A0
   have b:=h (j+1) A0 hj
   rw[Nat.add_sub_cancel]at b
   omega
  ·rw[show i=j+1 by omega];~S3 _
A8 Bp{p:Array Nat}(hb:∀k,p.getD k 0<N):∀f n,1≤n→fP N (Bo key) (kas_asc p f n) fun m=>n≤m∧m≤n+f∧(∀k,n≤k→k<m→kA key p (k-1)≤kA key p k)∧(m<n+f→kA key p m<kA key p (m-1))
 | 0,n,_=>⟨B6 _,B6 _,fun k a b=>by omega,fun h=>by omega⟩
 | f+1,n,h1=>by
  &⟨hb _,hb _,?_⟩
  show fP N (Bo key) (if decide (kA key p n<kA key p (n-1))=true then KasT.ret n else kas_asc p f (n+1)) _
  by_cases c:kA key p n<kA key p (n-1)
  ·rw[if_pos (decide_eq_true c)]
   ~⟨B6 _,S7 _ _,fun k a b=>by omega,fun _=>c⟩
  ·rw[if_neg (by rw[decide_eq_false c];~C6)]
   &bQ (fun m h=>?_) _ (Bp hb f (n+1) A0)
   A6⟨a,b,d,e⟩:=h
   &⟨by omega,by omega,fun k hk hm=>?_,fun q=>e A0⟩
   rcases G9 n k with z | z
   ·~d k z hm
   ·rw[show k=n by omega];omega
A8 Eo{p:Array Nat}(hb:∀k,p.getD k 0<N)(hd:∀i j,i<p.size→j<p.size→i≠j→kA key p i≠kA key p j):∀f n,1≤n→n+f≤p.size→fP N (Bo key) (kas_desc f p n 0) fun r=>r.1=p∧r.2.2=0∧n≤r.2.1∧r.2.1≤n+f∧∀k,n≤k→k<r.2.1→kA key p k<kA key p (k-1)
 | 0,n,_,_=>⟨rfl,rfl,B6 _,B6 _,fun k a b=>by dsimp only at b;omega⟩
 | f+1,n,h1,h2=>by
  A7 kas_desc
  &⟨hb _,hb _,?_⟩
  show fP N (Bo key) (if decide (kA key p n<kA key p (n-1))=true then(if 0 > 0 then kas_desc f (kas_rev p (n-(0+1)) n) (n+1) 0 else kas_desc f p (n+1) 0)else KasT.ask (p.getD (n-1) 0) (p.getD n 0) fun d=>if d=true then .ret (p,n,0)else kas_desc f p (n+1) (0+1)) _
  by_cases c:kA key p n<kA key p (n-1)
  ·rw[if_pos (decide_eq_true c),if_neg A0]
   &bQ (fun r h=>?_) _ (Eo hb hd f (n+1) A0 A0)
   A6⟨a,b,d,e,g⟩:=h
   &⟨a,b,by omega,by omega,fun k hk hm=>?_⟩
   rcases G9 n k with z | z
   ·~g k z hm
   ·rw[show k=n by omega];~c
  ·rw[if_neg (by rw[decide_eq_false c];~C6)]
   &⟨hb _,hb _,?_⟩
   show fP N (Bo key) (if decide (kA key p (n-1)<kA key p n)=true then KasT.ret (p,n,0)else kas_desc f p (n+1) (0+1)) _
   have ne:=hd (n-1) n A0 A0 A0
   rw[if_pos (decide_eq_true A0)]
   ~⟨rfl,rfl,B6 _,S7 _ _,fun k a b=>by dsimp only at b;omega⟩
A8 Ky{p:Array Nat}{m k:Nat}(hm:m≤p.size):(kas_rev p 0 m)[k]?=if k<m then p[m-1-k]? else p[k]?:=by
 A7 kas_rev
 rw[getElem?_mirror_all hm]
 by_cases c:k<m
 ·rw[if_pos ⟨F9 _,c⟩,if_pos c,M5]
 ·rw[if_neg (fun z=>c z.2),if_neg c]
A8 Kz{p:Array Nat}(h0:0<N)(hx:∀x∈p.toList,x<N)(h1:1≤p.size)(hd:∀i j,i<p.size→j<p.size→i≠j→kA key p i≠kA key p j):fP N (Bo key) (kas_count p.size p) fun r=>r.2.Perm p∧1≤r.1∧r.1≤p.size∧Qt key r.2 r.1:=by
 have hb:=wY h0 hx
 A7 kas_count
 rw[dF]
 &bQ (fun n h=>?_) _ (Bp key hb (p.size-1) 1 (B6 _))
 A6⟨a,b,c,d⟩:=h
 have hs:Qt key p n:=En key fun k x y=>c k x y
 by_cases e:(n==p.size)=true
 ·rw[if_pos e]
  ~⟨P2 _,a,by omega,hs⟩
 ·rw[if_neg e]
  have ne:n≠p.size:=fun z=>e (by rw[z];~beq_self_eq_true _)
  by_cases g:n > 1
  ·rw[if_pos g]
   have hl:=hs 0 (n-1) A0 A0
   have hn:=hd 0 (n-1) A0 A0 A0
   &⟨hb _,hb _,?_⟩
   show fP N (Bo key) (if decide (kA key p 0<kA key p (n-1))=true then KasT.ret (n,p)else kas_descPart n p.size (kas_rev p 0 n)) _
   rw[if_pos (decide_eq_true A0)]
   ~⟨P2 _,a,by omega,hs⟩
  ·rw[if_neg g]
   A6 rfl:n=1:=by omega
   have hdn:=d A0
   A7 kas_descPart
   rw[dF]
   &bQ (fun r h=>?_) _ (Eo key hb hd (p.size-(1+1)) (1+1) A0 A0)
   A6⟨q,m,z⟩:=r
   A6⟨e1,e2,m1,m2,m3⟩:=h
   dsimp only at e1 e2 m1 m2 m3 ⊢
   subst e1 e2
   rw[if_neg A0]
   A7 kas_tail3
   rw[dF]
   &bQ (fun n' h=>?_) _ (Bp key (p:=kas_rev q 0 m) (wY h0 fun x z=>hx x ((mirror_perm q 0 m ((m-0)/2)).toList.mem_iff.mp z)) (q.size-m) m A0)
   A6⟨a',b',c',_⟩:=h
   have hm:m≤q.size:=by omega
   &⟨mirror_perm _ _ _ _,by omega,by omega,En key fun k x y=>?_⟩
   rcases G9 k m with w | w
   ·rw[iT key (show (kas_rev q 0 m)[k-1]?=q[m-1-(k-1)]? by rw[Ky hm,if_pos A0]),iT key (show (kas_rev q 0 m)[k]?=q[m-1-k]? by rw[Ky hm,if_pos w])]
    have hh:kA key q (m-1-(k-1))<kA key q (m-1-(k-1)-1):=by
     rcases G9 (m-1-(k-1)) 2 with v | v
     ·rw[show m-1-(k-1)=1 by omega];~hdn
     ·~m3 _ v A0
    rw[show m-1-(k-1)-1=m-1-k by omega]at hh
    omega
   ·~c' k w y
A8 rN{p:Array Nat}{k:Nat}(hb:∀k,p.getD k 0<N)(hs:Qt key p k):∀f l r,l≤r→r≤k→r-l≤f→(∀j,j<l→kA key p j≤kA key p k)→(∀j,r≤j→j<k→kA key p k<kA key p j)→fP N (Bo key) (kas_place p k f l r) fun m=>m≤k∧(∀j,j<m→kA key p j≤kA key p k)∧∀j,m≤j→j<k→kA key p k<kA key p j
 | 0,l,r,h1,h2,h3,h4,h5=>⟨by omega,h4,fun j a b=>h5 j A0 b⟩
 | f+1,l,r,h1,h2,h3,h4,h5=>by
  A7 kas_place
  by_cases c:l≥r
  ·rw[if_pos c]
   ~⟨by omega,h4,fun j a b=>h5 j A0 b⟩
  ·rw[if_neg c]
   &⟨hb _,hb _,?_⟩
   show fP N (Bo key) (if decide (kA key p k<kA key p ((l+r)/2))=true then kas_place p k f l ((l+r)/2)else kas_place p k f ((l+r)/2+1) r) _
   by_cases d:kA key p k<kA key p ((l+r)/2)
   ·rw[if_pos (decide_eq_true d)]
    &rN hb hs f l ((l+r)/2) A0 A0 A0 h4 fun j a b=>?_
    have:=hs ((l+r)/2) j a b
    omega
   ·rw[if_neg (by rw[decide_eq_false d];~C6)]
    &rN hb hs f ((l+r)/2+1) r A0 h2 A0 (fun j a=>?_) h5
    have:=hs j ((l+r)/2) A0 A0
    omega
A8 La(h0:0<N):∀f (p:Array Nat) k,(∀x∈p.toList,x<N)→k+f=p.size→Qt key p k→fP N (Bo key) (kas_bin f p k) fun p'=>p'.Perm p∧Qt key p' p.size
 | 0,p,k,hx,h1,h2=>⟨P2 _,by rw[←h1];~h2⟩
 | f+1,p,k,hx,h1,h2=>by
  A7 kas_bin
  rw[dF]
  &bQ (fun l h=>?_) _ (rN key (wY h0 hx) h2 k 0 k (F9 _) (B6 _) (B6 _) (fun j a=>by omega) fun j a b=>by omega)
  A6⟨a,b,c⟩:=h
  have hk:k<p.size:=by omega
  have hat:=fun j=>getElem?_bubble hk (k-l) A0 j
  rw[show k-(k-l)=l by omega]at hat
  have hs:Qt key (bubble p k (k-l)) (k+1):=by
   have at1:kA key (bubble p k (k-l)) l=kA key p k:=iT key (by rw[hat,if_pos rfl])
   have at2:∀j,l<j→j≤k→kA key (bubble p k (k-l)) j=kA key p (j-1):=fun j x y=>iT key (by rw[hat,if_neg A0,if_pos ⟨x,y⟩])
   have QD:∀j,j<l→kA key (bubble p k (k-l)) j=kA key p j:=fun j x=>iT key (by rw[hat,if_neg A0,if_neg A0])
   intro i j hij hj
   rcases N8 i l with x | x | x
   ·rw[QD i x]
    rcases N8 j l with y | y | y
    ·rw[QD j y];~h2 i j hij A0
    ·rw[y,at1];~b i x
    ·rw[at2 j y A0];~h2 i (j-1) A0 A0
   ·rw[x,at1]
    rcases N8 j l with y | y | y
    ·omega
    ·rw[y,at1];~S3 _
    ·rw[at2 j y A0];~Int.le_of_lt (c (j-1) A0 A0)
   ·rw[at2 i x A0,at2 j A0 A0]
    ~h2 (i-1) (j-1) A0 A0
  have hz:(bubble p k (k-l)).size=p.size:=bubble_size _ _ _
  &bQ (fun p' h=>?_) _ (La h0 f (bubble p k (k-l)) (k+1) (fun x z=>hx x ((bubble_perm p k (k-l)).toList.mem_iff.mp z)) A0 hs)
  ~⟨h.1.trans (bubble_perm _ _ _),by rw[←hz];~h.2⟩
A8 Qu{n:Nat}(h1:1≤n)(hk:∀i j,i<n→j<n→i≠j→key i≠key j):fP n (Bo key) (kas_sort n) fun p=>p.toList.Perm (D6 n)∧Qt key p n:=by
 have hz:(O3 (D6 n)).size=n:=by rw[B0,G6]
 have hg:∀i,i<n→(O3 (D6 n)).getD i 0=i:=fun i hi=>by
  rw[F3,Q1,R0 hi]
  rfl
 have hc:=Kz (N:=n) key (p:=O3 (D6 n)) h1 (fun x hx=>by simpa using hx) A0 fun i j hi hj hne=>by
  A7 kA
  rw[hg i A0,hg j A0]
  ~hk i j A0 A0 hne
 A7 kas_sort
 rw[dF]
 rw[hz]at hc
 &bQ (fun r h=>?_) _ hc
 A6⟨m,q⟩:=r
 A6⟨a,b,c,d⟩:=h
 dsimp only at a b c d ⊢
 have hq:q.size=n:=a.size_eq.trans hz
 have hp:q.toList.Perm (D6 n):=by
  have:=a.toList
  simpa using this
 by_cases e:m<n
 ·rw[if_pos e,show max m 1=m by omega]
  &bQ (fun p' h=>?_) _ (La key h1 (n-m) q m (fun x hx=>by simpa using hp.mem_iff.mp hx) A0 d)
  ~⟨h.1.toList.trans hp,by rw[←hq];~h.2⟩
 ·rw[if_neg e]
  A6 rfl:m=n:=by omega
  ~⟨hp,d⟩
end
end L2


namespace L2
open PySem PySem.W PySem.Spec PyProof.Rows
def mH(h:Heap):List Value→List (Int×Int)→Prop
 | [],ps=>ps=[]
 | v::vs,ps=>∃p qs,ps=p::qs∧(∃a t u,v=.ref a∧IsTup h a #[.int p.1 t,.int p.2 u])∧mH h vs qs
A8 mH.length{h:Heap}:∀{vs:List Value} {ps:List (Int×Int)},mH h vs ps→vs.length=ps.length
 | [],ps,x=>by A7 mH at x;rw[x];rfl
 | v::vs,ps,x=>by
  A7 mH at x
  A6⟨p,qs,rfl,_,r⟩:=x
  rw[F0,F0,r.length]
A8 mH.at_{h:Heap}:∀{vs:List Value} {ps:List (Int×Int)} {i:Nat},mH h vs ps→i<vs.length→∃a t u,vs.getD i .none=.ref a∧IsTup h a #[.int (ps.getD i (0,0)).1 t,.int (ps.getD i (0,0)).2 u]
 | [],ps,i,_,hi=>by simp at hi
 | v::vs,ps,0,x,_=>by
  A7 mH at x
  A6⟨p,qs,rfl,⟨a,t,u,rfl,y⟩,_⟩:=x
  ~⟨a,t,u,rfl,y⟩
 | v::vs,ps,i+1,x,hi=>by
  A7 mH at x
  A6⟨p,qs,rfl,_,r⟩:=x
  A6⟨a,t,u,e,y⟩:=r.at_ (i:=i) (by simpa using hi)
  ~⟨a,t,u,e,y⟩
A8 mH.keeps{h h':Heap}:∀{vs:List Value} {ps:List (Int×Int)},mH h vs ps→(∀a o,h.get? a=some o→o.cls=.type "tuple" → h'.get? a=some o)→mH h' vs ps
 | [],ps,x,_=>by A7 mH at x ⊢;~x
 | v::vs,ps,x,k=>by
  A7 mH at x ⊢
  A6⟨p,qs,e,⟨a,t,u,e2,o,ho,hc,hd⟩,r⟩:=x
  ~⟨p,qs,e,⟨a,t,u,e2,o,k a o ho hc,hc,hd⟩,r.keeps k⟩
A8 mH.tups{h:Heap}:∀{vs:List Value} {ps:List (Int×Int)},mH h vs ps→∃fs,KatTups h vs fs∧fs.length=vs.length∧∀v∈fs,∃i t,v=Value.int i t
 | [],ps,x=>⟨[],KatTups.nil,rfl,fun v hv=>by cases hv⟩
 | v::vs,ps,x=>by
  A7 mH at x
  A6⟨p,qs,e,⟨a,t,u,rfl,o,ho,hc,n,hd⟩,r⟩:=x
  A6⟨fs,k,l,m⟩:=r.tups
  &⟨.int p.1 t::fs,KatTups.cons ho hc hd rfl k,by rw[F0,F0,l],fun w hw=>?_⟩
  rcases E3.mp hw with z | z
  ·~⟨_,_,z⟩
  ·~m w z
section
variable{prog:Program}{w:World}{A:Around}{E:Value→Shared→Prop}{s:Shared}{vs:List Value}{ps:List (Int×Int)}
abbrev tR(ps:List (Int×Int))(i:Nat):Int:=(ps.getD i (0,0)).1
A8 Wu{i j:Nat}{C:Bool→Shared→Prop}(hp:mH s.heap vs ps)(hk:∀i j,i<vs.length→j<vs.length→i≠j→tR ps i≠tR ps j)(hi:i<vs.length)(hj:j<vs.length)(h:C (Bo (tR ps) i j) s) :
  kas_ask prog w A (tuples' true) vs i j C s:=by
 A6⟨a,t,u,e1,o1,ho1,hc1,n1,hd1⟩:=hp.at_ hi
 A6⟨b,t',u',e2,o2,ho2,hc2,n2,hd2⟩:=hp.at_ hj
 A7 kas_ask
 rw[e1,e2]
 &kat_lt ho1 hd1 ho2 hd2 ?_
 &kat_cons (wpAny_eqBool_int ?_)
 by_cases c:i=j
 ·subst c
  rw[beq_self_eq_true]
  &kat_yes (kat_cons (wpAny_eqBool_int ?_))
  rw[beq_self_eq_true]
  &kat_yes (kat_nil ?_)
  have e:Bo (tR ps) i i=decide ((#[Value.int (ps.getD i (0,0)).1 t,Value.int (ps.getD i (0,0)).2 u]:Array Value).size<(#[Value.int (ps.getD i (0,0)).1 t',Value.int (ps.getD i (0,0)).2 u']:Array Value).size):=by
   A7 Bo
   rw[decide_eq_false (Int.lt_irrefl _)]
   rfl
  rw[←e]
  ~h
 ·have ne:=hk i j hi hj c
  rw[beq_eq_false_iff_ne.mpr ne]
  ~kat_no (oneLt_int h)
A8 Qv(vs:List Value):(arrOf (SortSt.mk' general' (vs.toArray.zip vs.toArray) #[] 7 none)).map (·.2)=((D6 vs.length).map fun i=>vs.getD i Value.none).toArray:=by
 have hz:(vs.toArray.zip vs.toArray).size=vs.length:=by rw[Array.size_zip,B0,O2]
 have e:=kas_range (vs.toArray.zip vs.toArray)
 rw[hz]at e
 have h:=kat_snds (ks:=vs) (vs:=vs) rfl (st:=SortSt.mk' general' (vs.toArray.zip vs.toArray) #[] 7 none) (p:=O3 (D6 vs.length)) e.symm
 ~h
A8 jX{a:Addr}{n:Nat}{P:PySem.Fin→Shared→Prop}(ho:s.heap.get? a=some (seqObj "list" vs.toArray n)) (hp:mH s.heap vs ps) (hk:∀i j,i<vs.length→j<vs.length→i≠j→tR ps i≠tR ps j) (h64:vs.length<64)
  (h:∀p:List Nat,p.Perm (D6 vs.length)→(p.map (tR ps)).Pairwise (·≤·)→P (.done (.ret .none)) {s with heap:=sortedHeap s.heap a vs (p.map fun i=>vs.getD i Value.none).toArray}) :
  wpAny (model prog w) A (Builtin.«list.sort» ⟨[.ref a],[]⟩) P E s:=by
 rw[list_sort_plain]
 have ha:a<s.heap.objs.size:=Heap.lt_size ho
 &wpAny_bind (listItems_at ho rfl ?_)
 &wpAny_bind (listUpdate_at ho rfl ?_ (by rw[B0,sizeLine_eq];omega) (F9 _))
 A6⟨e1,ho1⟩:∃e1,(s.heap.update a (Obj.mapSeq fun _=>(#[]:Array Value))).get? a=some (seqObj "list" #[] e1):=⟨_,get?_update_seq ho (fun _=>#[])⟩
 &wpAny_bind (seqEpoch_at ho1 rfl ?_)
 &wpAny_bind (wpAny_newTuple ?_ (by show vs.length≤_;rw[sizeLine_eq];omega))
 &wpAny_bind (wpAny_newList ?_ (F9 _))
 &wpAny_holding ?_
 have ho6:(((s.heap.update a (Obj.mapSeq fun _=>(#[]:Array Value))).push (seqObj "tuple" vs.toArray 0)).push (seqObj "list" #[] 0)).get? a=some (seqObj "list" #[] e1):=by
  rw[Heap.get?_push_ne _ _ _ (by rw[size_push',Heap.size_update];~C3 (F5 ha)),Heap.get?_push_ne _ _ _ (by rw[Heap.size_update];~C3 ha)]
  ~ho1
 have QF:mH (((s.heap.update a (Obj.mapSeq fun _=>(#[]:Array Value))).push (seqObj "tuple" vs.toArray 0)).push (seqObj "list" #[] 0)) vs ps:=hp.keeps fun b o e c=>by
  have ne:b≠a:=fun z=>by
   subst z
   rw[ho]at e
   cases e
   ~absurd (show Value.type "list" = Value.type "tuple" from c) A4
  ~Heap.get?_push_of_some _ (Heap.get?_push_of_some _ ((Heap.get?_update_ne _ _ _ _ ne).trans e))
 show wpAny (model prog w) A _ P E {s with heap:=((s.heap.update a (Obj.mapSeq fun _=>(#[]:Array Value))).push (seqObj "tuple" vs.toArray 0)).push (seqObj "list" #[] 0)}
 dsimp only
 by_cases h2:vs.toArray.size<2
 ·rw[if_pos h2,if_pos h2]
  have h2':vs.length<2:=by rw[B0]at h2;~h2
  have hout:=Qv vs
  &wpAny_bind (wpAny_pure ?_)
  rw[StateT.run_pure]
  &wpAny_bind (wpAny_pure ?_)
  dsimp only
  rw[hout]
  &wpAny_bind (seqEpoch_at ho6 rfl ?_)
  &wpAny_bind (listUpdate_at ho6 rfl ?_ (F9 _) (by rw[B0,B4,G6,sizeLine_eq];omega))
  simp only[bne_self_eq_false,N0,if_false]
  &wpAny_pure (h (D6 vs.length) (Q2 _) ?_)
  rw[J2,K5]
  intro i j hi hj hij
  rw[G6]at hi hj
  omega
 ·rw[if_neg h2,if_neg h2]
  have h2':2≤vs.length:=by rw[B0]at h2;omega
  A6⟨fs,hf1,hf2,TY⟩:=QF.tups
  &wpAny_bind (kat_kind (T:=.type "int") hf1 A0 (fun v hv=>?_) rfl ?_)
  ·A6⟨i,t,rfl⟩:=TY v hv
   ~Looks.of_pure rfl
  show wpAny _ _ (sortRuns'.run (SortSt.mk' (tuples' true) (vs.toArray.zip vs.toArray) #[] 7 none) >>= _) _ _ _
  &wpAny_bind (wpAny_mono (kat_run (E:=E) (Q:=fun st' s'=>∃p:Array Nat,p.size=vs.length∧arrOf st'=p.map (kas_item (vs.toArray.zip vs.toArray))∧failedOf st'=none∧(s'={s with heap:=((s.heap.update a (Obj.mapSeq fun _=>(#[]:Array Value))).push (seqObj "tuple" vs.toArray 0)).push (seqObj "list" #[] 0)}∧p.toList.Perm (D6 vs.length)∧Qt (tR ps) p vs.length))
   rfl h2' h64 (fun p' st' s' a1 a2 a3 a4=>⟨p',a1,a2,a3,a4⟩) (Em (lt:=Bo (tR ps)) (N:=vs.length) (fun i j C hi hj q=>Wu QF hk hi hj q) _ (bQ (fun p q=>⟨rfl,q.1,q.2⟩) _ (Qu (tR ps) A0 hk)))) ?_ fun _ _ e=>e)
  rintro⟨⟨⟩,st'⟩ s' ⟨p,hz,har,hf,rfl,hpm,hs⟩
  dsimp only
  have hout:=kat_snds rfl har
  rw[hout]
  &wpAny_bind (seqEpoch_at ho6 rfl ?_)
  &wpAny_bind (listUpdate_at ho6 rfl ?_ (F9 _) (by rw[B0,B4,K2,hz,sizeLine_eq];omega))
  rw[hf]
  simp only[bne_self_eq_false,N0,if_false]
  &wpAny_pure (h p.toList hpm ?_)
  rw[J2,K5]
  intro i j hi hj hij
  have:=hs i j A0 (by rw[K2,hz]at hj;~hj)
  A7 kA at this
  rw[F3,F3,←L7,←L7,A9 hi,A9 hj]at this
  ~this
end
end L2


namespace L2
open PySem PySem.W PySem.Spec PyProof.Rows
section
variable{X:Cx}{pins:List (Addr×Obj)}{σ:List (Option V)}{H H':Hp}{s:Shared}{h':Heap}
A8 Inv.more{t':Nat}(I:Inv X pins σ H s)(k:∀b u,s.heap.get? b=some u→h'.get? b=some u)(ho:∀b,b<s.heap.objs.size→H' b=H b)(new:∀b o,s.heap.objs.size≤b→H' b=some o→bN X.prog X.w H' h' b o):Inv X pins σ H' {s with heap:=h',toks:=t'}:=by
 have st:∀{b:Addr} {o:HO},H b=some o→H' b=some o:=fun{b o} e=>by rw[ho b (I.hok.lt e)];~e
 &I.un ⟨fun b o e _ _ _=>k b o e,fun b o e _ _ _=>⟨o.slots,k b o e⟩,fun b o e n _=>by rw[ho b (Heap.lt_size e)];~n,fun b o e _=>⟨o,k b o e⟩,fun b xs e=>st e,fun b o u e=>st e,fun b ps e=>⟨#[],by rw[st e];simp⟩⟩ fun b o e=>?_
 rcases G9 b s.heap.objs.size with z | z
 ·rw[ho b z]at e
  ~(I.hok b o e).stay (fun c v _ q=>k c v q) (fun c q=>st q) fun c xs q=>st q
 ·~new b o z e
end
abbrev pD(p:Int×Int):D:=.tup [.int p.1,.int p.2]
def jY:List D→Option (List (Int×Int))
 | []=>some []
 | .tup [.int a,.int b]::ds=>(jY ds).map ((a,b)::·)
 | _=>none
A8 kZ:∀{ds:List D} {ps:List (Int×Int)},jY ds=some ps→ds=ps.map pD
 | [],ps,h=>by A7 jY at h;cases h;rfl
 | d::ds,ps,h=>by
  A7 jY at h
  split at h
  ·rename_i e;cases e
  ·rename_i e
   cases e
   A6⟨qs,q1,rfl⟩:=cR h
   rw[kZ q1]
   rfl
  ·cases h
A8 fQ:∀ps:List (Int×Int),D.bM (ps.map pD)=true
 | []=>rfl
 | p::ps=>by
  rw[B3]
  A7 D.bM
  rw[fQ ps]
  rfl
def bA(ps:List (Int×Int)):List (Int×Int):=ps.mergeSort fun a b=>decide (a.1≤b.1)
A8 cU(ps:List (Int×Int)):(bA ps).Perm ps:=List.mergeSort_perm _ _
A8 rO(ps:List (Int×Int)):((bA ps).map (·.1)).Pairwise (·≤·):=by
 have h:=List.pairwise_mergeSort (le:=fun a b:Int×Int=>decide (a.1≤b.1)) (fun a b c h1 h2=>decide_eq_true (Int.le_trans (of_decide_eq_true h1) (of_decide_eq_true h2))) (fun a b=>by
  rw[Bool.or_eq_true,decide_eq_true_iff,decide_eq_true_iff];~Int.le_total _ _) ps
 rw[J2]
 ~h.imp fun h=>of_decide_eq_true h
A8 Ep:∀{l m:List (Int×Int)},(l.map (·.1)).Pairwise (·≤·)→(m.map (·.1)).Pairwise (·≤·)→(l.map (·.1)).Nodup→l.Perm m→l=m
  | [],m,_,_,_,p=>(List.Perm.nil_eq p)
  | a::l,[],_,_,_,p=>absurd p.symm (by simp)
  | a::l,b::m,h1,h2,hn,p=>by
    rw[B3]at h1 h2 hn
    A6⟨UG,UJ⟩:=R7.mp h1
    A6⟨UL,UT⟩:=R7.mp h2
    A6⟨n1,n2⟩:=G1.mp hn
    have e:a=b:=by
      have q1:a∈b::m:=p.mem_iff.mp C9
      have q2:b∈a::l:=p.mem_iff.mpr C9
      rcases E3.mp q1 with q1 | q1
      · ~q1
      · rcases E3.mp q2 with q2 | q2
        · ~q2.symm
        · have x:=UG b.1 (D8.mpr ⟨b,q2,rfl⟩)
          have y:=UL a.1 (D8.mpr ⟨a,q1,rfl⟩)
          have z:a.1=b.1:=by omega
          ~absurd (D8.mpr ⟨b,q2,z.symm⟩) n1
    subst e
    rw[Ep UJ UT n2 (List.Perm.cons_inv p)]
A8 oG{ps:List (Int×Int)}(h:(ps.map (·.1)).Nodup):((bA ps).map (·.1)).Nodup:=((cU ps).map _).nodup_iff.mpr h
A8 rP{ps qs:List (Int×Int)}(hn:(ps.map (·.1)).Nodup)(hp:qs.Perm ps)(hs:(qs.map (·.1)).Pairwise (·≤·)):qs=bA ps:=Ep hs (rO ps) ((hp.map _).nodup_iff.mpr hn) (hp.trans (cU ps).symm)
A8 Bq{α:Type}{ps:List α}{d:α}:(D6 ps.length).map (fun i=>ps.getD i d)=ps:=by
 apply N7
 intro i
 rw[C4]
 rcases G9 i ps.length with z | z
 ·rw[R0 z,A9 z]
  show some (ps.getD i d)=_
  rw[B7,A9 z]
  rfl
 ·rw[F7 (by rw[G6];~z),F7 z]
  rfl
A8 rQ{ps:List (Int×Int)}{q:List Nat}(hn:(ps.map (·.1)).Nodup)(hq:q.Perm (D6 ps.length))(hs:(q.map (tR ps)).Pairwise (·≤·)):q.map (fun i=>ps.getD i (0,0))=bA ps:=by
 &rP hn ?_ ?_
 ·have:=hq.map fun i=>ps.getD i (0,0)
  rw[Bq]at this
  ~this
 ·rw[I0]
  ~hs
A8 nC{ps:List (Int×Int)}{n:Nat}(hn:(ps.map (·.1)).Nodup)(hl:n=ps.length):∀i j,i<n→j<n→i≠j→tR ps i≠tR ps j:=fun i j hi hj ne e=>by
 subst hl
 A7 tR at e
 rw[B7,B7,A9 hi,A9 hj]at e
 have:=(J1.mp hn)
 rw[J2,K5]at this
 rcases Nat.lt_or_gt_of_ne ne with z | z
 ·~this i j hi hj z e
 ·~this j i hj hi z e.symm
section
variable{K:aA}{X:Cx}{pins:List (Addr×Obj)}{σ:St}{H:Hp}{s:Shared}
A8 rR(I:Inv X pins σ H s):∀{ps:List (Int×Int)} {zs:List V} {us:List Value},bC X.K H (ps.map pD) zs→Vals zs us→mH s.heap us ps
 | [],zs,us,r,v=>by
  rw[D4]at r
  A7 bC at r
  subst r
  cases v
  A7 mH
  rfl
 | p::ps,zs,us,r,v=>by
  rw[B3]at r
  A7 bC at r
  A6⟨y,ys,rfl,r1,r2⟩:=r
  cases v with
  | cons v1 v2=>
   A7 mH
   &⟨p,ps,rfl,?_,rR I r2 v2⟩
   A7 Rv at r1
   A6⟨a,xs,rfl,ht,hx⟩:=r1
   cases v1
   A6⟨its,w1,w2,_⟩:=I.tuple ht
   have e:xs=[.int p.1,.int p.2]:=by
    A7 bC at hx
    A6⟨y1,YH,rfl,a1,a2⟩:=hx
    A7 bC at a2
    A6⟨y2,YJ,rfl,b1,b2⟩:=a2
    A7 bC at b2
    A7 Rv at a1 b1
    rw[a1,b1,b2]
   subst e
   cases w1 with
   | cons c1 c2=>
    cases c2 with
    | cons d1 d2=>
     cases d2
     A6⟨t,rfl⟩:=c1
     A6⟨u,rfl⟩:=d1
     ~⟨a,t,u,rfl,w2⟩
A8 nD{zs:List V}{us:List Value}(v:Vals zs us):∀q:List Nat,(∀i∈q,i<zs.length)→Vals (q.map fun i=>zs.getD i V.non) (q.map fun i=>us.getD i Value.none)
 | [],_=>.nil
 | i::q,h=>by
  rw[B3,B3]
  &.cons ?_ (nD v q fun j hj=>h j (C5 _ hj))
  have hi:=h i C9
  A6⟨u,e,r⟩:=v.get (A9 hi)
  rw[B7,B7,e,A9 hi]
  ~r
A8 rT{ds:List D}{zs:List V}(r:bC K H ds zs):∀q:List Nat,(∀i∈q,i<zs.length)→bC K H (q.map fun i=>ds.getD i D.non) (q.map fun i=>zs.getD i V.non)
 | [],_=>by A7 bC;rfl
 | i::q,h=>by
  rw[B3,B3]
  A7 bC
  have hi:=h i C9
  have hd:i<ds.length:=by rw[←r.length];~hi
  A6⟨x,e,rx⟩:=r.get (A9 hd)
  &⟨_,_,rfl,?_,rT r q fun j hj=>h j (C5 _ hj)⟩
  rw[B7,B7,e,A9 hd]
  ~rx
A8 oH{ps:List (Int×Int)}{q:List Nat}(h:∀i∈q,i<ps.length):(q.map fun i=>(ps.map pD).getD i D.non)=(q.map fun i=>ps.getD i (0,0)).map pD:=by
 rw[I0]
 &R1 fun i hi=>?_
 have:=h i hi
 rw[B7,C4,A9 this]
 show pD ps[i]=pD (ps.getD i (0,0))
 rw[B7,A9 this]
 rfl
def nF(K:aA):List V→Hp→VK→Prop:=fun xs H Q=>∃(p:Addr)(zs:List V)(ps:List (Int×Int)),xs=[.ref p]∧gW K H p zs∧bC K H (ps.map pD) zs∧ps.length<64∧(ps.map (·.1)).Nodup ∧
 ∀l ys,H l=none→bC K H ((bA ps).map pD) ys→Q (.ref l) (upd H l (.lst ys))
A8 Br:dY X (.builtin "sorted") (nF X.K):=by
 intro pins s σ H xs us Q I r h
 A6⟨p,zs,ps,rfl,hq,hr,h64,hn,q⟩:=h
 A6⟨u,rfl,rx⟩:=vals1 r
 cases rx
 A6⟨its,rv,pl,hz⟩:=I.list hq
 have hlen:=rv.length
 have hl2:=hr.length
 rw[B4]at hl2
 have hP:=rR I hr rv
 &Calls.call_function_entry kind_sorted plain_sorted entry_sorted (args_sorted1 _) ?_
 A7 Builtin.«sorted»
 &wpAny_bind (m:=checkCount "sorted" 1 1 _) (wpAny_pure ?_)
 &wpAny_bind (collect_list pl.isList ?_ (by rw[sizeLine_eq];omega))
 &wpAny_bind (wpAny_newList ?_ (by rw[sizeLine_eq];omega))
 have hsz:((s.heap.push (seqObj "list" #[] 0)).update s.heap.objs.size (Obj.mapSeq (·++its.toArray))).objs.size=s.heap.objs.size+1:=by
  rw[Heap.size_update,size_push']
 have hoL:(((s.heap.push (seqObj "list" #[] 0)).update s.heap.objs.size (Obj.mapSeq (·++its.toArray))).push (seqObj "list" its.toArray 0)).get? (s.heap.objs.size+1)=some (seqObj "list" its.toArray 0):=by
  rw[←hsz];~Heap.get?_push_size _ rfl
 have keep:∀b o,s.heap.get? b=some o→(((s.heap.push (seqObj "list" #[] 0)).update s.heap.objs.size (Obj.mapSeq (·++its.toArray))).push (seqObj "list" its.toArray 0)).get? b=some o:=fun b o q=>by
  have hlt:b<s.heap.objs.size:=Heap.lt_size q
  rw[Heap.get?_push_ne _ _ _ (by rw[hsz];~C3 (F5 hlt)),Heap.get?_update_ne _ _ _ _ (C3 hlt),Heap.get?_push_ne _ _ _ (C3 hlt)]
  ~q
 show wpAny _ _ _ _ _ {s with heap:=((s.heap.push (seqObj "list" #[] 0)).update s.heap.objs.size (Obj.mapSeq (·++its.toArray))).push (seqObj "list" its.toArray 0)}
 rw[hsz]
 &wpAny_bind (wpAny_holding (wpAny_call_entry slot_list_sort ⟨_,hoL,rfl⟩ entry_list_sort (jX hoL (hP.keeps fun b o e _=>keep b o e) (nC hn A0) A0 fun qs hp hs=>⟨_,rfl,?_⟩) (args_list_sort _)))
 &wpAny_pure ⟨_,rfl,?_⟩
 A6⟨e,he⟩:=sortedHeap_at (out:=(qs.map fun i=>its.getD i Value.none).toArray) hoL
 have hs':H (s.heap.objs.size+1)=none:=I.hok.fresh (K1 _)
 have hin:∀i∈qs,i<zs.length:=fun i hi=>by
  have:=hp.mem_iff.mp hi
  rw[J3]at this
  omega
 have UW:qs.length=zs.length:=by rw[hp.length_eq,G6];omega
 have I2:=I.laid (t':=s.toks) (a:=s.heap.objs.size+1) (o:=.lst (qs.map fun i=>zs.getD i V.non)) (h':=sortedHeap (((s.heap.push (seqObj "list" #[] 0)).update s.heap.objs.size (Obj.mapSeq (·++its.toArray))).push (seqObj "list" its.toArray 0)) (s.heap.objs.size+1) its (qs.map fun i=>its.getD i Value.none).toArray)
  (fun b o eb=>by
   have hlt:=Heap.lt_size eb
   rw[sortedHeap_old (C3 (F5 hlt)) (by rw[Heap.size_push,hsz];~F5 (F5 hlt))]
   ~keep b o eb) (K1 _)
  ⟨by rw[B4];~J4 (uR A0),qs.map fun i=>its.getD i Value.none,e,nD rv qs hin,by simpa[seqObj]using he⟩
 &⟨.ref _,_,I2,rfl,q _ _ hs' ?_⟩
 have:=rT hr qs hin
 rw[oH (fun i hi=>by have:=hin i hi;omega),rQ hn (by rw[show ps.length=its.length by omega];~hp) hs]at this
 ~this
def rU:List D→Option D
 | [.lst ds]=>(jY ds).bind fun ps=>if ps.length<64∧(ps.map (·.1)).Nodup then some (.lst ((bA ps).map pD))else none
 | _=>none
A8 zA:rB K (nF K) rU:=fun vs H ds d Q rs q k=>by
 A7 rU at q
 split at q
 ·A6⟨ps,q1,q2⟩:=aR q
  split at q2
  ·rename_i hl
   cases q2
   A6⟨v,rfl,r⟩:=wQ rs
   rw[kZ q1]at r
   A7 Rv at r
   A6⟨p,zs,rfl,r2,r3⟩:=r
   ~⟨p,zs,ps,rfl,r2,r3,hl.1,hl.2,fun l ys hl hy=>k _ _ (bD hl _) (jG (aD.refl _) (.bM (fQ _) hy) hl)⟩
  ·cases q2
 ·cases q
A8 zB(hk:X.K=K):dY X (.builtin "sorted") (nF K):=by subst hk;~Br
end
end L2


namespace L2
open PySem PySem.W PySem.Spec PyProof.Rows
A8 wZ{α:Type} [DecidableEq α] {k:α}:∀{ks:List α} {i:Nat},ks.Nodup→ks[i]?=some k→posK ks k=some i
 | [],i,_,h=>by simp at h
 | a::ks,0,hn,h=>by
  have h:a=k:=by simpa using h
  A7 posK
  rw[if_pos h]
 | a::ks,i+1,hn,h=>by
  have h:ks[i]?=some k:=by simpa using h
  rw[G1]at hn
  have ne:a≠k:=fun z=>hn.1 (z▸E8 h)
  A7 posK
  rw[if_neg ne,wZ hn.2 h]
  rfl
A8 xF{α:Type} [DecidableEq α] {k:α}:∀{ks:List α} {i:Nat},posK ks k=some i→ks[i]?=some k
 | [],i,h=>by A7 posK at h;cases h
 | a::ks,i,h=>by
  A7 posK at h
  by_cases c:a=k
  ·rw[if_pos c]at h;cases h;rw[c];rfl
  ·rw[if_neg c]at h
   A6⟨j,h1,rfl⟩:=cR h
   have:=xF h1
   simpa using this
A8 Lb{h:Heap}:∀(as:List Addr)(ps:List (Int×Int)),as.length=ps.length→(∀(j:Nat)(a:Addr)(p:Int×Int),as[j]?=some a→ps[j]?=some p→∃t u,IsTup h a #[.int p.1 t,.int p.2 u])→mH h (as.map Value.ref) ps
 | [],[],_,_=>by A7 mH;rfl
 | [],p::ps,hl,_=>by simp at hl
 | a::as,[],hl,_=>by simp at hl
 | a::as,p::ps,hl,hk=>by
  rw[B3]
  A7 mH
  A6⟨t,u,y⟩:=hk 0 a p rfl rfl
  ~⟨p,ps,rfl,⟨a,t,u,rfl,y⟩,Lb as ps (by simpa using hl) fun j b q e1 e2=>hk (j+1) b q (by simpa using e1) (by simpa using e2)⟩
A8 Ld{K:aA}{H:Hp}:∀(as:List Addr)(ps:List (Int×Int)),as.length=ps.length→(∀(j:Nat)(a:Addr)(p:Int×Int),as[j]?=some a→ps[j]?=some p→H a=some (.tup [.int p.1,.int p.2]))→bC K H (ps.map pD) (as.map V.ref)
 | [],[],_,_=>by rw[D4,D4];A7 bC;rfl
 | [],p::ps,hl,_=>by simp at hl
 | a::as,[],hl,_=>by simp at hl
 | a::as,p::ps,hl,hk=>by
  rw[B3,B3]
  A7 bC
  &⟨_,_,rfl,?_,Ld as ps (by simpa using hl) fun j b q e1 e2=>hk (j+1) b q (by simpa using e1) (by simpa using e2)⟩
  A7 Rv
  &⟨a,_,rfl,jP.of (hk 0 a p rfl rfl),?_⟩
  ~(fJ (ns:=[p.1,p.2])).mpr rfl
abbrev Le(ps:List (Int×Int)):List (Key×V):=ps.map fun p=>(B5 p.1,V.int p.2)
A8 Lf:∀{ps:List (Int×Int)} {vs:List (Key×Value)},KV (Le ps) vs→∀(j:Nat)(p:Int×Int)(k:Key)(x:Value),ps[j]?=some p→vs[j]?=some (k,x)→k=B5 p.1∧∃u,x=.int p.2 u
 | [],vs,r,j,p,k,x,e,_=>by simp at e
 | p::ps,vs,r,j,q,k,x,e,f=>by
  rw[show Le (p::ps)=(B5 p.1,V.int p.2)::Le ps from rfl]at r
  cases r with
  | cons r1 r2=>
   cases j with
   | zero=>
    have e:p=q:=by simpa using e
    subst e
    have f:=D9 (show some _=some _ from f)
    subst f
    ~⟨r1.1.symm,r1.2⟩
   | succ j=>~Lf r2 j q k x (by simpa using e) (by simpa using f)
section
variable{K:aA}{X:Cx}{pins:List (Addr×Obj)}{σ:St}{H:Hp}{s:Shared}
def Bu(K:aA):V→Hp→VK→Prop:=fun v H Q=>∃(a:Addr)(ps:List (Int×Int)),v=.ref a∧Rd H a (.dK (Le ps))∧ps.length<64∧(ps.map (·.1)).Nodup ∧
 ∀l H1 ys,aD H H1→H1 l=none→bC K H1 ((bA ps).map pD) ys→Q (.ref l) (upd H1 l (.lst ys))
A8 Qw(hc:X.calm=true)(pins:List (Addr×Obj))(s:Shared)(σ:St)(H:Hp)(v:V)(u:Value)(Q:VK)(I:Inv X pins σ H s)(rv:RelV v u)(h:Bu X.K v H Q) :
  wpAny (model X.prog X.w) X.A (call (.builtin "dict.items") [u]) (fun u' s'=>wpAny (model X.prog X.w) X.A (call (.builtin "sorted") [u']) (EP X pins σ Q) X.xe s') X.xe s:=by
 A6⟨a,ps,rfl,hq,h64,hn,q⟩:=h
 cases rv
 A6⟨hz,hsm,vs,rel,dd⟩:=qG I.hok hq
 A6⟨ep,hat⟩:=dd.dictAt
 have hl:=KV.length rel
 rw[B4]at hl
 &call_meetsIn O8 dd.typeIs PySem.F.entry_dict_items (PySem.F.args_dict_items_1 _) (meets_dict_items (aP X.prog X.w) a hsm) ⟨⟨vs,dd⟩,?_⟩
 have hvw:(s.heap.push {cls:=.type "dict_items", data:=.fields #[.ref a]}).get? s.heap.objs.size=some {cls:=.type "dict_items", data:=.fields #[.ref a]}:=Heap.get?_push_size _ rfl
 &Calls.call_function_entry kind_sorted plain_sorted entry_sorted (args_sorted1 _) ?_
 A7 Builtin.«sorted»
 &wpAny_bind (m:=checkCount "sorted" 1 1 _) (wpAny_pure ?_)
 &wpAny_bind (kdx_collect (A:=X.A.in1) (s:={s with heap:=s.heap.push {cls:=.type "dict_items", data:=.fields #[.ref a]}}) (knd:=aP X.prog X.w) (kvs:=vs) (ep:=ep) (I.ok.hd hc) ⟨_,hvw,rfl,rfl⟩ (hat.push _) (by rw[sizeLine_eq];omega) fun h' tk as kp hla hG=>?_)
 have VB:∀b o,s.heap.get? b=some o→h'.get? b=some o:=fun b o e=>kp b o (Heap.get?_push_of_some _ e)
 have hsl:s.heap.objs.size<h'.objs.size:=Heap.lt_size (kp _ _ hvw)
 have hab:∀b∈as,s.heap.objs.size<b:=fun b hb=>by
  have:=hG.above b hb
  rw[show ({s with heap:=s.heap.push {cls:=.type "dict_items", data:=.fields #[.ref a]}}:Shared).heap.objs.size=s.heap.objs.size+1 from Heap.size_push _ _]at this
  ~Nat.lt_of_succ_lt this
 have hnd:as.Nodup:=hG.rise.imp fun z=>C3 z
 have hlen:as.length=ps.length:=by omega
 have hpr:∀(j:Nat)(b:Addr)(p:Int×Int),as[j]?=some b→ps[j]?=some p→∃t u,h'.get? b=some {cls:=.type "tuple", data:=.seq #[.int p.1 t,.int p.2 u]}:=fun j b p e1 e2=>by
  A6⟨key,k,x,f1,f2,f3⟩:=hG.pairs j b e1
  A6⟨g1,u,rfl⟩:=Lf rel j p k x e2 f1
  subst g1
  A6⟨t,rfl⟩:=Dn f2
  ~⟨t,u,f3⟩
 &wpAny_bind (wpAny_newList ?_ (by rw[B4,hlen,sizeLine_eq];omega))
 have hoL:(h'.push (seqObj "list" (as.map Value.ref).toArray 0)).get? h'.objs.size=some (seqObj "list" (as.map Value.ref).toArray 0):=Heap.get?_push_size _ rfl
 have hP:mH (h'.push (seqObj "list" (as.map Value.ref).toArray 0)) (as.map Value.ref) ps:=Lb as ps hlen fun j b p e1 e2=>by
  A6⟨t,u,e⟩:=hpr j b p e1 e2
  ~⟨t,u,_,Heap.get?_push_of_some _ e,rfl,0,rfl⟩
 &wpAny_bind (wpAny_holding (wpAny_call_entry slot_list_sort ⟨_,hoL,rfl⟩ entry_list_sort (jX hoL hP (nC hn (by rw[B4];~hlen)) (by rw[B4];omega) fun qs hp hs=>⟨_,rfl,?_⟩) (args_list_sort _)))
 &wpAny_pure ⟨_,rfl,?_⟩
 A6⟨e,he⟩:=sortedHeap_at (out:=(qs.map fun i=>(as.map Value.ref).getD i Value.none).toArray) hoL
 rw[B4]at hp
 have hin:∀i∈qs,i<(as.map V.ref).length:=fun i hi=>by
  have:=hp.mem_iff.mp hi
  rw[J3]at this
  rw[B4]
  ~this
 have UW:qs.length=as.length:=by rw[hp.length_eq,G6]
 have hva:∀l:List Addr,Vals (l.map V.ref) (l.map Value.ref):=fun l=>by
  induction l with
  | nil=>~.nil
  | cons b l ih=>~.cons rfl ih
 have old:∀b o,h'.get? b=some o→(sortedHeap (h'.push (seqObj "list" (as.map Value.ref).toArray 0)) h'.objs.size (as.map Value.ref) (qs.map fun i=>(as.map Value.ref).getD i Value.none).toArray).get? b=some o:=fun b o eb=>by
  have hlt:=Heap.lt_size eb
  rw[sortedHeap_old (C3 hlt) (by rw[Heap.size_push];~F5 hlt)]
  ~Heap.get?_push_of_some _ eb
 have hmem:∀b∈as,b<h'.objs.size:=fun b hb=>hG.there hb
 have hpN:∀b,b∉as→posK as b=none:=fun b hb=>by
  cases z:posK as b with
  | none=>rfl
  | some j=>~absurd (E8 (xF z)) hb
 have CN:∀b,b≤s.heap.objs.size→posK as b=none:=fun b hb=>hpN b fun z=>absurd (B8 (hab b z) hb) (F1 _)
 have VD:posK as h'.objs.size=none:=hpN _ fun z=>absurd (hmem _ z) (F1 _)
 let H1:Hp:=fun b=>match posK as b with
  | some j=>some (.tup [.int (tR ps j),.int (ps.getD j (0,0)).2])
  | none=>H b
 have GK:∀b,posK as b=none→H1 b=H b:=fun b z=>by
  show (match posK as b with | some j=>_ | none=>H b)=_
  rw[z]
 have QG:∀b j,posK as b=some j→H1 b=some (.tup [.int (tR ps j),.int (ps.getD j (0,0)).2]):=fun b j z=>by
  show (match posK as b with | some j=>_ | none=>H b)=_
  rw[z]
 have hfr:H h'.objs.size=none:=I.hok.fresh (J4 hsl)
 have hl1:H1 h'.objs.size=none:=(GK _ VD).trans hfr
 have I2:=I.more (t':=tk) (h':=sortedHeap (h'.push (seqObj "list" (as.map Value.ref).toArray 0)) h'.objs.size (as.map Value.ref) (qs.map fun i=>(as.map Value.ref).getD i Value.none).toArray)
  (H':=upd H1 h'.objs.size (.lst (qs.map fun i=>(as.map V.ref).getD i V.non))) (fun b o eb=>old b o (VB b o eb))
  (fun b hb=>by rw[aJ (C3 (M3 hb hsl)),GK b (CN b (J4 hb))]) fun b o hb eo=>by
   by_cases c:b=h'.objs.size
   ·subst c
    rw[aQ]at eo
    cases eo
    ~⟨by rw[B4];~J4 (uR A0),qs.map fun i=>(as.map Value.ref).getD i Value.none,e,nD (hva as) qs hin,by simpa[seqObj]using he⟩
   ·rw[aJ c]at eo
    cases z:posK as b with
    | none=>
     rw[GK b z,I.hok.fresh hb]at eo
     cases eo
    | some j=>
     rw[QG b j z]at eo
     cases eo
     have ej:=xF z
     have hj:j<ps.length:=by have:=(B9.mp ej).1;omega
     A6⟨t,u,f⟩:=hpr j b _ ej (A9 hj)
     have e2:ps.getD j (0,0)=ps[j]:=by rw[B7,A9 hj];rfl
     &⟨by rw[sizeLine_eq];~Q3 rfl,[.int ps[j].1 t,.int ps[j].2 u],?_,⟨_,old b _ f,rfl,0,rfl⟩⟩
     A7 tR
     rw[e2]
     ~.cons ⟨t,rfl⟩ (.cons ⟨u,rfl⟩ .nil)
 &⟨.ref _,_,I2,rfl,q _ H1 _ (fun b o eb=>?_) hl1 ?_⟩
 ·rw[GK b (CN b (J4 (I.hok.lt eb)))]
  ~eb
 ·have hr:bC X.K H1 (ps.map pD) (as.map V.ref):=Ld as ps hlen fun j b p e1 e2=>by
   rw[QG b j (wZ hnd e1)]
   A7 tR
   rw[B7,e2]
   rfl
  have:=rT hr qs hin
  rw[oH (fun i hi=>by have:=hin i hi;rw[B4]at this;omega),rQ hn (by rw[←hlen];~hp) hs]at this
  ~this
end
structure M0(X:Cx)(o:Expr)(m:Str)(apos:Pos)(cpos:Pos):Prop where
 base:attributeBase o m X.env (eval o X.env)=eval o X.env
 few:((backTo cpos (starEach [] X.env)).all (fun x=>!x.1)&&(backToKw cpos (keywordEach [] X.env)).all (fun x=>x.1.isSome)
  && decide (([]:List Expr).length+([]:List Keyword).length+(if([]:List Keyword).isEmpty then 0 else 1)<30))=true
 line:(apos.endLine==cpos.line)=true
 trees:backTo cpos (starEach [] X.env)=[]
section
variable{K:aA}{X:Cx}{o:Expr}{t:TE}{f:FE}{x:Str}{p pos apos cpos:Pos}
A8 Lg(hc:X.calm=true)(ha:PE X o t)(hg:Gl X x)(hm:X.mg x=none)(hv:bootBuiltins x=some (.builtin "sorted")) (m:M0 X o "items" apos cpos) (hn:x ≠ "__name__" := by decide) (hdb:(x==("__debug__" : Str))=false:=by decide)
  (he2:starEach [.Call (.Attribute o "items" apos) [] [] cpos] X.env=[(false,eval (.Call (.Attribute o "items" apos) [] [] cpos) X.env)]:=by rfl) :
  PE X (.Call (.Name x p) [.Call (.Attribute o "items" apos) [] [] cpos] [] pos) (MJ (Bu X.K) t):=by
 intro pins s σ H Q I h
 &wpAny_Call_Name_kw (vP I hg hm hv ?_ hn hdb)
 &L9 ?_ he2 rfl
 rw[he2]
 &Calls.spliced_cons (wpAny_Call_method m.base m.few m.line O7 O8 PySem.F.type_dict_items (cG (ha pins s σ H _ I h) fun u s1 ⟨v,H1,I1,r1,q1⟩=>?_))
 have VF:=q1
 A6⟨a,ps,rfl,hq,_⟩:=VF
 A6 rfl:u=Value.ref a:=r1
 A6⟨t1,t2,_⟩:=Jh I1 (.inl ⟨_,hq⟩)
 &⟨t1,t2,?_⟩
 rw[m.trees]
 ~PyProof.Rows.callWith_method0 (env:=X.env) (cG (Qw hc pins s1 σ H1 (.ref a) (.ref a) Q I1 rfl q1) fun u' s' z=>Calls.spliced_nil z)
def pC:List Key→List D→Option (List (Int×Int))
 | [],[]=>some []
 | .inl k::ks,.int v::ds=>(pC ks ds).map ((k,v)::·)
 | _,_=>none
A8 zF{H:Hp}:∀{ks:List Key} {ds:List D} {ps:List (Int×Int)} {xs:List V},pC ks ds=some ps→bC K H ds xs→ks.zip xs=Le ps
 | [],[],ps,xs,h,r=>by A7 pC at h;cases h;rfl
 | [],d::ds,ps,xs,h,r=>by A7 pC at h;cases h
 | k::ks,[],ps,xs,h,r=>by cases k<;>(A7 pC at h;cases h)
 | .inr k::ks,d::ds,ps,xs,h,r=>by A7 pC at h;cases h
 | .inl k::ks,d::ds,ps,xs,h,r=>by
  cases d with
  | int i=>
   A7 pC at h
   A6⟨qs,h1,rfl⟩:=cR h
   A7 bC at r
   A6⟨y,ys,rfl,r1,r2⟩:=r
   A7 Rv at r1
   subst r1
   rw[F2,zF h1 r2]
   rfl
  | _=>A7 pC at h;cases h
def xG:D→Option D
 | .dk ks ds=>(pC ks ds).bind fun ps=>if ps.length<64∧(ps.map (·.1)).Nodup then some (.lst ((bA ps).map pD))else none
 | _=>none
A8 Lh(h:XR K X o t f)(m:M0 X o "items" apos cpos) (hg:Gl X x) (hm:X.mg x=none) (hv:bootBuiltins x=some (.builtin "sorted")) (hc:X.calm=true:=by rfl) (hn:x ≠ "__name__" := by decide) (hdb:(x==("__debug__" : Str))=false:=by decide)
  (he2:starEach [.Call (.Attribute o "items" apos) [] [] cpos] X.env=[(false,eval (.Call (.Attribute o "items" apos) [] [] cpos) X.env)]:=by rfl) :
  XN K X (.Call (.Name x p) [.Call (.Attribute o "items" apos) [] [] cpos] [] pos) (MJ (Bu K) t) (FW xG f):=⟨h.hk,by have:=h.hk;subst this;~Lg hc h.pe hg hm hv m hn hdb he2,fun σ H e d Q re q k=>by
 A6⟨d0,q1,q2⟩:=aR q
 A7 xG at q2
 split at q2
 ·A6⟨ps,q3,q4⟩:=aR q2
  split at q4
  ·rename_i hl
   cases q4
   &h.ev σ H H e _ _ (Zn.self K H) re q1 fun v H1 Z1 s1 t1 z1 rv=>?_
   have r1:=z1.sm.rv _ _ rv
   A7 Rv at r1
   A6⟨a,xs,rfl,r2,r3,r4⟩:=r1
   rw[zF q3 r4]at r2
   ~⟨a,ps,rfl,r2,hl.1,hl.2,fun l H2 ys s2 hl2 hy=>k _ _ ((s1.trans s2).trans (bD hl2 _)) ((jG s2 (.bM (fQ _) hy) hl2).back s1)⟩
  ·cases q4
 ·cases q2⟩
end
end L2


namespace L2
open PySem PySem.W PySem.Spec PyProof.Rows
A8 Hg:typeLookup (.type "list") "keys" = pure none:=am_miss_of_fast (by kernel_rfl)
A8 Hh{prog:Program}{w:World}{A:Around}{E:Value→Shared→Prop}{s:Shared}{a:Addr}{xs:Array Value}{k:Nat}{Q:Option Value→Shared→Prop}
  {sl:Array (Option Value)} (hx:s.heap.get? a=some {cls:=.type "list", dict:=none,data:=.seq xs k,slots:=sl}) (hA:A.handled=none)
  (h:∀h' tk,(∀b o,s.heap.get? b=some o→h'.get? b=some o)→Q none {s with heap:=h',toks:=tk}) :
  wpAny (model prog w) A (getAttr? (.ref a) "keys") Q E s:=by
 A6⟨hp,g,d,tk,os⟩:=s
 have hT:∀tk',(⟨hp,g,d,tk',os⟩:Shared).TypeIs (.ref a) "list" := fun _=>⟨_,hx,rfl⟩
 have f1:=sub_AttributeError
 have f2:=F.slot_list_getattribute.lookup
 have f3:=F.slot_list_getattribute.bind (.ref a)
 have f4:=am_list_getattr_none
 A7 getAttr? getAttrBy?
 repeat (any_goals (first | assumption | ~hT _ | ((with_reducible show wpAny _ _ (call (Value.builtin "list.__getattribute__") _ _) _ _ _);&call_meets F.slot_list_getattribute (hT _) am_entry_list_getattribute (F.args_list_getattribute_2 _ _) (meets_getattribute_miss_list a xs k sl "keys" _ Hg A4 (by size_fits)) ⟨hx,hA,fun h' tk' e hx'=>?_⟩) | wp_step))
 A6⟨t',u',he⟩:=hx'.there
 show wpAny _ _ (getattributeRaised _ _ _ _ _ _ _) _ _ _
 A7 getattributeRaised
 repeat (any_goals (first | assumption | wp_step))
 ~h h' tk' hx'.keeps
A8 uX:entryFor table "dict.update.loop" = some Builtin.«dict.update.loop»:=entryFor_of_tree (by kernel_rfl)
A8 jH:plainId "dict.update.loop" = true:=by decide +kernel
section
variable{prog:Program}{w:World}{A:Around}{R:Result→Shared→Prop}{I:Addr}{fp wr:List Addr}{G:Array GenState→Array GenState→Prop}{n:Nat}{P:Nat→Value→Prop}{St:Nat→Shared→Prop}
def rW(key:Nat→Int)(val:Nat→Value)(i:Nat):List (Key×Value):=(D6 i).map fun j=>(B5 (key j),val j)
A8 Hi(key:Nat→Int)(val:Nat→Value)(i:Nat):rW key val (i+1)=rW key val i++[(B5 (key i),val i)]:=by
 A7 rW
 rw[List.range_succ,E6]
 rfl
A8 zG{key:Nat→Int}{val:Nat→Value}{i:Nat}(hk:∀j,j<i→key j≠key i):stored (rW key val i) (B5 (key i)) (val i)=rW key val (i+1):=by
 rw[Hi]
 A7 stored
 rw[if_neg]
 intro z
 rw[List.any_eq_true]at z
 A6⟨kv,h1,h2⟩:=z
 A7 rW at h1
 A6⟨j,hj,rfl⟩:=D8.mp h1
 rw[J3]at hj
 have h2:=of_decide_eq_true h2
 ~hk j hj (M9 h2)
A8 Wv(W:WalksS prog w A.in1 I fp wr G n P St)(d:Addr)(hf:d∉fp)(adr:Nat→Addr)(key:Nat→Int)(tk:Nat→Tok)(val:Nat→Value)(hP:∀i v,P i v→v=.ref (adr i))(had:∀i,i<n→adr i∉wr∧adr i≠d)(hk:∀i j,i<n→j<n→i≠j→key i≠key j)(hz:n≤sizeLine) :
  ∀(m i:Nat)(s:Shared),n-i=m→i≤n→St i s→s.heap.DictOf (aP prog w) d (rW key val i)→(∀j,j<n→IsTup s.heap (adr j) #[.int (key j) (tk j),val j])→(∀s',Moved (d::wr) G s s'→s'.heap.DictOf (aP prog w) d (rW key val n)→R (.ok (.ret .none)) s') →
   codeAny (model prog w) A (.builtin "dict.update.loop" ⟨[.ref d,.ref I,rawInt (i:Int),.none],[]⟩) R s:=by
 have hw:d∉wr:=fun z=>hf (W.sub _ z)
 have sub:∀c∈wr,c∈d::wr:=fun c hc=>C5 _ hc
 intro m
 induction m with
 | zero=>
  intro i s hm hi hst hD hT hR
  have e:i=n:=by omega
  subst e
  &codeAny_builtin uX ?_
  rw[Around.under_plainId jH _]
  show wpAny _ A.in1 (pyNext (.ref I) >>= _) _ _ s
  &wpAny_bind (W.done s _ _ hst fun s' mv=>?_)
  show wpAny _ A.in1 (ret Value.none) _ _ s'
  ~wpAny_pure (hR s' (mv.mono sub) (let ⟨o,es,ep,e,r⟩:=hD;⟨o,es,ep,mv.heap d o hw e,r⟩))
 | succ m ih=>
  intro i s hm hi hst hD hT hR
  have lt:i<n:=by omega
  &codeAny_builtin uX ?_
  rw[Around.under_plainId jH _]
  show wpAny _ A.in1 (pyNext (.ref I) >>= _) _ _ s
  &wpAny_bind (W.item i s _ _ lt hst fun v s1 hPv st1 mv=>?_)
  A6 rfl:=hP i v hPv
  have D1:s1.heap.DictOf (aP prog w) d (rW key val i):=let ⟨o,es,ep,e,r⟩:=hD;⟨o,es,ep,mv.heap d o hw e,r⟩
  have T1:∀j,j<n→IsTup s1.heap (adr j) #[.int (key j) (tk j),val j]:=fun j hj=>let ⟨o,ho,r⟩:=hT j hj;⟨o,mv.heap _ o (had j hj).1 ho,r⟩
  A6⟨o,ho,hc,k,hd⟩:=T1 i lt
  dsimp only
  &wpAny_bind (wpAny_holding (wpAny_bind (wpAny_tryCatch ?_)))
  A7 Builtin.Dict.pairItems
  &wpAny_bind (wpAny_typeOf (show s1.TypeIs (.ref (adr i)) "tuple" from⟨o,ho,hc⟩) ?_)
  rw[if_pos A4]
  &wpAny_bind (wpAny_seqItems ho hd (wpAny_pure ?_))
  dsimp only[Option.getD_some]
  &wpAny_holding (wpAny_dictSet_pairs (knd:=aP prog w) (k:=B5 (key i)) (nT _ _ _ _) D1 (fun h' D2 sb=>?_) (by A7 rW;rw[B4,G6];omega))
  rw[zG fun j hj=>hk j i A0 lt A0]at D2
  &wpAny_pure ⟨plainId_quiet jH _,?_⟩
  &ih (i+1) _ A0 lt (W.frame _ s1 _ _ st1 (K1 _) fun c hc o e=>?_) D2 (fun j hj=>?_) fun s2 VG D3=>?_
  ·rw[sb.2 c fun z=>hf (by rw[←z];~hc)]
   ~e
  ·A6⟨o,ho,r⟩:=T1 j hj
   ~⟨o,by rw[sb.2 _ (had j hj).2];~ho,r⟩
  ·&hR s2 (Moved.trans W.gtrans ((mv.mono sub).then_heap (K1 _) fun c o hc e=>?_) VG) D3
   rw[sb.2 c fun z=>hc (by rw[z];~C9)]
   ~e
variable{E:Value→Shared→Prop}{s:Shared}
A8 Li{l:Addr}{its:List Value}{ps:List (Int×Int)}{Q:Value→Shared→Prop}(hh:A.handled=none)(hl:PlainL s.heap l its.toArray)(hp:mH s.heap its ps)(hn:(ps.map (·.1)).Nodup)(hz:ps.length≤1000)
  (h:∀(h':Heap)(tk:Nat)(vs:List (Key×Value)),KV (Le ps) vs→h'.DictOf (aP prog w) s.heap.objs.size vs→(∀b o,s.heap.get? b=some o→h'.get? b=some o)→Q (.ref s.heap.objs.size) {s with heap:=h',toks:=tk}) :
  wpAny (model prog w) A (call (.type "dict") [.ref l]) Q E s:=by
 have hlen:=hp.length
 A6⟨adr,KN,us,hat⟩:∃(adr:Nat→Addr)(KN us:Nat→Tok),∀i,i<its.length→its.getD i .none=.ref (adr i)∧IsTup s.heap (adr i) #[.int (tR ps i) (KN i),.int (ps.getD i (0,0)).2 (us i)]:=by
  have hx:∀i,∃(a:Addr)(t u:Tok),i<its.length→its.getD i .none=.ref a∧IsTup s.heap a #[.int (tR ps i) t,.int (ps.getD i (0,0)).2 u]:=fun i=>by
   by_cases c:i<its.length
   ·A6⟨a,t,u,e⟩:=hp.at_ c
    ~⟨a,t,u,fun _=>e⟩
   ·~⟨0,0,0,fun z=>absurd z c⟩
  ~⟨fun i=>(hx i).choose,fun i=>(hx i).choose_spec.choose,fun i=>(hx i).choose_spec.choose_spec.choose,fun i hi=>(hx i).choose_spec.choose_spec.choose_spec hi⟩
 A6⟨ol,nl,hol,hcl,hdl,hsl⟩:=hl
 A6⟨ocls,odict,odata,oslots⟩:=ol
 simp only at hcl hdl hsl
 subst hcl hdl hsl
 &callType_codes (Q₁:=fun obj s₁=>obj=.ref s.heap.objs.size∧s₁={s with heap:=s.heap.push {cls:=.type "dict", data:=.dict #[]}}) PySem.F.kt_called_dict (PySem.F.kt_typeCall_dict_1 _) PySem.F.entry_dict_init (kt_code_dict_new _ ⟨rfl,rfl⟩) ?_
 rintro obj s₁ ⟨rfl,rfl⟩
 have hnew:(s.heap.push {cls:=.type "dict", data:=.dict #[]}).DictOf (aP prog w) s.heap.objs.size []:=Heap.DictOf.new s.heap
 have hol1:(s.heap.push {cls:=.type "dict", data:=.dict #[]}).get? l=some {cls:=.type "list", dict:=none,data:=.seq its.toArray nl,slots:=oslots}:=Heap.get?_push_of_some _ hol
 have QH:l<s.heap.objs.size:=Heap.lt_size hol
 &⟨hnew.typeIs,PySem.F.args_dict_init_2 _ _,?_⟩
 A7 Builtin.«dict.__init__»
 &wpAny_bind ?_
 A7 Builtin.Dict.selfAndRest
 &wpAny_bind (wpAny_notOrdered_dict hnew.typeIs ?_)
 show wpAny _ _ (pure (s.heap.objs.size,[Value.ref l])) _ _ _
 &wpAny_pure ?_
 show wpAny _ _ (Builtin.Dict.updateFrom "dict.__init__" s.heap.objs.size (.ref l) [] .none) _ _ _
 A7 Builtin.Dict.updateFrom
 &wpAny_bind (wpAny_typeOf (show Shared.TypeIs _ (.ref l) "list" from⟨_,hol1,rfl⟩) ?_)
 rw[if_pos A4]
 &wpAny_bind (Hh (A:=A.in1.in1) hol1 hh fun h2 tk2 GP=>?_)
 rw[if_pos (show (none:Option Value).isNone=true from rfl)]
 &wpAny_bind (wpAny_rule ?_)
 have hol2:h2.get? l=some {cls:=.type "list", dict:=none,data:=.seq its.toArray nl,slots:=oslots}:=GP _ _ hol1
 have hL2:h2.IsList l its.toArray:=⟨_,hol2,rfl,nl,rfl⟩
 have hd2:h2.DictOf (aP prog w) s.heap.objs.size []:=let ⟨o,es,ep,e,r⟩:=hnew;⟨o,es,ep,GP _ _ e,r⟩
 have GQ:s.heap.objs.size<h2.objs.size:=let ⟨o,es,ep,e,r⟩:=hd2;Heap.lt_size e
 &wpAny_bind (wpAny_pyIter_list hL2 ?_)
 &wpAny_pure ⟨plainId_quiet jH _,?_⟩
 have KQ:l<h2.objs.size:=M3 QH GQ
 have hsz:its.toArray.size=its.length:=B0
 have nf:s.heap.objs.size∉[h2.objs.size,l]:=fun z=>by
  rcases E3.mp z with z | z
  ·~absurd z (C3 GQ)
  ·~absurd (D5.mp z) (J6 QH)
 have hadr:∀i,i<its.length→adr i<s.heap.objs.size∧adr i≠l:=fun i hi=>by
  A6⟨o,ho,hc,_⟩:=(hat i hi).2
  &⟨Heap.lt_size ho,fun z=>?_⟩
  rw[z,hol]at ho
  cases ho
  ~absurd (show Value.type "list" = Value.type "tuple" from hc) A4
 &Wv ((Walks.list (A:=A.in1.in1) hh h2.objs.size l (C3 KQ) its.toArray).toS) s.heap.objs.size nf adr (tR ps) KN (fun i=>.int (ps.getD i (0,0)).2 (us i)) (fun i v hv=>?_) (fun i hi=>?_) (nC hn A0) (by rw[sizeLine_eq];omega) (its.toArray.size-0) 0 _ rfl (F9 _) ⟨⟨_,Heap.get?_push_size _ rfl,rfl,rfl⟩,hL2.push _⟩ (hd2.push _) (fun j hj=>?_) fun s' mv D'=>?_
 ·have hi:i<its.length:=by
   rw[←hsz]
   ~(Array.getElem?_eq_some_iff.mp hv).1
  have e:=(hat i hi).1
  rw[B7]at e
  rw[Q1]at hv
  rw[hv]at e
  ~e
 ·rw[hsz]at hi
  A6⟨x,y⟩:=hadr i hi
  &⟨fun z=>?_,C3 x⟩
  have z:adr i=h2.objs.size:=by simpa using z
  rw[z]at x
  ~absurd (M3 x GQ) (F1 _)
 ·rw[hsz]at hj
  A6⟨o,ho,r⟩:=(hat j hj).2
  ~⟨o,Heap.get?_push_of_some _ (GP _ _ (Heap.get?_push_of_some _ ho)),r⟩
 ·A6⟨h',g',d',tk',os'⟩:=s'
  have eg:g'=s.gens:=mv.gens
  have ed:d'=s.drawn:=mv.drawn
  have eo:os'=s.os:=mv.os
  subst eg ed eo
  &⟨rfl,h h' tk' _ ?_ D' fun b o e=>?_⟩
  ·rw[hsz,hlen]
   A7 rW Le
   have gen:∀(qs:List (Int×Int))(f:Nat→Value)(g:Nat→Int),(∀i,i<qs.length→g i=tR qs i∧∃u,f i=.int (qs.getD i (0,0)).2 u)→KV (qs.map fun p=>((B5 p.1:Key),V.int p.2)) ((D6 qs.length).map fun j=>((B5 (g j):Key),f j)):=by
    intro qs
    induction qs with
    | nil=>intro f g _;~.nil
    | cons q qs ih=>
     intro f g hh
     rw[F0,List.range_succ_eq_map,B3,B3,I0]
     A6⟨h1,u,h2⟩:=hh 0 (Nat.succ_pos _)
     &.cons ⟨?_,?_⟩ (ih (fun i=>f (i+1)) (fun i=>g (i+1)) fun i hi=>hh (i+1) (Nat.succ_lt_succ hi))
     ·show (B5 q.1:Key)=B5 (g 0)
      rw[h1]
      rfl
     ·show RelV (.int q.2) (f 0)
      rw[h2]
      ~⟨u,rfl⟩
   ~gen ps _ _ fun i hi=>⟨rfl,us i,rfl⟩
  ·have lb:=Heap.lt_size e
   &mv.heap b o (fun z=>?_) (Heap.get?_push_of_some _ (GP _ _ (Heap.get?_push_of_some _ e)))
   rcases E3.mp z with z | z
   ·~absurd z (C3 lb)
   ·have:=D5.mp z
    ~absurd this (C3 (M3 lb GQ))
end
end L2


namespace L2
open PySem PySem.W PySem.Spec PyProof.Rows
mutual
def Ii:D→Nat→Bool
 | .int _,_=>true
 | .str _,_=>true
 | .lst ds,n+1=>gR ds n
 | .tup ds,n+1=>gR ds n
 | _,_=>false
def gR:List D→Nat→Bool
 | [],_=>true
 | d::ds,n=>Ii d n&&gR ds n
end
A8 zH:∀{ds:List D} {n i:Nat} {d:D},gR ds n=true→ds[i]?=some d→Ii d n=true
 | [],n,i,d,h,e=>by simp at e
 | d'::ds,n,0,d,h,e=>by
  A7 gR at h
  rw[G8]at h
  have e:d'=d:=by simpa using e
  rw[←e];~h.1
 | d'::ds,n,i+1,d,h,e=>by
  A7 gR at h
  rw[G8]at h
  ~zH h.2 (by simpa using e)
section
open SeqAt
variable{X:Cx}{pins:List (Addr×Obj)}{σ:St}{H:Hp}{s:Shared}
A8 pO(n:Nat):((D6 n).all fun _=>true)=true:=by simp
A8 gF{n:Nat}(ih:∀(d:D)(x y:V)(u v:Value)(A:Around),Ii d n=true→A.units+n<cLine→Rv X.K H d x→Rv X.K H d y→RelV x u→RelV y v→EqAt A s u v true){A:Around}{ds:List D}{xs ys:List V}{us vs:List Value}(hd:gR ds n=true)(hu:A.units+(n+1)<cLine)(r1:bC X.K H ds xs)(r2:bC X.K H ds ys)(v1:Vals xs us)(v2:Vals ys vs) :
  ∀j (h1:j<us.toArray.size) (h2:j<vs.toArray.size),EqAt A.in1 s us.toArray[j] vs.toArray[j] ((fun _=>true) j):=by
 intro j h1 h2
 have l1:j<ds.length:=by rw[←r1.length,v1.length];simpa using h1
 A6⟨x,ex,rx⟩:=r1.get (i:=j) (d:=ds[j]) (by simp)
 A6⟨y,ey,ry⟩:=r2.get (i:=j) (d:=ds[j]) (by simp)
 A6⟨u,eu,ru⟩:=v1.get ex
 A6⟨v,ev,rv⟩:=v2.get ey
 have e1:us.toArray[j]=u:=by
  rw[B9]at eu
  A6⟨_,eu⟩:=eu
  simpa using eu
 have e2:vs.toArray[j]=v:=by
  rw[B9]at ev
  A6⟨_,ev⟩:=ev
  simpa using ev
 rw[e1,e2]
 ~ih _ x y u v A.in1 (zH hd (A9 l1)) (by rw[qJ];omega) rx ry ru rv
A8 Er(I:Inv X pins σ H s):∀(n:Nat)(d:D)(x y:V)(u v:Value)(A:Around),Ii d n=true→A.units+n<cLine→Rv X.K H d x→Rv X.K H d y→RelV x u→RelV y v→EqAt A s u v true:=by
 have flat:∀(d:D)(x y:V)(u v:Value)(A:Around),(∃i,d=.int i)∨(∃t,d=.str t)→Rv X.K H d x→Rv X.K H d y→RelV x u→RelV y v→EqAt A s u v true:=by
  rintro d x y u v A (⟨i,rfl⟩ | ⟨t,rfl⟩) r1 r2 rx ry
  ·A7 Rv at r1 r2
   subst r1 r2
   A6⟨t1,rfl⟩:=rx
   A6⟨t2,rfl⟩:=ry
   have:=EqAt.int_int (A:=A) (s:=s) i t1 i t2
   rw[beq_self_eq_true]at this
   ~this
  ·A7 Rv at r1 r2
   subst r1 r2
   A6⟨t1,rfl⟩:=rx
   A6⟨t2,rfl⟩:=ry
   have:=EqAt.str_str (A:=A) (s:=s) t t1 t t2
   rw[beq_self_eq_true]at this
   ~this
 intro n
 induction n with
 | zero=>
  intro d x y u v A hd hu r1 r2 rx ry
  cases d with
  | int i=>~flat _ x y u v A (.inl ⟨i,rfl⟩) r1 r2 rx ry
  | str t=>~flat _ x y u v A (.inr ⟨t,rfl⟩) r1 r2 rx ry
  | _=>A7 Ii at hd;cases hd
 | succ n ih=>
  intro d x y u v A hd hu r1 r2 rx ry
  cases d with
  | int i=>~flat _ x y u v A (.inl ⟨i,rfl⟩) r1 r2 rx ry
  | str t=>~flat _ x y u v A (.inr ⟨t,rfl⟩) r1 r2 rx ry
  | lst ds=>
   A7 Ii at hd
   A7 Rv at r1 r2
   A6⟨a,xs,rfl,a1,a2⟩:=r1
   A6⟨b,ys,rfl,b1,b2⟩:=r2
   cases rx
   cases ry
   by_cases hab:a=b
   ·subst hab;~EqAt.same _
   A6⟨jT,v1,lM,_⟩:=I.list a1
   A6⟨its2,v2,oW,_⟩:=I.list b1
   have z:=RcAt.lists (A:=A) (s:=s) lM.isList oW.isList (by rw[B0,B0,←v1.length,←v2.length,a2.length,b2.length]) A0 (gF ih hd A0 a2 b2 v1 v2)
   rw[pO]at z
   ~EqAt.of_refs hab z
  | tup ds=>
   A7 Ii at hd
   A7 Rv at r1 r2
   A6⟨a,xs,rfl,a1,a2⟩:=r1
   A6⟨b,ys,rfl,b1,b2⟩:=r2
   cases rx
   cases ry
   by_cases hab:a=b
   ·subst hab;~EqAt.same _
   A6⟨jT,v1,lM,_⟩:=I.tuple a1
   A6⟨its2,v2,oW,_⟩:=I.tuple b1
   have z:=RcAt.tuples (A:=A) (s:=s) lM oW A0 (gF ih hd A0 a2 b2 v1 v2)
   rw[pO,show jT.toArray.size=its2.toArray.size by rw[B0,B0,←v1.length,←v2.length,a2.length,b2.length],beq_self_eq_true]at z
   ~EqAt.of_refs hab z
  | _=>A7 Ii at hd;cases hd
end
section
open SeqAt
variable{K:aA}{X:Cx}
def Lj(K:aA)(c:Bool):R2:=fun x y H Q=>∃ds,gR ds 32=true∧Rv K H (.lst ds) x∧Rv K H (.lst ds) y∧Q (.bl c) H
A8 Ww(hu:X.A.units+64<cLine):jQ X (compareOp .Eq) (Lj X.K true):=by
 intro pins s σ H x y v u Q I rx ry h
 A6⟨ds,hd,r1,r2,q⟩:=h
 A7 Rv at r1 r2
 A6⟨a,xs,rfl,a1,a2⟩:=r1
 A6⟨b,ys,rfl,b1,b2⟩:=r2
 cases rx
 cases ry
 A6⟨jT,v1,lM,_⟩:=I.list a1
 A6⟨its2,v2,oW,_⟩:=I.list b1
 have z:=RcAt.lists (A:=X.A) (s:=s) lM.isList oW.isList (by rw[B0,B0,←v1.length,←v2.length,a2.length,b2.length]) A0 (gF (Er I 32) hd A0 a2 b2 v1 v2)
 rw[pO]at z
 ~z X.prog X.w X.xe _ ⟨.bl _,H,I,rfl,q⟩
A8 Wx(hu:X.A.units+64<cLine):jQ X (compareOp .NotEq) (Lj X.K false):=by
 intro pins s σ H x y v u Q I rx ry h
 A6⟨ds,hd,r1,r2,q⟩:=h
 A7 Rv at r1 r2
 A6⟨a,xs,rfl,a1,a2⟩:=r1
 A6⟨b,ys,rfl,b1,b2⟩:=r2
 cases rx
 cases ry
 A6⟨jT,v1,lM,_⟩:=I.list a1
 A6⟨its2,v2,oW,_⟩:=I.list b1
 have z:=RcNeAt.lists (A:=X.A) (s:=s) lM.isList oW.isList (by rw[B0,B0,←v1.length,←v2.length,a2.length,b2.length]) A0 (gF (Er I 32) hd A0 a2 b2 v1 v2)
 rw[pO]at z
 ~z X.prog X.w X.xe _ ⟨.bl _,H,I,rfl,q⟩
open Classical in
noncomputable def Hj(c:Bool)(a b:D):Option D:=match a with
 | .lst ds=>if b=.lst ds∧gR ds 32=true then some (.bl c)else none
 | _=>none
A8 Lk(c:Bool):Ju K (Lj K c) (Hj c):=fun x y H a b d Q ra rb q k=>by
 A7 Hj at q
 split at q
 ·split at q
  ·rename_i h
   cases q
   rw[h.1]at rb
   ~⟨_,h.2,ra,rb,k _ H (aD.refl _) (.cX rfl (by A7 Rv;rfl))⟩
  ·cases q
 ·cases q
A8 Wy(hu:X.A.units+64<cLine)(hk:X.K=K):jQ X (compareOp .Eq) (Lj K true):=by subst hk;~Ww hu
A8 Wz(hu:X.A.units+64<cLine)(hk:X.K=K):jQ X (compareOp .NotEq) (Lj K false):=by subst hk;~Wx hu
end
section
variable{K:aA}{X:Cx}
def Bv(K:aA):List V→Hp→VK→Prop:=fun xs H Q=>∃(p:Addr)(zs:List V)(ps:List (Int×Int)),xs=[.ref p]∧gW K H p zs∧bC K H (ps.map pD) zs∧ps.length≤1000∧(ps.map (·.1)).Nodup∧∀l,H l=none→Q (.ref l) (upd H l (.dK (Le ps)))
A8 Bw(hc:X.calm=true):dY X (.type "dict") (Bv X.K):=by
 intro pins s σ H xs us Q I r h
 A6⟨p,zs,ps,rfl,hq,hr,hz,hn,q⟩:=h
 A6⟨u,rfl,rx⟩:=vals1 r
 cases rx
 A6⟨its,rv,pl,_⟩:=I.list hq
 &Li (I.ok.hd hc) pl (rR I hr rv) hn hz fun h' tk vs kv dd kp=>?_
 &⟨.ref _,_,I.laid (t':=tk) (a:=s.heap.objs.size) (o:=.dK (Le ps)) kp (B6 _) ?_,rfl,q _ (I.hok.fresh (B6 _))⟩
 ~Ak (by A7 Le;rw[B4,sizeLine_eq];omega) (beq_eq_false_iff_ne.mpr (Ne.symm (C3 I.big))) kv dd
def xH:List D→Option D
 | [.lst ds]=>(jY ds).bind fun ps=>if ps.length≤1000∧(ps.map (·.1)).Nodup then some (.dk (ps.map fun p=>.inl p.1) (ps.map fun p=>.int p.2))else none
 | _=>none
A8 Es:∀ps:List (Int×Int),(ps.map fun p=>(B5 p.1:Key)).zip (ps.map fun p=>V.int p.2)=Le ps
 | []=>rfl
 | p::ps=>by rw[B3,B3,F2,Es ps];rfl
A8 zJ{H:Hp}:∀ps:List (Int×Int),bH K H (ps.map fun p=>D.int p.2) nil (ps.map fun p=>V.int p.2)
 | []=>by rw[D4,D4];A7 bH;~⟨fun _ z=>z,rfl⟩
 | p::ps=>by
  rw[B3,B3]
  A7 bH
  &⟨_,_,nil,nil,rfl,fun _ z=>z.elim,fun x=>⟨.inl,fun z=>z.elim id id⟩,?_,zJ ps⟩
  A7 Ow
  ~⟨fun _ z=>z,rfl⟩
A8 Ln:rB K (Bv K) xH:=fun vs H ds d Q rs q k=>by
 A7 xH at q
 split at q
 ·A6⟨ps,q1,q2⟩:=aR q
  split at q2
  ·rename_i hl
   cases q2
   A6⟨v,rfl,r⟩:=wQ rs
   rw[kZ q1]at r
   A7 Rv at r
   A6⟨p,zs,rfl,r2,r3⟩:=r
   &⟨p,zs,ps,rfl,r2,r3,hl.1,hl.2,fun l hl=>k _ _ (bD hl _) ⟨(·=l),?_,fun a z=>by cases z;~hl⟩⟩
   A7 Ow
   ~⟨l,ps.map fun p=>V.int p.2,nil,rfl,by rw[Es];~aQ,by rw[B4,B4],fun z=>z,fun x=>⟨.inl,fun z=>z.elim id False.elim⟩,zJ ps⟩
  ·cases q2
 ·cases q
A8 Lp(hk:X.K=K)(hc:X.calm=true):dY X (.type "dict") (Bv K):=by subst hk;~Bw hc
end
end L2


namespace L2
open PySem PySem.W PySem.Spec PyProof.Rows
def lA{β:Type}:List Key→List β→Key→List β
 | a::ks,d::ds,k=>if a=k then lA ks ds k else d::lA ks ds k
 | _,_,_=>[]
def Bx(ks:List Key)(k:Key):List Key:=ks.filter fun a=>decide (a≠k)
A8 uY{k:Key}:∀{ks:List Key} {xs:List V},ks.length=xs.length→pZ (ks.zip xs) k=(Bx ks k).zip (lA ks xs k)∧(Bx ks k).length=(lA ks xs k).length
 | [],xs,_=>⟨rfl,by cases xs<;>rfl⟩
 | a::ks,[],h=>by simp at h
 | a::ks,x::xs,h=>by
  A6⟨h1,h2⟩:=uY (k:=k) (ks:=ks) (xs:=xs) (by simpa using h)
  A7 pZ at h1 ⊢
  A7 Bx at h1 h2 ⊢
  A7 lA
  rw[F2,G7,G7]
  by_cases c:a=k
  ·rw[if_neg (by simp[c]),if_neg (by simp[c]),if_pos c]
   ~⟨h1,h2⟩
  ·rw[if_pos (by simp[c]),if_pos (by simp[c]),if_neg c,F2,h1]
   ~⟨rfl,by rw[F0,F0,h2]⟩
section
variable{K:aA}{X:Cx}{e a b c:Expr}{ta tb te:TE}{f g:FE}{pos:Pos}{i j:Nat}{π:FP}{tc:TT}{fc:FT}
A8 Et{H:Hp}(k:Key):∀{ks:List Key} {ds:List D} {A:Fp} {xs:List V},ks.length=xs.length→bH K H ds A xs→∃A',(∀x,A' x→A x)∧bH K H (lA ks ds k) A' (lA ks xs k)
 | [],ds,A,xs,hl,h=>by
  cases xs with
  | nil=>~⟨nil,fun _ z=>z.elim,by cases ds<;>(A7 lA bH;~⟨fun _ z=>z,rfl⟩)⟩
  | cons x xs=>simp at hl
 | k0::ks,[],A,xs,hl,h=>by A7 bH at h;rw[h.2]at hl;simp at hl
 | k0::ks,d0::ds,A,xs,hl,h=>by
  A7 bH at h
  A6⟨y,yt,A1,A2,rfl,h2,h3,h4,h5⟩:=h
  A6⟨A',a1,a2⟩:=Et k (ks:=ks) (by simpa using hl) h5
  A7 lA
  by_cases c:k0=k
  ·rw[if_pos c,if_pos c]
   ~⟨A',fun x q=>(h3 x).mpr (.inr (a1 x q)),a2⟩
  ·rw[if_neg c,if_neg c]
   &⟨cI A1 A',fun x q=>(h3 x).mpr (q.imp id (a1 x)),?_⟩
   A7 bH
   ~⟨y,_,A1,A',rfl,fun x z1 z2=>h2 x z1 (a1 x z2),fun _=>Iff.rfl,h4,a2⟩
def uZ(i:Nat)(π:FP)(g:FE):GS:=fun env=>match env[i]?,π (rE env),g (rE env)with
 | some (.own d0),some p,some k=>(match lX p d0,Gw k with
  | some (.dk ks ds),some k=>if(posK ks k).isSome=true then .next (env.set i (.own (lY p d0 (.dk (Bx ks k) (lA ks ds k)))))else .bad
  | _,_=>.bad)
 | _,_,_=>.bad
A8 Qx(h:FQ K ta i π)(hx:wL K tb g):BJ K (nU (An ta tb)) (uZ i π g):=fun B E σ H env r p=>by
 A7 uZ at p
 split at p
 ·rename_i d0 pp kd q1 q2 q3
  split at p
  ·rename_i ks ds k q4 q5
   split at p
   ·rename_i hc
    A6⟨v0,a,xs,Bs,k1,k2,k3,Sy,k4,k5,k6⟩:=r.BL q1 q4
    &h σ H (rE env) v0 pp _ _ r.r k1 q2 k2 fun H2 s2=>?_
    &⟨a,rfl,.inl ⟨_,.of (s2 _ _ k3)⟩,hx σ H2 H2 (rE env) _ _ (Zn.self K H2) (r.r.same s2) q3 fun y' H3 Z3 s3 t3 z3 JS=>?_⟩
    have KR:=s2.trans s3
    have ek:=pL q5 (z3.sm.rv _ _ JS)
    A6⟨j,hj⟩:=O1.mp hc
    have hjl:j<xs.length:=by have:=(pK hj).1;omega
    A6⟨e1,e2⟩:=uY (k:=k) Sy
    A6⟨A',a1,a2⟩:=Et k Sy (k5.same KR)
    &⟨ks.zip xs,k,xs[j],KR _ _ k3,ek,by rw[fH Sy,hj,C7,A9 hjl],p _ ?_⟩
    rw[e1]
    ~k6 H3 (Bx ks k) (lA ks ds k) (lA ks xs k) A' KR e2 a2 fun b z=>.inl (a1 b z)
   ·~p.elim
  ·~p.elim
 ·~p.elim
A8 Qy{apos cpos:Pos}(h:XP K X a ta i π)(hx:XR K X b tb g)(m:M1 X a "pop" apos b cpos):YS K X (.Expr (.Call (.Attribute a "pop" apos) [b] [] cpos) pos) (nU (An ta tb)) (uZ i π g):=⟨pG (Ji h.pe hx.pe m),(Qx h.ev hx.ev).ds⟩
def CP(K:aA)(wi:TI)(fi:FA):Prop:=∀(σ:St)(H:Hp)(e:DE)(ds:List D)(R:It→Hp→Prop),iG K H e σ→fi e=some ds→(∀J H' P vs,aD H H'→Vq J P vs→(∀H2,aD H' H2→P H2)→bC K H' ds vs→R J H')→wi σ H R
A8 Lq{wi:TI}{fi:FA}{fr:List Nat}{te:TE}{fe:FE}(hi:CP K wi fi)(hc:Ah K tc fc)(he:uA K te fe):uA K (lJ wi 1 fr (bZ 0) tc te) (fK fi fr fc fe):=by
 intro σ H e d Q re q k
 A7 fK at q
 A6⟨xs,q1,q⟩:=aR q
 split at q
 ·rename_i hlen
  A6⟨ds,q2,rfl⟩:=cR q
  &hi σ H e xs _ re q1 fun J H1 P vs s1 hJ hP rvs=>?_
  intro D0 hD
  have hl:=rvs.length
  have JL:H D0=none:=s1.free hD
  generalize hcc:(fun x=>fc (some x::dC e fr))=cc at q2
  generalize hel:(fun x=>fe (some x::dC e fr))=el at q2
  &⟨fun i m ys H2=>∃Gz Qi A,m=vs.length-i∧i≤vs.length∧ds=Gz++Qi∧eE cc el (xs.drop i)=some Qi∧aD H1 H2∧H2 D0=some (.lst ys)∧bH K H2 Gz A ys∧(∀a,A a→H1 a=none∧a≠D0)∧ys.length≤i,
   ⟨vs.length,[],ds,nil,by simp,F9 _,rfl,by simpa using q2,bD hD _,aQ,by A7 bH;~⟨fun _ z=>z,rfl⟩,fun _ z=>z.elim,B6 _⟩,?_⟩
  rintro i m ys H2 ⟨Gz,Qi,A,rfl,hi',hds,hcl,s2,hD2,ow,fr2,hyl⟩
  A6⟨j1,j2,j3⟩:=hJ i H2 (hP H2 s2)
  &⟨hD2,?_⟩
  by_cases hlt:i<vs.length
  ·&.inr ⟨j1 hlt,fun x H' y=>?_⟩
   A6⟨e1,ex⟩:=j2 x H' y
   subst e1
   have hx:=ex hlt
   have hxi:i<xs.length:=by omega
   have hxs:xs.drop i=xs[i]::xs.drop (i+1):=K4 hxi
   A6⟨x',hx',rx⟩:=rvs.get (A9 hxi)
   rw[hx]at hx'
   cases hx'
   rw[hxs]at hcl
   A7 eE at hcl
   A6⟨bb,c1,c2⟩:=aR hcl
   show Kp 1 σ fr (some x::wD σ fr)∧_
   &⟨⟨by simp[blk],fun j v hv=>?_⟩,?_⟩
   ·cases j with
    | zero=>simp[blk]at hv
    | succ j=>simpa[blk]using hv
   have Zw:iG K H' (some xs[i]::dC e fr) (some x::wD σ fr):=Ef (re.same (s1.trans s2)) (s2.rv _ _ rx)
   &hc _ H' _ bb _ Zw (by rw[←hcc]at c1;~c1) fun H3 s3=>?_
   have Wj:=s3 _ _ hD2
   cases bb with
   | false=>
    rw[if_neg A4]at c2 ⊢
    ~⟨vs.length-(i+1),by omega,Gz,Qi,A,rfl,by omega,hds,c2,s2.trans s3,Wj,ow.same s3,fr2,by omega⟩
   | true=>
    rw[if_pos rfl]at c2 ⊢
    A6⟨dy,c3,c4⟩:=aR c2
    A6⟨JM,c5,rfl⟩:=cR c4
    &he _ H3 _ dy _ (Zw.same s3) (by rw[←hel]at c3;~c3) fun yv H4 s4 n4=>?_
    have Zx:=s4 _ _ Wj
    &⟨Zx,Du A0,vs.length-(i+1),by omega,Gz++[dy],JM,?_⟩
    A6⟨B,oB,fB⟩:=n4
    have hB:∀a,B a→H1 a=none∧a≠D0:=fun a qa=>⟨(s2.trans s3).free (fB a qa),fun z=>by have q0:=fB a qa;rw[z,Wj]at q0;cases q0⟩
    &⟨cI A B,rfl,by omega,by rw[hds];simp,c5,fun b o eb=>?_,aQ,?_,fun a qa=>qa.elim (fr2 a) (hB a),by rw[D7];simp;~hyl⟩
    ·rw[aJ (bU eb hD)]
     ~(s2.trans (s3.trans s4)) b o eb
    ·have o4:=(ow.same s3).same s4
     have ap:Apart A B:=fun a qa qb=>by
      A6⟨⟨u,eu⟩,_⟩:=bH.cells _ _ _ (ow.same s3) a qa
      rw[fB a qb]at eu;cases eu
     have all:bH K H4 (Gz++[dy]) (cI A B) (ys++[yv]):=cA.mpr ((cA.mp o4).snoc oB ap)
     ~bH.frame (kY (fG Zx)) _ _ _ all fun a qa=>aJ (qa.elim (fun z=>(fr2 a z).2) fun z=>(hB a z).2)
  ·have ei:i=vs.length:=by omega
   subst ei
   have:xs.drop vs.length=[]:=P6 A0
   rw[this]at hcl
   A7 eE at hcl
   cases hcl
   rw[L8]at hds
   subst hds
   &.inl ⟨j3 (B6 _),k _ H2 (s1.trans s2) ⟨cI (·=D0) A,?_,fun a qa=>qa.elim (fun z=>by cases z;~JL) fun z=>s1.free (fr2 a z).1⟩⟩
   A7 Ow
   ~⟨D0,ys,A,rfl,hD2,fun z=>(fr2 D0 z).2 rfl,fun _=>Iff.rfl,ow⟩
 ·cases q
def QJ(a:Addr)(o:Obj)(kvs:List (Key×V)):TI:=fun _ H R=>H a=some (.eV o (.dK kvs))→R (FN a o kvs) H
A8 Lr{H:Hp}:∀{ks:List Key} {xs:List V},ks.length=xs.length→bC K H (ks.map kD) ((ks.zip xs).map fun kv=>kV kv.1)
 | [],xs,_=>by rw[D4,List.zip_nil_left,D4];A7 bC;rfl
 | k::ks,[],h=>by simp at h
 | k::ks,x::xs,h=>by
  rw[B3,F2,B3]
  A7 bC
  &⟨_,_,rfl,?_,Lr (by simpa using h)⟩
  cases k with
  | inl i=>A7 kD Rv;rfl
  | inr x=>A7 kD Rv;rfl
A8 Xa{a:Addr}{o:Obj}{ks:List Key}{xs:List V}(hl:ks.length=xs.length):CP K (QJ a o (ks.zip xs)) (fun _=>some (ks.map kD)):=fun σ H e ds R re q k=>by
 cases q
 ~fun hf=>k _ H _ _ (aD.refl _) Jo (fun H2 s=>s _ _ hf) (Lr hl)
A8 Ls{B:Hp}{env:EN}{σ:St}{H:Hp}{ks:List Key}{ds:List D}{ns:List Int}(r:Rel K B env σ H)(e:env[i]?=some (.own (.dk ks ds)))(hn:intsOf ds=some ns):∃a xs,σ[i]?=some (some (.ref a))∧H a=some (.dK (ks.zip xs))∧ks.length=xs.length ∧
  ∀o,Rel K B (env.set i (.fro (.dk ks ds))) σ (upd H a (.eV o (.dK (ks.zip xs)))):=by
 A6⟨A,a0,bb⟩:=r
 have cl:=cN a0
 A6⟨y,A1,C,h1,h2,h3,h4,k⟩:=a0.focus e
 have h4':=h4
 A6⟨v,rfl,ow⟩:=h4
 A7 Ow at ow
 A6⟨a,xs,Bs,rfl,o2,o2',o3,o4,o5⟩:=ow
 &⟨a,xs,h1,o2,o2',fun o=>?_⟩
 have ha1:A1 a:=(o4 a).mpr (.inl rfl)
 have haC:¬C a:=fun z=>h2 a ha1 z
 have tk:mQ K H (upd H a (.eV o (.dK (ks.zip xs)))):=kY (lO o2)
 have g:aD (out H A) (out (upd H a (.eV o (.dK (ks.zip xs)))) (cI nil C)):=fun x u ex=>by
  A6⟨e1,e2⟩:=aV.mp ex
  have na:x≠a:=fun z=>e1 ((h3 x).mpr (.inl (z▸ha1)))
  ~aV.mpr ⟨fun z=>e1 ((h3 x).mpr (.inr (z.elim False.elim id))),by rw[aJ na];~e2⟩
 have za:out (upd H a (.eV o (.dK (ks.zip xs)))) (cI nil C) a=some (.eV o (.dK (ks.zip xs))):=aV.mpr ⟨fun z=>z.elim id haC,aQ⟩
 have hxs:xs=ns.map V.int:=by
  have:=bH.rv _ _ _ o5
  rw[iI hn]at this
  ~fJ.mp this
 have key:=k (cY K (upd H a (.eV o (.dK (ks.zip xs)))) (out (upd H a (.eV o (.dK (ks.zip xs)))) (cI nil C))) (fun sd D z hb qq=>by
  have fm:∀x,D x→upd H a (.eV o (.dK (ks.zip xs))) x=H x:=fun x zx=>aJ fun w=>haC (w▸hb x zx)
  cases sd with
  | no=>~qq
  | fro d=>A6⟨q1,v,q2,q3⟩:=qq;~⟨q1,v,q2,g.rv _ _ q3⟩
  | inn v d=>~⟨qq.1,Ow.frame tk _ _ _ qq.2 fm⟩
  | own d=>A6⟨v,q1,q2⟩:=qq;~⟨v,q1,Ow.frame tk _ _ _ q2 fm⟩) (.fro (.dk ks ds)) (some (.ref a)) nil (fun _ z=>z.elim) ⟨fun _ z=>z,_,rfl,by
   A7 Rv
   &⟨a,xs,rfl,.inr ⟨o,za⟩,o2',?_⟩
   rw[iI hn]
   ~fJ.mpr hxs⟩
 rw[set_same h1]at key
 ~⟨cI nil C,key,bb.trans g⟩
def xJ(ks:List Key)(fr:List Nat)(fe:FE):FE:=fL rU (aC (fK (fun _=>some (ks.map kD)) fr Ko fe) aN)
def vA(t i:Nat)(fr:List Nat)(fe:FE):GS:=fun env=>match env[t]? with
 | some (.own (.dk ks ds))=>(match intsOf ds with
  | some _=>dB i (xJ ks fr fe) (env.set t (.fro (.dk ks ds)))
  | none=>.bad)
 | _=>.bad
A8 Qz{t:Nat}{fr:List Nat}{fe:FE}(he:uA K te fe):DS K (xX (Ol (nF K) (eX (lJ (Jp (tV t)) 1 fr (bZ 0) Jk te) oR)) (bZ i)) (vA t i fr fe):=fun B E σ H env r p=>by
 A7 vA at p
 split at p
 case h_2=>~p.elim
 rename_i ks ds q
 split at p
 case h_2=>~p.elim
 rename_i ns hn
 A6⟨a,xs,k1,k2,k3,k4⟩:=Ls r q hn
 &⟨_,k1,a,ks.zip xs,rfl,k2,fun o=>?_⟩
 have hT:Ah K Jk Ko:=fun σ H e b Q re q k=>by cases q;~k H (aD.refl _)
 have ev:uA K (Ol (nF K) (eX (lJ (QJ a o (ks.zip xs)) 1 fr (bZ 0) Jk te) oR)) (xJ ks fr fe):=Kg zA (Ds (Lq (Xa k3) hT he).r Jx)
 ~(Bg (i:=i) ev) B E σ _ _ (k4 o) p aQ
A8 Ra{tg elt iter:Expr}{scope:Scope}{fr:List Nat}{fe:FE}{t:Nat}{x y:Str}{p2 p3 p4 pos':Pos}(N:List Str)(hcalm:X.calm=true)(B:bW X.env.scope scope X.N N 1 fr)(hv:PE X iter (tV t))
  (hg:∀cl fp s H C,PG (bO X scope N cl fp s H C) tg (bZ 0)) (he:∀cl fp s H C,XN K (bO X scope N cl fp s H C) elt te fe) (hk:X.K=K)
  (VH:Gl X y) (hm:X.mg y=none) (hb:bootBuiltins y=some (.builtin "sorted")) (hN:X.N.Nodup) (hi:X.N[i]?=some x) (hx:Loc X.env.scope x)
  (hs:∀x,foldedSetIterable iter X.env x=pure x:=by intro _;rfl) (hn:y ≠ "__name__" := by decide) (hdb:(y==("__debug__" : Str))=false:=by decide)
  (hst:starEach [.ListComp elt [⟨tg,iter,[],0⟩] scope p4] X.env=(false,eval (.ListComp elt [⟨tg,iter,[],0⟩] scope p4) X.env)::starEach [] X.env:=by rfl)
  (hpl:(backTo p3 (starEach [] X.env)).any (·.1)=false:=by rfl)
  (hsw:swapsWith (.Call (.Name y p2) [.ListComp elt [⟨tg,iter,[],0⟩] scope p4] [] p3) (some (.Name x pos')) pos.line X.env=pure false:=by rfl)
  (hf:X.fn x=true∨X.env.scope.names.lookup x=some .local:=by first | ~.inl rfl | ~.inr rfl | assumption) :
  YS K X (.Assign [.Name x pos'] (.Call (.Name y p2) [.ListComp elt [⟨tg,iter,[],0⟩] scope p4] [] p3) pos) (xX (Ol (nF K) (eX (lJ (Jp (tV t)) 1 fr (bZ 0) Jk te) oR)) (bZ i)) (vA t i fr fe):=
 ⟨cF hN hi hx (pY (zB hk) VH hm hb (gA (Dm N 1 fr hcalm B (Pu hv) hg (fun cl fp s H C=>Pg) (fun cl fp s H C=>(he cl fp s H C).pe) hs) mJ hst) hn hdb hst hpl) hsw hf,Qz (he [] [] X.s₀ X.H₀ 0).ev⟩
end
end L2


namespace L2
open PySem PySem.W PySem.Spec PyProof.Rows
section
open SeqAt
variable{K:aA}{X:Cx}
end
end L2


namespace L2
open PySem PySem.Spec PyProof.Rows
abbrev fU(ns:List Int):D:=.lst (ns.map D.int)
A8 nG{i:Nat}{g:GS}(I:Nat→EN→Prop):∀(xs:List D)(env:EN)(n:Nat),I n env→(∀k x env,xs[k]?=some x→I (n+k) env→i<env.length∧∃env',g (env.set i (.fro x))=.next env'∧I (n+k+1) env')→∃env',wR i g xs env=.next env'∧I (n+xs.length) env'
 | [],env,n,h,_=>⟨env,by A7 wR;rfl,h⟩
 | x::xs,env,n,h,st=>by
  A6⟨h1,env',h2,h3⟩:=st 0 x env rfl h
  A6⟨wU,a1,a2⟩:=nG I xs env' (n+1) h3 fun k y e hk hi=>by
   have:=st (k+1) y e (by simpa using hk) (by rw[show n+(k+1)=n+1+k by omega];~hi)
   rw[show n+(k+1)+1=n+1+k+1 by omega]at this
   ~this
  &⟨wU,?_,?_⟩
  ·A7 wR
   rw[if_pos h1,h2]
   ~a1
  ·rw[F0,show n+(xs.length+1)=n+1+xs.length by omega]
   ~a2
A8 fV{g1 g2:GS}{env env':EN}(h:g1 env=.next env'):aX g1 g2 env=g2 env':=by A7 aX;rw[h]
A8 zK{g1 g2:GS}{env:EN}{d:D}(h:g1 env=.ret d):aX g1 g2 env=.ret d:=by A7 aX;rw[h]
A8 rY{f:FT}{g1 g2:GS}{env:EN}(h:f (rE env)=some true):rH f g1 g2 env=g1 env:=by A7 rH;rw[h]
A8 nH{f:FT}{g1 g2:GS}{env:EN}(h:f (rE env)=some false):rH f g1 g2 env=g2 env:=by A7 rH;rw[h]
A8 Eu{i:Nat}{f:FE}{env:EN}{d:D}(h:f (rE env)=some d)(hi:i<env.length):dB i f env=.next (env.set i (.own d)):=by A7 dB;rw[h];dsimp only;rw[if_pos hi]
A8 eG{f:FE}{env:EN}{d:D}(h:f (rE env)=some d):dX f env=.ret d:=by A7 dX;rw[h]
A8 Ew{js:List Nat}{i:Nat}{fi:FA}{g:GS}{env iM:EN}{xs:List D}(h0:eV js env=iM)(h:fi (zE iM)=some xs):pB js i fi g env=wR i g xs iM:=by A7 pB;rw[h0,h]
A8 fW{n m:Nat}{g:GS}{ds:List D}{d:D}(hl:ds.length=m)(h:g (ds.map SD.fro++E2 (n-m) SD.no)=.ret d):fO n m g ds=some d:=by A7 fO;rw[if_pos hl,h]
A8 aM{φ:D→D→Option D}{f g:FE}{e:DE}{a b d:D}(h1:f e=some a)(h2:g e=some b)(h:φ a b=some d):f2 φ f g e=some d:=by A7 f2;rw[h1,h2];~h
A8 jZ{φ:List D→Option D}{fs:FA}{e:DE}{ds:List D}{d:D}(h1:fs e=some ds)(h:φ ds=some d):fL φ fs e=some d:=by A7 fL;rw[h1];~h
A8 aB{f:FE}{fs:FA}{e:DE}{a:D}{r:List D}(h1:f e=some a)(h2:fs e=some r):aC f fs e=some (a::r):=by A7 aC;rw[h1,h2];rfl
A8 aW{n:Nat}{F:List D→Option D}{fs:FA}{e:DE}{ds:List D}{d:D}(h1:fs e=some ds)(hl:ds.length=n)(h:F ds=some d):bI n F fs e=some d:=by A7 bI;rw[h1];dsimp only[C7];rw[if_pos hl];~h
A8 cD{f:FE}{e:DE}{b:Bool}(h:f e=some (.bl b)):fB f e=some b:=by A7 fB;rw[h];rfl
A8 gG{f:FT}{e:DE}{b:Bool}(h:f e=some b):mZ f e=some (!b):=by A7 mZ;rw[h];rfl
A8 zL{f g:FT}{e:DE}(h:f e=some false):Nq f g e=g e:=by A7 Nq;rw[h];rfl
A8 Lw{f g:FT}{e:DE}(h:f e=some false):oZ f g e=some false:=by A7 oZ;rw[h];rfl
A8 cH{f:FE}{e:DE}{d:D}(h:f e=some d)(i:d.cX=true):dI f e=some d:=uU.mpr ⟨h,i⟩
A8 cO(i j:Int):gO (.int i) (.int j)=some (.int (i+j)):=rfl
A8 lZ(i j:Int):Jz (.int i) (.int j)=some (.int (i-j)):=by A7 Jz tQ;~if_pos True.intro
A8 iU{i j:Int}(h:vR i j):Gs (.int i) (.int j)=some (.int (i*j)):=by A7 Gs tQ;~if_pos h
A8 iV{i j:Int}(h:0<j)(h2:j<1073741824):Gu (.int i) (.int j)=some (.int (i/j)):=by A7 Gu tQ;~if_pos (show Ga i j from⟨h,h2⟩)
A8 bY{i j:Int}(h:0<j):mV (.int i) (.int j)=some (.int (i%j)):=by A7 mV tQ;~if_pos h
A8 fX{i j:Int}(h:Gb i j):oY (.int i) (.int j)=some (.int (i ^ j.toNat)):=by A7 oY tQ;~if_pos h
A8 xK(i j:Int):Zq (.int i) (.int j)=some (.bl (decide (i<j))):=by A7 Zq tQ;~if_pos True.intro
A8 Ey(i j:Int):decide (V.int i=V.int j)=decide (i=j):=by
 by_cases c:i=j
 ·subst c;simp
 ·rw[decide_eq_false c,decide_eq_false (fun z=>c (by cases z;rfl))]
A8 xM(i j:Int):Gv (.int i) (.int j)=some (.bl (decide (i=j))):=by
 A7 Gv toV
 dsimp only
 rw[if_pos (by rfl),Ey]
A8 pP(i j:Int):Yi (.int i) (.int j)=some (.bl (!decide (i=j))):=by
 A7 Yi toV
 dsimp only
 rw[if_pos (by rfl),Ey]
A8 By{α:Type}{xs:List α}{i:Int}{x:α}(h0:0≤i)(h:xs[i.toNat]?=some x):Jc xs i=some x:=by
 have h1:i.toNat<xs.length:=by
  A6⟨h1,_⟩:=B9.mp h
  ~h1
 A7 Jc Zb
 rw[if_pos h0,if_pos A0]
 ~h
A8 mC{ds:List D}{i:Int}{d:D}(h0:0≤i)(h:ds[i.toNat]?=some d):nZ (.lst ds) (.int i)=some d:=By h0 h
A8 jJ{ds:List D}{i:Int}{d:D}(h0:0≤i)(h:ds[i.toNat]?=some d):nZ (.tup ds) (.int i)=some d:=By h0 h
A8 rZ{ns:List Int}{i:Int}(h0:0≤i)(h:i<ns.length):nZ (fU ns) (.int i)=some (.int (ns.getD i.toNat 0)):=By h0 (by
 rw[C4,B7,A9 (show i.toNat<ns.length by omega)];rfl)
A8 mD(ds:List D):uB [.lst ds]=some (.int ds.length):=rfl
A8 sE(ds:List D):uB [.tup ds]=some (.int ds.length):=rfl
A8 nJ(ns:List Int):uB [fU ns]=some (.int ns.length):=by show some (D.int ((ns.map D.int).length:Nat))=_;rw[B4]
A8 zM{fi:FA}{fr:List Nat}{fc:FT}{fe:FE}{e:DE}{xs ys:List D}(h1:fi e=some xs)(hl:xs.length≤100000)(h:eE (fun x=>fc (some x::dC e fr)) (fun x=>fe (some x::dC e fr)) xs=some ys):fK fi fr fc fe e=some (.lst ys):=by
 A7 fK
 rw[h1,C7,if_pos hl,h]
 rfl
A8 Rb{i j:Int}(h1:-18446744073709551616<j)(h2:j<18446744073709551616):vR i j:=.inr ⟨h1,h2⟩
A8 Xb{i:Nat}{f:FE}{env:EN}{ds:List D}{d:D}(h1:env[i]?=some (.own (.lst ds)))(h2:f (rE env)=some d)(hl:ds.length<100000):yR i iQ f env=.next (env.set i (.own (.lst (ds++[d])))):=by
 A7 yR iQ
 rw[h1,h2]
 dsimp only[lX]
 rw[if_pos hl]
 rfl
end L2


namespace L2
open PySem PySem.Spec PyProof.Rows
section
variable{i j:Nat}{f:FE}{c:FT}{g1 g2 g:GS}{env env':EN}{d:D}{r:SR}{ds:List D}
A8 Te{b:Bool}(h:c (rE env)=some b)(k1:b=true→aX g1 g env=r)(k2:b=false→aX g2 g env=r):aX (rH c g1 g2) g env=r:=by
 cases b with
 | true=>have k:=k1 rfl;A7 aX at k ⊢;rw[rY h];~k
 | false=>have k:=k2 rfl;A7 aX at k ⊢;rw[nH h];~k
A8 Xc{b:Bool}(h:c (rE env)=some b)(hb:b=false)(k:aX g2 g env=r):aX (rH c g1 g2) g env=r:=Te h (fun z=>by rw[hb]at z;cases z) fun _=>k
A8 Xd{b:Bool}(h:c (rE env)=some b)(hb:b=true)(k:aX g1 g env=r):aX (rH c g1 g2) g env=r:=Te h (fun _=>k) (fun z=>by rw[hb]at z;cases z)
A8 CQ(k:g env=r):aX fM g env=r:=k
A8 CT(h:f (rE env)=some d)(k:SR.ret d=r):aX (dX f) g env=r:=(zK (eG h)).trans k
A8 jK{fs:FA}{e:DE}(h:fs e=some ds)(hl:ds.length≤100000):mU fs e=some (.tup ds):=by A7 mU cap;rw[h];dsimp only[C7];rw[if_pos hl]
A8 eN{fs:FA}{e:DE}(h:fs e=some ds)(hl:ds.length≤100000):kI fs e=some (.lst ds):=by A7 kI cap;rw[h];dsimp only[C7];rw[if_pos hl]
A8 pQ{e:DE}{T:String}{d':D}(h:f e=some d)(k:yU T d=some d'):yV T f e=some d':=by A7 yV;rw[h];~k
A8 Lx{e:DE}{b:Bool}(h:f e=some (.bl b)):yN f e=some (.bl (!b)):=by A7 yN;rw[cD h];rfl
A8 xN{e:DE}{f':FE}(h:f e=some (.bl true))(k:f' e=some d):rA f f' e=some d:=by A7 rA;rw[cD h];~k
A8 pR{e:DE}{c':FT}{a b:Bool}(h:c e=some a)(k:c' e=some b):oZ c c' e=some (a&&b):=by
 A7 oZ;rw[h]
 cases a with
 | true=>~k
 | false=>rfl
A8 dJ{e:DE}(h:f e=some (.lst ds)):pA f e=some ds:=by A7 pA;rw[h];rfl
A8 Ho{a b:List D}(h:D.bM (a++b)=true)(hl:a.length+b.length≤100000):gO (.lst a) (.lst b)=some (.lst (a++b)):=by
 show (if D.bM (a++b)=true∧a.length+b.length≤100000 then some (D.lst (a++b))else none)=_
 rw[if_pos ⟨h,hl⟩]
A8 vB(d:D)(ds:List D):D.bM (d::ds)=(d.cX&&D.bM ds):=by rw[D.bM]
A8 Ly{a b:List D}:D.bM (a++b)=(D.bM a&&D.bM b):=by
 induction a with
 | nil=>rw[T4,D.bM];rfl
 | cons x a ih=>rw[K0,vB,vB,ih,Bool.and_assoc]
A8 vC(h:D.bM ds=true):dList [.lst ds]=some (.lst ds):=by
 show (if D.bM ds=true then some (D.lst ds)else none)=_
 rw[if_pos h]
A8 Ca(ns:List Int):cT (ns.map D.int)=some (ns.map DV.int):=by
 induction ns with
 | nil=>A7 cT;rfl
 | cons n ns ih=>rw[B3];A7 cT bR;rw[C7,ih];rfl
end
end L2
namespace L2
A8 Rc{i:Nat}{e:DE}{d:D}(h:e[i]?=some (some d)):aG i e=some d:=by A7 aG;rw[h];rfl
A8 Lz{e:DE}:aN e=some []:=rfl
end L2
namespace L2
end L2


namespace L2
open PySem PySem.Spec PyProof.Rows
def Qs(Pr:SR→Prop)(r:SR):Prop:=Pr r
section
variable{i j:Nat}{f:FE}{c:FT}{g1 g2 g gb:GS}{env env':EN}{d:D}{ds:List D}{Pr:SR→Prop}
A8 cZ(h:f (rE env)=some d)(hi:i<env.length)(k:Qs Pr (g (env.set i (.own d)))):Qs Pr (aX (dB i f) g env):=by rw[fV (Eu h hi)];~k
A8 KY(h:g1 env=.next env')(k:Qs Pr (g env')):Qs Pr (aX g1 g env):=by rw[fV h];~k
A8 Cd(k:Qs Pr (g env)):Qs Pr (aX fM g env):=k
A8 CV(k:Pr (.next env)):Qs Pr (fM env):=k
A8 Xe{b:Bool}(h:c (rE env)=some b)(k1:b=true→Qs Pr (aX g1 g env))(k2:b=false→Qs Pr (aX g2 g env)):Qs Pr (aX (rH c g1 g2) g env):=by
 cases b with
 | true=>have k:=k1 rfl;A7 aX at k ⊢;rw[rY h];~k
 | false=>have k:=k2 rfl;A7 aX at k ⊢;rw[nH h];~k
A8 Tf{b:Bool}(h:c (rE env)=some b)(k1:b=true→Qs Pr (g1 env))(k2:b=false→Qs Pr (g2 env)):Qs Pr (rH c g1 g2 env):=by
 cases b with
 | true=>rw[rY h];~k1 rfl
 | false=>rw[nH h];~k2 rfl
A8 zN{b:Bool}(h:c (rE env)=some b)(hb:b=false)(k:Qs Pr (aX g2 g env)):Qs Pr (aX (rH c g1 g2) g env):=Xe h (fun z=>by rw[hb]at z;cases z) fun _=>k
A8 Xf{b:Bool}(h:c (rE env)=some b)(hb:b=false)(k:Qs Pr (g2 env)):Qs Pr (rH c g1 g2 env):=Tf h (fun z=>by rw[hb]at z;cases z) fun _=>k
A8 CW(h:f (rE env)=some d)(k:Pr (.ret d)):Qs Pr (aX (dX f) g env):=by rw[zK (eG h)];~k
A8 sG(h:f (rE env)=some d)(k:Pr (.ret d)):Qs Pr (dX f env):=by rw[eG h];~k
A8 Tg(h1:env[i]?=some (.own (.lst ds)))(h2:f (rE env)=some d)(hl:ds.length<100000)(k:Qs Pr (g (env.set i (.own (.lst (ds++[d])))))):Qs Pr (aX (yR i iQ f) g env):=by rw[fV (Xb h1 h2 hl)];~k
A8 Ez{js:List Nat}{fi:FA}{iM:EN}{xs:List D}(I:Nat→EN→Prop)(hf:eV js env=iM)(h:fi (zE iM)=some xs)(h0:I 0 iM)
  (st:∀(k:Nat) x env,xs[k]?=some x→I k env→i<env.length∧Qs (fun r=>∃env',r=.next env'∧I (k+1) env') (gb (env.set i (.fro x)))) (k:∀env',I xs.length env'→Qs Pr (g env')):Qs Pr (aX (pB js i fi gb) g env):=by
 A6⟨env',h1,h2⟩:=nG (i:=i) (g:=gb) I xs iM 0 h0 fun k x e hx hi=>by
  rw[M5]at hi ⊢
  ~⟨(st k x e hx hi).1,let ⟨e,a,b⟩:=(st k x e hx hi).2;⟨e,a,b⟩⟩
 rw[M5]at h2
 rw[fV ((Ew hf h).trans h1)]
 ~k env' h2
A8 sH{n m:Nat}{Pd:D→Prop}(hl:ds.length=m)(h:Qs (fun r=>∃d,r=.ret d∧Pd d) (g (ds.map SD.fro++E2 (n-m) SD.no))):∃d,fO n m g ds=some d∧Pd d:=by
 A6⟨d,h1,h2⟩:=h
 ~⟨d,fW hl h1,h2⟩
end
end L2
namespace L2
A8 Hq{fi:FA}{fr:List Nat}{fe:FE}{e:DE}{α:Type}{xs:List α}{ψ φ:α→D}(h1:fi e=some (xs.map ψ))(hn:xs.length≤1000)(he:∀x∈xs,fe (some (ψ x)::dC e fr)=some (φ x)):fK fi fr Ko fe e=some (.lst (xs.map φ)):=by
 &zM h1 (by rw[B4];omega) ?_
 clear h1 hn
 induction xs with
 | nil=>rw[D4,D4];A7 eE;rfl
 | cons x xs ih=>
  rw[B3]
  A7 eE
  show (some true).bind _=_
  rw[C7,if_pos rfl,he x C9,C7,ih fun y hy=>he y (C5 _ hy)]
  rfl
A8 Xg{b:Bool}{f:FE}{l h:FO}{e:DE}{ds:List D}{lo hi:Option Int}(h1:f e=some (.lst ds))(h2:l e=some lo)(h3:h e=some hi)(h4:b=false∨D.bM (gQ ds lo hi)=true):Nr b f l h e=some (.lst (gQ ds lo hi)):=by
 A7 Nr
 rw[h1,h2,h3]
 dsimp only[C7]
 rw[if_pos h4]
end L2


namespace L2
open PySem PySem.Spec PyProof.Rows
section
variable{i j:Nat}{f:FE}{c:FT}{g1 g2 g gb:GS}{env env':EN}{d:D}{ds:List D}{Pr:SR→Prop}
A8 Xh{js:List Nat}{fi:FA}{iM:EN}{xs:List D}(I:Nat→EN→Prop)(hf:eV js env=iM)(h:fi (zE iM)=some xs)(h0:I 0 iM)
  (st:∀(k:Nat) x env,xs[k]?=some x→I k env→i<env.length∧Qs (fun r=>∃env',r=.next env'∧I (k+1) env') (gb (env.set i (.fro x)))) (k:∀env',I xs.length env'→Pr (.next env')):Qs Pr (pB js i fi gb env):=by
 A6⟨env',h1,h2⟩:=nG (i:=i) (g:=gb) I xs iM 0 h0 fun k x e hx hi=>by
  rw[M5]at hi ⊢
  ~⟨(st k x e hx hi).1,let ⟨e,a,b⟩:=(st k x e hx hi).2;⟨e,a,b⟩⟩
 rw[M5]at h2
 rw[(Ew hf h).trans h1]
 ~k env' h2
end
end L2
namespace L2
A8 Fb{l:List Int}{b:Int}:(B5 b:Key)∈l.map (B5:Int→Key)↔b∈l:=by
 rw[D8]
 constructor
 ·rintro⟨a,h1,h2⟩;cases h2;~h1
 ·intro h;~⟨b,h,rfl⟩
A8 Ma{l:List Int}{b:Int}(h:b∉l):posK (l.map (B5:Int→Key)) (B5 b)=none:=mX.mpr fun z=>h (Fb.mp z)
end L2
namespace L2
end L2


namespace L2
open PySem PySem.Spec PyProof.Rows
def Hr(ks:List Int):D:=.dk (ks.map B5) (ks.map fun _=>.bl true)
A8 sI(i:Int)(ks:List Int):(posK (ks.map (B5:Int→Key)) (B5 i)).isSome=decide (i∈ks):=by
 by_cases c:i∈ks
 ·rw[decide_eq_true c]
  cases q:posK (ks.map (B5:Int→Key)) (B5 i)with
  | some j=>rfl
  | none=>~absurd (Fb.mpr c) (mX.mp q)
 ·rw[decide_eq_false c,Ma c]
  rfl
A8 xO(neg:Bool)(i:Int)(ks:List Int):lW neg (.int i) (Hr ks)=some (.bl (if neg then !decide (i∈ks)else decide (i∈ks))):=by
 show some (D.bl (if neg then !(posK (ks.map (B5:Int→Key)) (B5 i)).isSome else(posK (ks.map (B5:Int→Key)) (B5 i)).isSome))=_
 rw[sI]
def iW(ks:List Int)(k:Int):List Int:=if k∈ks then ks else ks++[k]
A8 sJ(ks:List Int)(k j:Int):j∈iW ks k↔j∈ks∨j=k:=by
 A7 iW
 split
 ·rename_i c
  ~⟨.inl,fun z=>z.elim id fun e=>by rw[e];~c⟩
 ·simp
A8 Ce{ks:List Int}{k:Int}(h:ks.Nodup):(iW ks k).Nodup:=by
 A7 iW
 split
 ·~h
 ·rename_i c
  ~L0.mpr ⟨h,by simp,fun x hx y hy=>by
   rw[D5.mp hy]
   intro z
   rw[z]at hx
   ~c hx⟩
A8 zO(ks:List Int)(k:Int):(iW ks k).length≤ks.length+1:=by
 A7 iW
 split
 ·omega
 ·simp
A8 vD(k:Key):∀ks:List Int,M4 (fun(k':Key) (d':D)=>if k'=k then D.bl true else d') (ks.map B5) (ks.map fun _=>D.bl true)=ks.map fun _=>D.bl true
 | []=>rfl
 | a::ks=>by
  rw[B3,B3,G3,vD k ks]
  split<;>rfl
A8 Mf{i:Nat}{f f':FE}{env:EN}{ks:List Int}{k:Int}(h1:env[i]?=some (.own (Hr ks)))(h2:f (rE env)=some (.int k))(h3:f' (rE env)=some (.bl true))(hl:ks.length<1000):iR i iQ f f' env=.next (env.set i (.own (Hr (iW ks k)))):=by
 A7 iR iQ
 rw[h1,h2,h3]
 dsimp only[lX,Hr]
 show (if D.cX (.bl true)=true∧(ks.map (B5:Int→Key)).length<100000 then _ else _)=_
 rw[if_pos ⟨rfl,by rw[B4];omega⟩]
 have e1:qX (ks.map (B5:Int→Key)) (B5 k)=(iW ks k).map B5:=by
  A7 qX iW
  rw[sI]
  by_cases c:k∈ks
  ·simp[c]
  ·simp[c]
 have e2:putD (ks.map (B5:Int→Key)) (ks.map fun _=>D.bl true) (B5 k) (.bl true)=(iW ks k).map fun _=>D.bl true:=by
  A7 putD iW
  rw[sI]
  by_cases c:k∈ks
  ·rw[decide_eq_true c,if_pos rfl,if_pos c,vD]
  ·rw[decide_eq_false c,if_neg A4,if_neg c,E6]
   rfl
 rw[e1,e2]
 rfl
A8 Xi{φ:D→Option D}{f:FE}{e:DE}{a d:D}(h1:f e=some a)(h:φ a=some d):FW φ f e=some d:=by A7 FW;rw[h1];~h
A8 zP{α β:Type}(φ:α→β)(l:List α)(lo hi:Option Int):gQ (l.map φ) lo hi=(gQ l lo hi).map φ:=by
 A7 gQ
 rw[B4,←List.map_drop,←List.map_take]
A8 sO{b:Bool}{f:FE}{l h:FO}{e:DE}{ns:List Int}{lo hi:Option Int}(h1:f e=some (fU ns))(h2:l e=some lo)(h3:h e=some hi):Nr b f l h e=some (fU (gQ ns lo hi)):=by
 rw[Xg h1 h2 h3 (.inr (by rw[zP];~rF _)),zP]
A8 Xj{α:Type}{l:List α}{c:Nat}(h:c≤l.length):gQ l (some (c:Int)) none=l.drop c:=by
 A7 gQ
 show (l.drop (HT.oU l.length 0 (some (c:Int)))).take (l.length-HT.oU l.length 0 (some (c:Int)))=_
 rw[lQ,show min c l.length=c by omega,L1 (by rw[L4];omega)]
A8 Xk{α:Type}(l:List α)(c:Nat):gQ l none (some (c:Int))=l.take c:=by
 A7 gQ
 show (l.drop 0).take (HT.oU l.length l.length (some (c:Int))-0)=_
 rw[lQ,List.drop_zero,Nat.sub_zero]
 rcases G9 c l.length with z | z
 ·rw[show min c l.length=c by omega]
 ·rw[show min c l.length=l.length by omega,L1 (B6 _),L1 z]
A8 Mg{α:Type}(l:List α)(a b:Nat):gQ l (some (a:Int)) (some (b:Int))=(l.drop a).take (b-a):=by
 A7 gQ
 rw[lQ,lQ]
 &N7 fun k=>?_
 rw[R8,N1,R8,N1]
 rcases G9 a l.length with z | z
 ·rw[show min a l.length=a by omega]
  by_cases c:k<min b l.length-a
  ·rw[if_pos c,if_pos A0]
  ·rw[if_neg c]
   by_cases c2:k<b-a
   ·rw[if_pos c2,F7 A0]
   ·rw[if_neg c2]
 ·rw[show min a l.length=l.length by omega,F7 (show l.length≤l.length+k by omega),F7 (show l.length≤a+k by omega)]
  split<;>split<;>rfl
structure CZ where
 DG:Int
 place:Int
 thing:List Int
 needs:List Int
 deriving Inhabited
def VJ(c:CZ):D:=.tup [.int c.DG,.int c.place,dTup c.thing,dTup c.needs]
def VL(cs:List CZ):D:=.lst (cs.map VJ)
abbrev at_(cs:List CZ)(k:Nat):CZ:=cs.getD k default
def YK(c:CZ):DV:=.tup [.int c.DG,.int c.place,.tup (c.thing.map DV.int),.tup (c.needs.map DV.int)]
A8 Mh(ns:List Int):bR (dTup ns)=some (.tup (ns.map DV.int)):=by
 A7 dTup bR
 rw[Ca]
 rfl
A8 nM{i j:Int}(h1:Builtin.Int.intBits i≤4000000)(h2:Builtin.Int.intBits j≤4000000):yZ (.int i) (.int j)=some (.int (i*j)):=by A7 yZ tQ;~if_pos (show oF i j from⟨h1,h2⟩)
end L2
namespace L2
A8 jL{f:FE}{e:DE}{i:Int}(h:f e=some (.int i)):iJ f e=some (some i):=by A7 iJ;rw[h];rfl
end L2
namespace L2
end L2


namespace L2
open PySem PySem.Spec PyProof.Rows
end L2


namespace L2
open PySem PySem.Spec PyProof.Rows
section
variable{i j:Nat}{f f':FE}{c:FT}{g1 g2 g gb:GS}{env env':EN}{d d0 d' r:D}{ds:List D}{Pr:SR→Prop}{v:V}{π:FP}{p:List Step}
A8 Mi(h:f (rE env)=some d):rG f env=.next env:=by A7 rG;rw[h]
A8 Xl(h:f (rE env)=some d)(k:Qs Pr (g env)):Qs Pr (aX (rG f) g env):=by rw[fV (Mi h)];~k
end
end L2


local macro_rules | `(tactic| walk_at "fs")=>`(tactic| ~⟨rfl,rfl,rfl,by decide +kernel,rfl,by decide +kernel,by decide +kernel⟩)
namespace Rs
open PySem L2
def top(i:Nat):Stmt:=PySem.Challenge.pw_ripestone_k33_plainly.main.body.getD i (.Pass ⟨0,0,0,0⟩)
abbrev lB:Stmt:=top 13
noncomputable def sS:GS:=aX (rH (fB (f2 Zq (aG 1) (fL uB (aC (aG 0) aN)))) (dX (dI (f2 nZ (aG 0) (aG 1)))) fM)
 (dX (fC (.int 0)))
noncomputable def gH:List D→Option D:=fO 2 2 (sS)
abbrev Cg:Stmt:=top 8
noncomputable def Xm:GS:=dX (dI (f2 nZ (aG 0) (fC (.int 1))))
noncomputable def lC:List D→Option D:=fO 1 1 (Xm)
abbrev Ci:Stmt:=top 7
noncomputable def Xn:GS:=dX (f2 Gv (f2 nZ (aG 0) (fC (.int 0))) (fC (.str "put")))
noncomputable def dO:List D→Option D:=fO 1 1 (Xn)
abbrev nO:Stmt:=top 9
noncomputable def Hs:GS:=dX (dI (f2 nZ (aG 0) (fC (.int 2))))
noncomputable def cV:List D→Option D:=fO 1 1 (Hs)
abbrev iY:Stmt:=top 10
noncomputable def oJ:GS:=aX (dB 2 (fC (.dk [] [])))
 (pB [] 3 (pA (aG 1)) (aX (dB 4 (bI 1 lC (aC (aG 3) aN)))
 (aX (rH (fB (f2 (lW false) (aG 4) (aG 2))) Qp fM)
 (aX (rH (oZ (fB (bI 1 dO (aC (aG 3) aN))) (fB (f2 Zq (bI 1 cV (aC (aG 3) aN)) (fC (.int 0))))) Qp fM)
 (aX (rH (oZ (mZ (fB (bI 1 dO (aC (aG 3) aN)))) (fB (f2 (lW true) (aG 4) (aG 0)))) Qp fM)
 (iR 2 iQ (aG 4) (fC (.bl true))))))))
noncomputable def eO:List D→Option D:=fO 5 2 (oJ)
abbrev sU:Stmt:=top 11
noncomputable def zQ:GS:=aX (dB 2 (fL xH (aC (aG 0) aN)))
 (aX (rG (bI 2 eO (aC (aG 2) (aC (aG 1) aN))))
 (aX (pB [] 3 (pA (aG 1)) (rH (fB (bI 1 dO (aC (aG 3) aN))) (iR 2 iQ (bI 1 lC (aC (aG 3) aN)) (bI 1 cV (aC (aG 3) aN))) (uZ 2 iQ (bI 1 lC (aC (aG 3) aN)))))
 (dX (FW xG (aG 2)))))
noncomputable def dR:List D→Option D:=fO 4 2 (zQ)
abbrev xP:Stmt:=top 16
noncomputable def Fd:GS:=aX (dB 2 (dI (f2 nZ (kI (aC (fC (.int 1)) (aC (fC (.int 3)) (aC (f2 oY (fC (.int 10)) (fC (.int 30))) aN)))) (f2 mV (aG 0) (fC (.int 3))))))
 (aX (dB 3 (dI (f2 nZ (kI (aC (fC (.int 0)) (aC (f2 mV (aG 0) (f2 oY (fC (.int 10)) (fC (.int 58)))) (aC (f2 Jz (fC (.int 0)) (f2 mV (aG 0) (f2 oY (fC (.int 10)) (fC (.int 58))))) aN)))) (f2 mV (f2 Gu (aG 0) (fC (.int 3))) (fC (.int 3))))))
 (dX (f2 gO (aG 3) (f2 Gs (aG 2) (f2 Jz (f2 mV (f2 mV (aG 1) (fC (.int 2147483647))) (fC (.int 41))) (fC (.int 20)))))))
noncomputable def jM:List D→Option D:=fO 4 2 (Fd)
abbrev nP:Stmt:=top 14
noncomputable def Ht:GS:=dX (rA (yV "int" (aG 0)) (yN (yV "bool" (aG 0))))
noncomputable def fY:List D→Option D:=fO 1 1 (Ht)
abbrev sV:Stmt:=top 15
noncomputable def zR:GS:=aX (rH (Nq (mZ (fB (yV "list" (aG 0)))) (fB (f2 Yi (fL uB (aC (aG 0) aN)) (fL uB (aC (aG 1) aN))))) (dX (fC (.bl false))) fM)
 (aX (pB [] 2 (pA (aG 0)) (rH (Nq (mZ (fB (yV "tuple" (aG 2)))) (Nq (fB (f2 Yi (fL uB (aC (aG 2) aN)) (fC (.int 2)))) (Nq (mZ (fB (bI 1 fY (aC (f2 nZ (aG 2) (fC (.int 0))) aN)))) (mZ (fB (bI 1 fY (aC (f2 nZ (aG 2) (fC (.int 1))) aN))))))) (dX (fC (.bl false))) fM))
 (dX (f2 Gv (aG 0) (aG 1))))
noncomputable def dU:List D→Option D:=fO 3 2 (zR)
abbrev sW:Stmt:=top 17
noncomputable def zT:GS:=aX (rH (oZ (fB (f2 (lW false) (aG 1) (aG 2))) (fB (f2 Gv (f2 mV (f2 Gu (aG 0) (fC (.int 2))) (fC (.int 2))) (fC (.int 0))))) (dX (mU (aC (fC (.str "take")) (aC (dI (aG 1)) aN)))) fM)
 (dX (mU (aC (fC (.str "put")) (aC (dI (aG 1)) (aC (f2 mV (f2 yZ (f2 gO (aG 0) (fC (.int 5))) (f2 gO (aG 0) (fC (.int 11)))) (f2 oY (fC (.int 10)) (fC (.int 58)))) aN)))))
noncomputable def iZ:List D→Option D:=fO 3 3 (zT)
abbrev Hu:Stmt:=top 18
noncomputable def DK:GS:=aX (dB 1 (bI 2 gH (aC (aG 0) (aC (fC (.int 0)) aN))))
 (aX (dB 2 (Nr true (aG 0) (iJ (fC (.int 1))) (iJ (fC (.int 61)))))
 (aX (dB 3 (f2 mV (f2 Gu (aG 1) (fC (.int 9))) (f2 gO (fL uB (aC (aG 2) aN)) (fC (.int 1)))))
 (aX (dB 4 (fC (.dk [] [])))
 (aX (pB [2,3] 5 (pA (Nr false (aG 2) (Be) (iJ (aG 3)))) (iR 4 iQ (bI 2 jM (aC (aG 1) (aC (f2 Gs (aG 5) (fC (.int 16807))) aN))) (f2 mV (f2 yZ (f2 gO (aG 5) (fC (.int 5))) (f2 gO (aG 5) (fC (.int 7)))) (f2 oY (fC (.int 10)) (fC (.int 58))))))
 (aX (dB 6 (kI aN))
 (aX (dB 7 (fC (.dk [] [])))
 (aX (pB [2,3] 5 (pA (Nr false (aG 2) (iJ (aG 3)) (Be))) (aX (dB 8 (bI 2 jM (aC (aG 1) (aC (f2 Gs (aG 5) (fC (.int 48271))) aN))))
 (aX (rH (fB (f2 (lW true) (aG 8) (aG 7))) (yR 6 iQ (bI 3 iZ (aC (aG 5) (aC (aG 8) (aC (aG 4) aN))))) fM)
 (iR 7 iQ (aG 8) (fC (.bl true))))))
 (aX (vA 4 9 [4] (mU (aC (dI (aG 0)) (aC (dI (f2 Gx (aG 1) (aG 0))) aN))))
 (aX (dB 10 (fK (pA (aG 9)) [7] (fB (f2 (lW true) (f2 nZ (aG 0) (fC (.int 0))) (aG 1))) (dI (aG 0))))
 (aX (dB 10 (fL rU (aC (f2 gO (aG 10) (fK (pA (aG 6)) [] (fB (f2 Gv (f2 nZ (aG 0) (fC (.int 0))) (fC (.str "put")))) (mU (aC (dI (f2 nZ (aG 0) (fC (.int 1)))) (aC (dI (f2 nZ (aG 0) (fC (.int 2)))) aN))))) aN)))
 (aX (dB 11 (kI (aC (fL dList (aC (aG 9) aN)) (aC (fL dList (aC (aG 6) aN)) aN))))
 (aX (dB 12 (bI 2 dR (aC (f2 nZ (aG 11) (fC (.int 0))) (aC (f2 nZ (aG 11) (fC (.int 1))) aN))))
 (aX (rH (Nq (mZ (fB (bI 2 dU (aC (aG 12) (aC (aG 10) aN))))) (fB (f2 (Hj false) (aG 11) (kI (aC (aG 9) (aC (aG 6) aN)))))) (dX (fC (.bl false))) fM)
 (aX (yR 12 iQ (mU (aC (fC (.int 0)) (aC (fC (.int 0)) aN))))
 (dX (rA (f2 (Hj true) (aG 11) (kI (aC (aG 9) (aC (aG 6) aN)))) (rA (bI 2 dU (aC (bI 2 dR (aC (aG 9) (aC (aG 6) aN))) (aC (aG 10) aN))) (bI 2 dU (aC (bI 2 dR (aC (aG 9) (aC (kI aN) aN))) (aC (aG 9) aN))))))))))))))))))))
noncomputable def Xo:List D→Option D:=fO 13 1 (DK)
section
variable{P:Program}{w:World}{K:aA}{mg:Str→Option Value}{base:Heap}
A8 zU:bJ ["script", "k"] ["script", "k"] (aH lB):=by walk_at "fs"
A8 xQ(R:Raw K mg "_law_cell_at" lB) (sX:mg "len" = none):mO P w K mg base "_law_cell_at" 1 2 (oE K 2 gH):=by
 &R.uC zU (fun _ _ _ _ _ _ us hl=>match us,hl with | [_,_],_=>rfl) (fun _ _ _ _ _ _ _ hr=>?_)
 have gU:=hr.units
 have hu:=gZ hr
 ~⟨_,aO (jW (kJ Rt Jw (aK (pv 1)) (XN.r (uV rC (rD rfl) rfl sX K9 (aF (aK (pv 0)) aU))) (eQ _)) (bB (cL (XR.n (dZ (aK (pv 0)) (aK (pv 1)) (fun _ _=>rfl))))) gD)
  (bB (cL aL))⟩
A8 Rf:bJ ["part"] ["part"] (aH Cg):=by walk_at "fs"
A8 Mj(R:Raw K mg "key_of" Cg):mO P w K mg base "key_of" 1 1 (oE K 1 lC):=by
 &R.uC Rf (fun _ _ _ _ _ _ us hl=>match us,hl with | [_],_=>rfl) (fun _ _ _ _ _ _ _ hr=>?_)
 have gU:=hr.units
 have hu:=gZ hr
 ~⟨_,bB (cL (XR.n (dZ (aK (pv 0)) (XN.r (aL)) (fun _ _=>rfl))))⟩
A8 Rg:bJ ["part"] ["part"] (aH Ci):=by walk_at "fs"
A8 Ml(R:Raw K mg "is_put" Ci) (Xp:Ek mg "PUT" "put"):mO P w K mg base "is_put" 1 1 (oE K 1 dO):=by
 &R.uC Rg (fun _ _ _ _ _ _ us hl=>match us,hl with | [_],_=>rfl) (fun _ _ _ _ _ _ _ hr=>?_)
 have gU:=hr.units
 have hu:=gZ hr
 ~⟨_,bB (cL (Az (or_eq gU rfl) Dv (dZ (aK (pv 0)) (XN.r (aL)) (fun _ _=>rfl)) (XN.r (BW Xp rfl)) (eQ _)))⟩
A8 Cj:bJ ["part"] ["part"] (aH nO):=by walk_at "fs"
A8 zV(R:Raw K mg "amount_of" nO):mO P w K mg base "amount_of" 1 1 (oE K 1 cV):=by
 &R.uC Cj (fun _ _ _ _ _ _ us hl=>match us,hl with | [_],_=>rfl) (fun _ _ _ _ _ _ _ hr=>?_)
 have gU:=hr.units
 have hu:=gZ hr
 ~⟨_,bB (cL (XR.n (dZ (aK (pv 0)) (XN.r (aL)) (fun _ _=>rfl))))⟩
A8 dD:bJ ["worths", "parts", "came", "part", "key"] ["worths", "parts"] (aH iY):=by walk_at "fs"
A8 uD(R:Raw K mg "check_parts" iY) (lD:mO P w K mg base "key_of" 1 1 (oE K 1 lC)) (dG:mO P w K mg base "amount_of" 1 1 (oE K 1 cV)) (lE:mO P w K mg base "is_put" 1 1 (oE K 1 dO)):mO P w K mg base "check_parts" 2 2 (oE K 2 eO):=by
 &R.uC dD (fun _ _ _ _ _ _ us hl=>match us,hl with | [_,_],_=>rfl) (fun _ _ _ _ _ _ _ hr=>?_)
 have gU:=hr.units
 have hu:=gZ hr
 ~⟨_,aO (cJ (i:=2) (wN) (fun h=>cF dD.nd rfl (by first | ~F6 rfl | ~F4 rfl) h))
  (bB (rJ [] PassesOwn.never rfl (kW (aK (pv 1))) (jF (i:=3) dD.nd rfl (by first | ~F6 rfl | ~F4 rfl)) (aO (cJ (i:=4) (bL lD (hr.mono A4) rfl (aF (aK (pv 3)) aU)) (fun h=>cF dD.nd rfl (by first | ~F6 rfl | ~F4 rfl) h))
  (aO (jW (Ke hu (aK (pv 4)) (aK (pv 2))) (bB (Bm)) gD)
  (aO (jW (XW.xt (Bc (iH (XN.r (bL lE (hr.mono A4) rfl (aF (aK (pv 3)) aU)))) (wO (kJ Rt Jw (XN.r (bL dG (hr.mono A4) rfl (aF (aK (pv 3)) aU))) (XN.r (aL)) (eQ _))))) (bB (Bm)) gD)
  (aO (jW (XW.xt (Bc (nA (iH (XN.r (bL lE (hr.mono A4) rfl (aF (aK (pv 3)) aU))))) (wO (mY hu (aK (pv 4)) (aK (pv 0)))))) (bB (Bm)) gD)
  (bB (pN (Bk (pv 2)) (aK (pv 4)) (XN.r (yJ)) (fun a b c=>pI hu a b c rfl)))))))))⟩
A8 nQ:bJ ["rows", "parts", "worths", "part"] ["rows", "parts"] (aH sU):=by walk_at "fs"
A8 Ck(R:Raw K mg "plainly" sU) (jA:mO P w K mg base "check_parts" 2 2 (oE K 2 eO)) (lE:mO P w K mg base "is_put" 1 1 (oE K 1 dO)) (lD:mO P w K mg base "key_of" 1 1 (oE K 1 lC)) (dG:mO P w K mg base "amount_of" 1 1 (oE K 1 cV)) (zdict:mg "dict" = none) (gJ:mg "sorted" = none):mO P w K mg base "plainly" 3 2 (oE K 2 dR):=by
 &R.uC nQ (fun _ _ _ _ _ _ us hl=>match us,hl with | [_,_],_=>rfl) (fun _ _ _ _ _ _ _ hr=>?_)
 have gU:=hr.units
 have hu:=gZ hr
 ~⟨_,aO (cJ (i:=2) (Kh Ln (Lp rfl rfl) rfl zdict PyProof.Rows.boot_dict (aF (aK (pv 0)) aU)) (fun h=>cF nQ.nd rfl (by first | ~F6 rfl | ~F4 rfl) h))
  (aO (Qq (XN.r (bL jA (hr.mono A4) rfl (aF (aK (pv 2)) (aF (aK (pv 1)) aU)))))
  (aO (rJ [] PassesOwn.never rfl (kW (aK (pv 1))) (jF (i:=3) nQ.nd rfl (by first | ~F6 rfl | ~F4 rfl)) (bB (jW (iH (XN.r (bL lE (hr.mono A4) rfl (aF (aK (pv 3)) aU)))) (bB (pN (Bk (pv 2)) (XN.r (bL lD (hr.mono A4) rfl (aF (aK (pv 3)) aU))) (XN.r (bL dG (hr.mono A4) rfl (aF (aK (pv 3)) aU))) (fun a b c=>pI hu a b c rfl))) (bB (Qy (Bk (pv 2)) (XN.r (bL lD (hr.mono A4) rfl (aF (aK (pv 3)) aU))) ⟨rfl,rfl,rfl,rfl⟩)))))
  (bB (cL (Lh (aK (pv 2)) ⟨rfl,rfl,rfl,rfl⟩ rfl gJ K7)))))⟩
A8 sY:bJ ["first", "number", "spread", "low"] ["first", "number"] (aH xP):=by walk_at "fs"
A8 Hv(R:Raw K mg "_law_key" xP):mO P w K mg base "_law_key" 1 2 (oE K 2 jM):=by
 &R.uC sY (fun _ _ _ _ _ _ us hl=>match us,hl with | [_,_],_=>rfl) (fun _ _ _ _ _ _ _ hr=>?_)
 have gU:=hr.units
 have hu:=gZ hr
 ~⟨_,aO (cJ (i:=2) (XR.n (dZ (qY (aF (XN.r (aL)) (aF (XN.r (aL)) (aF (XN.r (qU (XN.r (aL)) (XN.r (aL)))) aU)))) (XN.r (eU (aK (pv 0)) (XN.r (aL)))) (fun _ _=>rfl))) (fun h=>cF sY.nd rfl (by first | ~F6 rfl | ~F4 rfl) h))
  (aO (cJ (i:=3) (XR.n (dZ (qY (aF (XN.r (aL)) (aF (XN.r (eU (aK (pv 0)) (XN.r (qU (XN.r (aL)) (XN.r (aL)))))) (aF (XN.r (Ka (XN.r (aL)) (XN.r (eU (aK (pv 0)) (XN.r (qU (XN.r (aL)) (XN.r (aL)))))))) aU)))) (XN.r (eU (XN.r (Ay (aK (pv 0)) (XN.r (aL)))) (XN.r (aL)))) (fun _ _=>rfl))) (fun h=>cF sY.nd rfl (by first | ~F6 rfl | ~F4 rfl) h))
  (bB (cL (gC (aK (pv 3)) (XN.r (Ax (aK (pv 2)) (XN.r (Ka (XN.r (eU (XN.r (eU (aK (pv 1)) (XN.r (aL)))) (XN.r (aL)))) (XN.r (aL))))))))))⟩
A8 Cm:bJ ["found"] ["found"] (aH nP):=by walk_at "fs"
A8 zW(R:Raw K mg "_law_whole" nP) (bT:mg "isinstance" = none) (Mm:mg "bool" = none) (Xq:mg "int" = none):mO P w K mg base "_law_whole" 1 1 (oE K 1 fY):=by
 &R.uC Cm (fun _ _ _ _ _ _ us hl=>match us,hl with | [_],_=>rfl) (fun _ _ _ _ _ _ _ hr=>?_)
 have gU:=hr.units
 have hu:=gZ hr
 ~⟨_,bB (cL (Bd (XN.r (wX (aK (pv 0)) (pF (v:=.ty "int") rfl Xq PyProof.Rows.boot_int rfl) rfl bT)) (Dy (Wh (XN.r (wX (aK (pv 0)) (pF (v:=.ty "bool") rfl Mm PyProof.Rows.boot_bool rfl) rfl bT))))))⟩
A8 vG:bJ ["answer", "due", "pair"] ["answer", "due"] (aH sV):=by walk_at "fs"
A8 Cp(R:Raw K mg "_law_rows" sV) (jN:mO P w K mg base "_law_whole" 1 1 (oE K 1 fY)) (sX:mg "len" = none) (bT:mg "isinstance" = none) (sZ:mg "list" = none) (Cq:mg "tuple" = none):mO P w K mg base "_law_rows" 2 2 (oE K 2 dU):=by
 &R.uC vG (fun _ _ _ _ _ _ us hl=>match us,hl with | [_,_],_=>rfl) (fun _ _ _ _ _ _ _ hr=>?_)
 have gU:=hr.units
 have hu:=gZ hr
 ~⟨_,aO (jW (XW.xt (yM (nA (iH (XN.r (wX (aK (pv 0)) (pF (v:=.ty "list") rfl sZ L3 rfl) rfl bT)))) (Bb (kJ (Su gU rfl) Ss (XN.r (uV rC (rD rfl) rfl sX K9 (aF (aK (pv 0)) aU))) (XN.r (uV rC (rD rfl) rfl sX K9 (aF (aK (pv 1)) aU))) (eQ _))))) (bB (cL (yJ))) gD)
  (aO (rJ [] PassesOwn.never rfl (kW (aK (pv 0))) (jF (i:=2) vG.nd rfl (by first | ~F6 rfl | ~F4 rfl)) (bB (jW (XW.xt (yM (nA (iH (XN.r (wX (aK (pv 2)) (pF (v:=.ty "tuple") rfl Cq PyProof.Rows.boot_tuple rfl) rfl bT)))) (yM (kJ (Su gU rfl) Ss (XN.r (uV rC (rD rfl) rfl sX K9 (aF (aK (pv 2)) aU))) (XN.r (aL)) (eQ _)) (yM (nA (iH (XN.r (bL jN (hr.mono A4) rfl (aF (dZ (aK (pv 2)) (XN.r (aL)) (fun _ _=>rfl)) aU))))) (Bb (nA (iH (XN.r (bL jN (hr.mono A4) rfl (aF (dZ (aK (pv 2)) (XN.r (aL)) (fun _ _=>rfl)) aU)))))))))) (bB (cL (yJ))) gD)))
  (bB (cL (Az (or_eq gU rfl) Dv (aK (pv 0)) (aK (pv 1)) (eQ _)))))⟩
A8 Hw:bJ ["cell", "key", "worths"] ["cell", "key", "worths"] (aH sW):=by walk_at "fs"
A8 Cr(R:Raw K mg "_law_part" sW):mO P w K mg base "_law_part" 1 3 (oE K 3 iZ):=by
 &R.uC Hw (fun _ _ _ _ _ _ us hl=>match us,hl with | [_,_,_],_=>rfl) (fun _ _ _ _ _ _ _ hr=>?_)
 have gU:=hr.units
 have hu:=gZ hr
 ~⟨_,aO (jW (XW.xt (Bc (Ke hu (aK (pv 1)) (aK (pv 2))) (wO (kJ (or_eq gU rfl) Dv (XN.r (eU (XN.r (Ay (aK (pv 0)) (XN.r (aL)))) (XN.r (aL)))) (XN.r (aL)) (eQ _))))) (bB (cL (qZ (cC (Aw) (cC (XR.n (aK (pv 1))) kO))))) gD)
  (bB (cL (qZ (cC (Aw) (cC (XR.n (aK (pv 1))) (cC (eU (XN.r (Ei (XN.r (gC (aK (pv 0)) (XN.r (aL)))) (XN.r (gC (aK (pv 0)) (XN.r (aL)))))) (XN.r (qU (XN.r (aL)) (XN.r (aL))))) kO))))))⟩
A8 dW:bJ ["script", "first", "cells", "many", "worths", "cell", "parts", "met", "key", "rows", "due", "given", "told"] ["script"] (aH Hu):=by walk_at "fs"
A8 Xr{f:Addr}{fd:FuncData}(F:Nm K "law" "law" Hu f fd) (lF:mO P w K mg base "_law_cell_at" 1 2 (oE K 2 gH)) (pU:mO P w K mg base "_law_key" 1 2 (oE K 2 jM)) (tD:mO P w K mg base "_law_part" 1 3 (oE K 3 iZ)) (jB:mO P w K mg base "plainly" 3 2 (oE K 2 dR)) (jC:mO P w K mg base "_law_rows" 2 2 (oE K 2 dU)) (sX:mg "len" = none) (gJ:mg "sorted" = none) (sZ:mg "list" = none) (Ws:∀ns:List Int,ns.length≤63→(∀k∈ns,Small k)→Xo [.lst (ns.map D.int)]=some (.bl true)):mK P w K mg base Ie 4 f fd ["script"] (JT K):=by
 &F.RT dW (fun cdv A outer s H E hr=>?_) Ws
 have gU:=hr.units
 have hu:=gZ hr
 ~⟨_,aO (cJ (i:=1) (bL lF (hr.mono A4) rfl (aF (aK (pv 0)) (aF (XN.r (aL)) aU))) (fun h=>cF dW.nd rfl (by first | ~F6 rfl | ~F4 rfl) h))
  (aO (cJ (i:=2) (Kl (aK (pv 0)) (pM (XN.r (aL))) (pM (XN.r (aL)))) (fun h=>cF dW.nd rfl (by first | ~F6 rfl | ~F4 rfl) h))
  (aO (cJ (i:=3) (eU (XN.r (Ay (aK (pv 1)) (XN.r (aL)))) (XN.r (gC (XN.r (uV rC (rD rfl) rfl sX K9 (aF (aK (pv 2)) aU))) (XN.r (aL))))) (fun h=>cF dW.nd rfl (by first | ~F6 rfl | ~F4 rfl) h))
  (aO (cJ (i:=4) (wN) (fun h=>cF dW.nd rfl (by first | ~F6 rfl | ~F4 rfl) h))
  (aO (rJ [2,3] PassesOwn.never rfl (kW (yP (aK (pv 2)) (Eb) (pM (aK (pv 3))))) (jF (i:=5) dW.nd rfl (by first | ~F6 rfl | ~F4 rfl)) (bB (pN (Bk (pv 4)) (XN.r (bL pU (hr.mono A4) rfl (aF (aK (pv 1)) (aF (XN.r (Ax (aK (pv 5)) (XN.r (aL)))) aU)))) (XN.r (eU (XN.r (Ei (XN.r (gC (aK (pv 5)) (XN.r (aL)))) (XN.r (gC (aK (pv 5)) (XN.r (aL)))))) (XN.r (qU (XN.r (aL)) (XN.r (aL)))))) (fun a b c=>pI hu a b c rfl))))
  (aO (cJ (i:=6) (Kf kO) (fun h=>cF dW.nd rfl (by first | ~F6 rfl | ~F4 rfl) h))
  (aO (cJ (i:=7) (wN) (fun h=>cF dW.nd rfl (by first | ~F6 rfl | ~F4 rfl) h))
  (aO (rJ [2,3] PassesOwn.never rfl (kW (yP (aK (pv 2)) (pM (aK (pv 3))) (Eb))) (jF (i:=5) dW.nd rfl (by first | ~F6 rfl | ~F4 rfl)) (aO (cJ (i:=8) (bL pU (hr.mono A4) rfl (aF (aK (pv 1)) (aF (XN.r (Ax (aK (pv 5)) (XN.r (aL)))) aU))) (fun h=>cF dW.nd rfl (by first | ~F6 rfl | ~F4 rfl) h))
  (aO (jW (mY hu (aK (pv 8)) (aK (pv 7))) (bB (Ku (Bk (pv 6)) (bL tD (hr.mono A4) rfl (aF (aK (pv 5)) (aF (aK (pv 8)) (aF (aK (pv 4)) aU)))) (fun a b=>pG (Rx O9 O4 O5 mL a (gA b mJ))))) gD)
  (bB (pN (Bk (pv 7)) (aK (pv 8)) (XN.r (yJ)) (fun a b c=>pI hu a b c rfl))))))
  (aO (Ra (t:=4) (i:=9) (fr:=[4]) ["key", "worths"] rfl (.at (aH Hu) ["script", "first", "cells", "many", "worths", "cell", "parts", "met", "key", "rows", "due", "given", "told"] A3) (pv 4) (wF A3 rfl rfl) (fun _ _ _ _ _=>qZ (cC (XR.n (aK (pv 0))) (cC (XR.n (Qe hu (aK (pv 1)) (aK (pv 0)) (fun _ _=>rfl))) kO))) rfl rfl gJ K7 dW.nd rfl (by first | ~F6 rfl | ~F4 rfl))
  (aO (Qn (i:=10) ["pair", "met"] [7] rfl (.at (aH Hu) ["script", "first", "cells", "many", "worths", "cell", "parts", "met", "key", "rows", "due", "given", "told"] A3) dW.nd rfl (by first | ~F6 rfl | ~F4 rfl) (kW (aK (pv 9))) (wF A3 rfl rfl) (fun _ _ _ _ _=>Eh (mY hu (dZ (aK (pv 0)) (XN.r (aL)) (fun _ _=>rfl)) (aK (pv 1)))) (fun _ _ _ _ _=>XR.n (aK (pv 0))))
  (aO (cJ (i:=10) (uV zA (zB rfl) rfl gJ K7 (aF (XN.r (gC (aK (pv 10)) (XN.r (Qj ["part"] [] rfl (.at (aH Hu) ["script", "first", "cells", "many", "worths", "cell", "parts", "met", "key", "rows", "due", "given", "told"] A3) (kW (aK (pv 6))) (wF A3 rfl rfl) (fun _ _ _ _ _=>Eh (kJ (or_eq gU rfl) Dv (dZ (aK (pv 0)) (XN.r (aL)) (fun _ _=>rfl)) (XN.r (Aw)) (eQ _))) (fun _ _ _ _ _=>qZ (cC (XR.n (dZ (aK (pv 0)) (XN.r (aL)) (fun _ _=>rfl))) (cC (XR.n (dZ (aK (pv 0)) (XN.r (aL)) (fun _ _=>rfl))) kO))))))) aU)) (fun h=>cF dW.nd rfl (by first | ~F6 rfl | ~F4 rfl) h))
  (aO (cJ (i:=11) (Kf (cC (Kh Dz (Ea rfl) rfl sZ L3 (aF (aK (pv 9)) aU)) (cC (Kh Dz (Ea rfl) rfl sZ L3 (aF (aK (pv 6)) aU)) kO))) (fun h=>cF dW.nd rfl (by first | ~F6 rfl | ~F4 rfl) h))
  (aO (cJ (i:=12) (bL jB (hr.mono A4) rfl (aF (dZ (aK (pv 11)) (XN.r (aL)) (fun _ _=>rfl)) (aF (dZ (aK (pv 11)) (XN.r (aL)) (fun _ _=>rfl)) aU))) (fun h=>cF dW.nd rfl (by first | ~F6 rfl | ~F4 rfl) h))
  (aO (jW (XW.xt (yM (nA (iH (XN.r (bL jC (hr.mono A4) rfl (aF (aK (pv 12)) (aF (aK (pv 10)) aU)))))) (Bb (kJ (Wz gU rfl) (Lk false) (aK (pv 11)) (qY (aF (aK (pv 9)) (aF (aK (pv 6)) aU))) (eQ _))))) (bB (cL (yJ))) gD)
  (aO (Ku (Bk (pv 12)) (qZ (cC aL (cC aL kO))) (fun a b=>pG (Rx O9 O4 O5 mL a (gA b mJ))))
  (bB (cL (Bd (XN.r (Az (Wy gU rfl) (Lk true) (aK (pv 11)) (qY (aF (aK (pv 9)) (aF (aK (pv 6)) aU))) (eQ _))) (Bd (XN.r (bL jC (hr.mono A4) rfl (aF (XN.r (bL jB (hr.mono A4) rfl (aF (aK (pv 9)) (aF (aK (pv 6)) aU)))) (aF (aK (pv 10)) aU)))) (Dy (bL jC (hr.mono A4) rfl (aF (XN.r (bL jB (hr.mono A4) rfl (aF (aK (pv 9)) (aF (qY aU) aU)))) (aF (aK (pv 9)) aU))))))))))))))))))))))⟩
end
end Rs

namespace Rs
open PySem L2
local macro_rules | `(tactic| walk_at "lt")=>`(tactic| ~Q3 rfl)
local macro_rules | `(tactic| walk_at "sc")=>`(tactic| first | omega | with_reducible assumption | ~Int.pow_pos A4 | ~cm_l A0 A0 | ~Rb A0 A0)
local macro_rules | `(tactic| walk_at "op")=>`(tactic| first | with_reducible assumption | with_reducible ~cO _ _ | with_reducible ~lZ _ _ | with_reducible ~xM _ _ | with_reducible ~pP _ _ | with_reducible ~xK _ _ | with_reducible ~dGt_int _ _ | with_reducible ~dGe_int _ _ | with_reducible ~dLe_int _ _ | with_reducible ~nJ _ | with_reducible ~mD _ | with_reducible ~sE _ | ((with_reducible apply iU);walk_at "sc") | ((with_reducible apply bY);walk_at "sc") | ((with_reducible apply iV);(walk_at "sc");walk_at "sc") | ((with_reducible apply fX);~⟨by decide,by decide,by omega⟩) | ((with_reducible apply rZ);(walk_at "sc");walk_at "sc"))
local macro_rules | `(tactic| walk_at "ea")=>`(tactic| first | with_reducible ~Lz | ((with_reducible apply aB);(walk_at "ev");walk_at "ea"))
local macro_rules | `(tactic| walk_at "ev")=>`(tactic| first | ((with_reducible apply Rc);~rfl) | with_reducible ~fC_ok | with_reducible assumption | ((with_reducible apply aM);(walk_at "ev");(walk_at "ev");walk_at "op") | ((with_reducible apply jZ);(walk_at "ea");walk_at "op") | ((with_reducible apply aW);(walk_at "ea");~rfl;with_reducible assumption) | ((with_reducible apply cH);(walk_at "ev");~rfl) | ((with_reducible apply fNeg_ok);walk_at "ev") | ((with_reducible apply jK);(walk_at "ea");walk_at "lt") | ((with_reducible apply eN);(walk_at "ea");walk_at "lt"))
local macro_rules | `(tactic| walk_at "et")=>`(tactic| first | ((with_reducible apply gG);walk_at "et") | ((with_reducible apply fOr_ok);(walk_at "et");walk_at "et") | ((with_reducible apply pR);(walk_at "et");walk_at "et") | ((with_reducible apply cD);walk_at "ev"))
local macro_rules | `(tactic| walk_at "set")=>`(tactic| (apply sq_set;(walk_at "ev");(walk_at "lt")))
local macro_rules | `(tactic| walk_at "q")=>`(tactic| (apply cZ;(walk_at "ev");(walk_at "lt")))
local macro_rules | `(tactic| walk_at "op")=>`(tactic| first | with_reducible assumption | with_reducible ~cO _ _ | with_reducible ~lZ _ _ | with_reducible ~xM _ _ | with_reducible ~pP _ _ | with_reducible ~xK _ _ | with_reducible ~dGt_int _ _ | with_reducible ~dGe_int _ _ | with_reducible ~dLe_int _ _ | with_reducible ~nJ _ | with_reducible ~len_chs _ | with_reducible ~xO _ _ _ | with_reducible ~dMin2_int _ _ | with_reducible ~dMax2_int _ _ | with_reducible ~dIntB_bl _ | with_reducible ~ix_pane _ | with_reducible ~ix_place _ | with_reducible ~ix_thing _ | with_reducible ~ix_needs _ | ((with_reducible apply ix_chs);omega) | with_reducible ~mD _ | with_reducible ~sE _ | ((with_reducible apply iU);walk_at "sc") | ((with_reducible apply nM);(walk_at "sc");walk_at "sc") | ((with_reducible apply bY);walk_at "sc") | ((with_reducible apply iV);(walk_at "sc");walk_at "sc") | ((with_reducible apply fX);~⟨by decide,by decide,by omega⟩) | ((with_reducible apply rZ);(walk_at "sc");walk_at "sc"))
A8 Mp(a b:Str):Gv (.str a) (.str b)=some (.bl (decide (a=b))):=by
 show (if Gd (V.str a) (V.str b)=true then some (D.bl (decide (V.str a=V.str b)))else none)=_
 rw[if_pos (show Gd (V.str a) (V.str b)=true from rfl)]
 by_cases c:a=b
 ·rw[decide_eq_true c,decide_eq_true (by rw[c])]
 ·rw[decide_eq_false c,decide_eq_false fun z=>c (V.str.inj z)]
structure Pt where
 put:Bool
 key:Int
 am:Int
def oK(p:Pt):D:=if p.put=true then .tup [.str "put", .int p.key,.int p.am]else .tup [.str "take", .int p.key]
def jD(ps:List Pt):D:=.lst (ps.map oK)
A8 Xu(p:Pt):(oK p).cX=true:=by A7 oK;split<;>rfl
A8 zX:∀ps:List Pt,D.bM (ps.map oK)=true
 | []=>rfl
 | p::ps=>by
  rw[B3]
  A7 D.bM
  rw[Xu,zX ps]
  rfl
A8 Mq(p:Pt):nZ (oK p) (.int 0)=some (.str (if p.put=true then "put" else "take")):=by
 A7 oK
 split<;>~jJ A4 rfl
A8 Mr(p:Pt):nZ (oK p) (.int 1)=some (.int p.key):=by
 A7 oK
 split<;>~jJ A4 rfl
A8 Ms{p:Pt}(h:p.put=true):nZ (oK p) (.int 2)=some (.int p.am):=by
 A7 oK
 rw[if_pos h]
 ~jJ A4 rfl
A8 Fe(p:Pt):Gv (.str (if p.put=true then "put" else "take")) (.str "put")=some (.bl p.put):=by
 rw[Mp]
 cases p.put with
 | true=>rw[if_pos rfl,decide_eq_true rfl]
 | false=>rw[if_neg C6,decide_eq_false A4]
A8 tE(p:Pt):lC [oK p]=some (.int p.key):=fW rfl (eG (cH (aM rfl rfl (Mr p)) rfl))
A8 tG(p:Pt):dO [oK p]=some (.bl p.put):=fW rfl (eG (aM (aM rfl rfl (Mq p)) rfl (Fe p)))
A8 Ff{p:Pt}(h:p.put=true):cV [oK p]=some (.int p.am):=fW rfl (eG (cH (aM rfl rfl (Ms h)) rfl))
abbrev cM(m:List (Int×Int)):List Int:=m.map (·.1)
def dM(m:List (Int×Int)):D:=.dk ((cM m).map B5) (m.map fun p=>.int p.2)
def tH(m:List (Int×Int))(k v:Int):List (Int×Int):=if k∈cM m then m.map fun p=>if p.1=k then(k,v)else p else m++[(k,v)]
def xR(m:List (Int×Int))(k:Int):List (Int×Int):=m.filter fun p=>decide (p.1≠k)
A8 Mt(neg:Bool)(i:Int)(m:List (Int×Int)):lW neg (.int i) (dM m)=some (.bl (if neg then !decide (i∈cM m)else decide (i∈cM m))):=by
 show some (D.bl (if neg then !(posK ((cM m).map (B5:Int→Key)) (B5 i)).isSome else(posK ((cM m).map (B5:Int→Key)) (B5 i)).isSome))=_
 rw[sI]
A8 Fg(m:List (Int×Int))(k v:Int):cM (tH m k v)=iW (cM m) k:=by
 A7 tH iW
 by_cases c:k∈cM m
 ·rw[if_pos c,if_pos c]
  A7 cM
  rw[I0]
  &R1 fun p _=>?_
  show (if p.1=k then(k,v)else p).1=p.1
  split
  ·rename_i h;~h.symm
  ·rfl
 ·rw[if_neg c,if_neg c]
  A7 cM
  rw[E6]
  rfl
A8 Th(k v:Int):∀m:List (Int×Int),M4 (fun(k':Key) (d':D)=>if k'=B5 k then D.int v else d') ((cM m).map B5) (m.map fun p=>D.int p.2)=(m.map fun p=>if p.1=k then(k,v)else p).map fun p=>D.int p.2
 | []=>rfl
 | p::m=>by
  show (if(B5 p.1:Key)=B5 k then D.int v else D.int p.2)::_=D.int (if p.1=k then(k,v)else p).2::_
  have ih:=Th k v m
  congr 1
  by_cases c:p.1=k
  ·rw[if_pos c,if_pos (by rw[c])]
  ·rw[if_neg c,if_neg fun z=>c (M9 z)]
A8 Ti{i:Nat}{f f':FE}{env:EN}{m:List (Int×Int)}{k v:Int}(h1:env[i]?=some (.own (dM m)))(h2:f (rE env)=some (.int k))(h3:f' (rE env)=some (.int v))(hl:m.length<1000):iR i iQ f f' env=.next (env.set i (.own (dM (tH m k v)))):=by
 A7 iR iQ
 rw[h1,h2,h3]
 dsimp only[lX,dM]
 show (if D.cX (.int v)=true∧((cM m).map (B5:Int→Key)).length<100000 then _ else _)=_
 rw[if_pos ⟨rfl,by rw[B4,B4];omega⟩]
 have e1:qX ((cM m).map (B5:Int→Key)) (B5 k)=(cM (tH m k v)).map B5:=by
  rw[Fg]
  A7 qX iW
  rw[sI]
  by_cases c:k∈cM m
  ·rw[decide_eq_true c,if_pos rfl,if_pos c]
  ·rw[decide_eq_false c,if_neg A4,if_neg c,E6]
   rfl
 have e2:putD ((cM m).map (B5:Int→Key)) (m.map fun p=>D.int p.2) (B5 k) (.int v)=(tH m k v).map fun p=>D.int p.2:=by
  A7 putD tH
  rw[sI]
  by_cases c:k∈cM m
  ·rw[decide_eq_true c,if_pos rfl,if_pos c,Th]
  ·rw[decide_eq_false c,if_neg A4,if_neg c,E6]
   rfl
 rw[e1,e2]
 rfl
A8 Cu(k:Int):∀m:List (Int×Int),Bx ((cM m).map B5) (B5 k)=(cM (xR m k)).map B5∧lA ((cM m).map B5) (m.map fun p=>D.int p.2) (B5 k)=(xR m k).map fun p=>D.int p.2
 | []=>⟨rfl,rfl⟩
 | p::m=>by
  A6⟨h1,h2⟩:=Cu k m
  A7 Bx at h1 ⊢
  A7 xR at h1 h2 ⊢
  show ((B5 p.1:Key)::(cM m).map B5).filter _=_∧(if(B5 p.1:Key)=B5 k then lA ((cM m).map B5) (m.map fun p=>D.int p.2) (B5 k)else D.int p.2::lA ((cM m).map B5) (m.map fun p=>D.int p.2) (B5 k))=_
  rw[G7,G7]
  by_cases c:p.1=k
  ·rw[if_neg (by simp[c]),if_neg (by simp[c]),if_pos (by rw[c])]
   ~⟨h1,h2⟩
  ·rw[if_pos (by simpa using fun z=>c z),if_pos (by simpa using c),if_neg fun z=>c (M9 z),h1,h2]
   ~⟨rfl,rfl⟩
A8 DN{i:Nat}{g:FE}{env:EN}{m:List (Int×Int)}{k:Int}(h1:env[i]?=some (.own (dM m)))(h2:g (rE env)=some (.int k))(hk:k∈cM m):uZ i iQ g env=.next (env.set i (.own (dM (xR m k)))):=by
 A7 uZ iQ
 rw[h1,h2]
 dsimp only[lX,dM]
 show (if(posK ((cM m).map (B5:Int→Key)) (B5 k)).isSome=true then _ else _)=_
 rw[if_pos (by rw[sI];~decide_eq_true hk),(Cu k m).1,(Cu k m).2]
 rfl
A8 tK{m:List (Int×Int)}{k v:Int}(h:(cM m).Nodup):(cM (tH m k v)).Nodup:=by rw[Fg];~Ce h
A8 zY(m:List (Int×Int))(k v:Int):(tH m k v).length≤m.length+1:=by
 A7 tH
 split
 ·rw[B4];omega
 ·rw[D7];~B6 _
A8 Mu{m:List (Int×Int)}{k v a b:Int}:(a,b)∈tH m k v↔(a=k∧b=v)∨(a≠k∧(a,b)∈m):=by
  A7 tH
  by_cases c:k∈cM m
  · rw[if_pos c,D8]
    constructor
    · rintro⟨p,hp,e⟩
      by_cases z:p.1=k
      · rw[if_pos z]at e
        cases e
        ~.inl ⟨rfl,rfl⟩
      · rw[if_neg z]at e
        subst e
        ~.inr ⟨z,hp⟩
    · rintro(⟨rfl,rfl⟩ | ⟨z,hp⟩)
      · A6⟨p,hp,e⟩:=D8.mp c
        ~⟨p,hp,by rw[if_pos e]⟩
      · ~⟨(a,b),hp,by rw[if_neg z]⟩
  · rw[if_neg c,E4,D5]
    constructor
    · rintro(z | z)
      · ~.inr ⟨fun e=>c (D8.mpr ⟨(a,b),z,e⟩),z⟩
      · cases z
        ~.inl ⟨rfl,rfl⟩
    · rintro(⟨rfl,rfl⟩ | ⟨_,z⟩)
      · ~.inr rfl
      · ~.inl z
A8 Mv{m:List (Int×Int)}{k a b:Int}:(a,b)∈xR m k↔a≠k∧(a,b)∈m:=by
 A7 xR
 rw[J5,decide_eq_true_iff]
 ~⟨fun z=>⟨z.2,z.1⟩,fun z=>⟨z.2,z.1⟩⟩
A8 Cv{m:List (Int×Int)}{k:Int}(h:(cM m).Nodup):(cM (xR m k)).Nodup:=by
 A7 cM xR at *
 ~(L6 _ M7).nodup h
structure GR(m:List (Int×Int))(ps:List Pt):Prop where
 nd:(ps.map Pt.key).Nodup
 am:∀p∈ps,p.put=true→0≤p.am
 tk:∀p∈ps,p.put=false→p.key∈cM m
A8 jE{α:Type}{l:List α}{n:Nat}{x:α}(h:l[n]?=some x):l.take (n+1)=l.take n++[x]:=by rw[List.take_add_one,h];rfl
A8 Fi{ps:List Pt}(h:(ps.map Pt.key).Nodup){n:Nat}{p:Pt}(hp:ps[n]?=some p):p.key∉(ps.take n).map Pt.key:=fun z=>by
 have e:(ps.take (n+1)).map Pt.key=(ps.take n).map Pt.key++[p.key]:=by rw[jE hp,E6];rfl
 have hs:((ps.take (n+1)).map Pt.key).Nodup:=(L6 _ (S1 _ _)).nodup h
 rw[e,L0]at hs
 ~hs.2.2 _ z _ (D5.mpr rfl) rfl
A8 Rh{n m:Nat}{g:GS}{ds:List D}(hl:ds.length=m)(h:Qs (fun r=>∃e,r=.next e) (g (ds.map SD.fro++E2 (n-m) SD.no))):fO n m g ds=some .non:=by
 A6⟨e,h⟩:=h
 A7 fO
 rw[if_pos hl,h]
A8 vH{Pr:SR→Prop}{g1:GS}{env env':EN}(h:g1 env=.next env')(k:Pr (.next env')):Qs Pr (g1 env):=by
 A7 Qs
 rw[h]
 ~k
A8 Mw{m:List (Int×Int)}{ps:List Pt}(h:GR m ps)(hl:ps.length≤100):eO [dM m,jD ps]=some .non:=by
 &Rh rfl ?_
 A7 oJ
 &cZ (d:=Hr []) rfl A5 ?_
 &Xh (xs:=ps.map oK) (fun n env=>∃(ks:List Int)(v3 v4:SD),env=[.fro (dM m),.fro (jD ps),.own (Hr ks),v3,v4]∧(∀k,k∈ks↔k∈(ps.take n).map Pt.key)∧ks.length≤n) rfl (dJ rfl) ⟨[],_,_,rfl,fun k=>(by simp),B6 _⟩ ?_ ?_
 ·rintro n x env hx ⟨ks,v3,v4,rfl,hm,hll⟩
  &⟨by walk_at "lt", ?_⟩
  rw[C4]at hx
  A6⟨p,hp,rfl⟩:=cR hx
  have hn:=(B9.mp hp).1
  have hin:=E8 hp
  have hk:p.key∉ks:=fun z=>Fi h.nd hp ((hm _).mp z)
  &cZ (aW (aB rfl rfl) rfl (tE p)) A5 ?_
  &zN (b:=false) ((cD (aM rfl rfl (xO false p.key ks))).trans (by rw[if_neg A4,decide_eq_false hk])) rfl (Cd ?_)
  have t2:oZ (fB (bI 1 dO (aC (aG 3) aN))) (fB (f2 Zq (bI 1 cV (aC (aG 3) aN)) (fC (.int 0)))) (rE [.fro (dM m),.fro (jD ps),.own (Hr ks),.fro (oK p),.own (.int p.key)])=some false:=by
   have a1:fB (bI 1 dO (aC (aG 3) aN)) (rE [.fro (dM m),.fro (jD ps),.own (Hr ks),.fro (oK p),.own (.int p.key)])=some p.put:=cD (aW (aB rfl rfl) rfl (tG p))
   cases c:p.put with
   | false=>rw[c]at a1;~Lw a1
   | true=>
    rw[c]at a1
    have hm:=h.am p hin c
    ~(pR a1 (cD (aM (aW (aB rfl rfl) rfl (Ff c)) rfl (xK _ _)))).trans (by rw[decide_eq_false A0];rfl)
  &zN (b:=false) t2 rfl (Cd ?_)
  have t3:oZ (mZ (fB (bI 1 dO (aC (aG 3) aN)))) (fB (f2 (lW true) (aG 4) (aG 0))) (rE [.fro (dM m),.fro (jD ps),.own (Hr ks),.fro (oK p),.own (.int p.key)])=some false:=by
   have a1:mZ (fB (bI 1 dO (aC (aG 3) aN))) (rE [.fro (dM m),.fro (jD ps),.own (Hr ks),.fro (oK p),.own (.int p.key)])=some (!p.put):=gG (cD (aW (aB rfl rfl) rfl (tG p)))
   cases c:p.put with
   | true=>rw[c]at a1;~Lw a1
   | false=>
    rw[c]at a1
    have hm:=h.tk p hin c
    ~(pR a1 (cD (aM rfl rfl (Mt true p.key m)))).trans (by rw[if_pos rfl,decide_eq_true hm];rfl)
  &zN (b:=false) t3 rfl (Cd ?_)
  &vH (Mf (ks:=ks) (k:=p.key) rfl rfl rfl A0) ⟨_,rfl,iW ks p.key,_,_,rfl,fun k=>?_,?_⟩
  ·rw[sJ,hm,jE hp,E6,E4]
   ~or_congr_right D5.symm
  ·have:=zO ks p.key
   omega
 ·rintro env ⟨ks,v3,v4,rfl,_,_⟩
  ~⟨_,rfl⟩
A8 nR:∀ps:List (Int×Int),jY (ps.map pD)=some ps
 | []=>rfl
 | p::ps=>by
  rw[B3]
  show (jY (ps.map pD)).map ((p.1,p.2)::·)=_
  rw[nR ps]
  rfl
A8 Fj:∀m:List (Int×Int),pC ((cM m).map B5) (m.map fun p=>.int p.2)=some m
 | []=>rfl
 | p::m=>by
  show (pC ((cM m).map B5) (m.map fun p=>.int p.2)).map ((p.1,p.2)::·)=_
  rw[Fj m]
  rfl
A8 Mx{rs:List (Int×Int)}(hn:(cM rs).Nodup)(hl:rs.length≤1000):xH [.lst (rs.map pD)]=some (dM rs):=by
 show (jY (rs.map pD)).bind _=_
 rw[nR,C7,if_pos ⟨hl,hn⟩]
 A7 dM cM
 rw[I0]
 rfl
A8 Hx{m:List (Int×Int)}(hn:(cM m).Nodup)(hl:m.length<64):xG (dM m)=some (.lst ((bA m).map pD)):=by
 show (pC ((cM m).map B5) (m.map fun p=>.int p.2)).bind _=_
 rw[Fj,C7,if_pos ⟨hl,hn⟩]
A8 vI{m:List (Int×Int)}(hn:(cM m).Nodup)(hl:m.length<64):rU [.lst (m.map pD)]=some (.lst ((bA m).map pD)):=by
 show (jY (m.map pD)).bind _=_
 rw[nR,C7,if_pos ⟨hl,hn⟩]
def Made(rs:List (Int×Int))(ps:List Pt)(m:List (Int×Int)):Prop:=(cM m).Nodup∧∀a b,(a,b)∈m↔(a∉ps.map Pt.key∧(a,b)∈rs)∨∃p∈ps,p.put=true∧p.key=a∧p.am=b
A8 tL{rs:List (Int×Int)}{ps:List Pt}(hn:(cM rs).Nodup)(h:GR rs ps)(hl:rs.length+ps.length<64):∃m,dR [.lst (rs.map pD),jD ps]=some (.lst ((bA m).map pD))∧Made rs ps m:=by
  suffices hh:∃d,dR [.lst (rs.map pD),jD ps]=some d∧∃m,d=.lst ((bA m).map pD)∧Made rs ps m by
    A6⟨d,h1,m,rfl,h2⟩:=hh
    ~⟨m,h1,h2⟩
  &sH rfl ?_
  A7 zQ
  &cZ (jZ (aB rfl rfl) (Mx hn A0)) A5 ?_
  &Xl (aW (aB rfl (aB rfl rfl)) rfl (Mw h A0)) ?_
  &Ez (xs:=ps.map oK) (fun n env=>∃(m:List (Int×Int))(v3:SD),env=[.fro (.lst (rs.map pD)),.fro (jD ps),.own (dM m),v3]∧Made rs (ps.take n) m∧m.length≤rs.length+n) rfl (dJ rfl) ⟨rs,_,rfl,⟨hn,fun a b=>⟨fun z=>.inl ⟨by simp,z⟩,fun z=>z.elim (fun z=>z.2) fun⟨p,hp,_⟩=>(by simp at hp)⟩⟩,B6 _⟩ ?_ ?_
  · rintro n x env hx ⟨m,v3,rfl,⟨hm1,hm2⟩,hml⟩
    &⟨by walk_at "lt", ?_⟩
    rw[C4]at hx
    A6⟨p,hp,rfl⟩:=cR hx
    have hpn:=(B9.mp hp).1
    have hnew:=Fi h.nd hp
    have hin:=E8 hp
    have mem_cons:∀a,a∈((ps.take (n+1)).map Pt.key)↔a∈(ps.take n).map Pt.key∨a=p.key:=fun a=>by
      rw[jE hp,E6,E4]
      ~or_congr_right D5
    &Tf (cD (aW (aB rfl rfl) rfl (tG p))) (fun My=>?_) fun My=>?_
    · &vH (Ti (m:=m) (k:=p.key) (v:=p.am) rfl (aW (aB rfl rfl) rfl (tE p)) (aW (aB rfl rfl) rfl (Ff My)) A0) ⟨_,rfl,_,_,rfl,⟨tK hm1,fun a b=>?_⟩,?_⟩
      · rw[Mu,hm2,mem_cons,jE hp]
        constructor
        · rintro(⟨rfl,rfl⟩ | ⟨ne,⟨z1,z2⟩ | ⟨q,hq,r⟩⟩)
          · ~.inr ⟨p,C8 _ (D5.mpr rfl),My,rfl,rfl⟩
          · ~.inl ⟨fun z=>z.elim z1 ne,z2⟩
          · ~.inr ⟨q,G5 _ hq,r⟩
        · rintro(⟨z1,z2⟩ | ⟨q,hq,q1,q2,q3⟩)
          · ~.inr ⟨fun z=>z1 (.inr z),.inl ⟨fun z=>z1 (.inl z),z2⟩⟩
          · rcases E4.mp hq with w | w
            · &.inr ⟨fun z=>hnew ?_,.inr ⟨q,w,q1,q2,q3⟩⟩
              rw[←z,←q2]
              ~D8.mpr ⟨q,w,rfl⟩
            · rw[D5.mp w]at q2 q3
              ~.inl ⟨q2.symm,q3.symm⟩
      · have:=zY m p.key p.am
        omega
    · have hk:=h.tk p hin My
      have hkm:p.key∈cM m:=by
        A6⟨⟨a,b⟩,ha,e⟩:=D8.mp hk
        have e:a=p.key:=e
        subst e
        ~D8.mpr ⟨(p.key,b),(hm2 _ _).mpr (.inl ⟨hnew,ha⟩),rfl⟩
      &vH (DN (m:=m) (k:=p.key) rfl (aW (aB rfl rfl) rfl (tE p)) hkm) ⟨_,rfl,_,_,rfl,⟨Cv hm1,fun a b=>?_⟩,?_⟩
      · rw[Mv,hm2,mem_cons,jE hp]
        constructor
        · rintro⟨ne,⟨z1,z2⟩ | ⟨q,hq,r⟩⟩
          · ~.inl ⟨fun z=>z.elim z1 ne,z2⟩
          · ~.inr ⟨q,G5 _ hq,r⟩
        · rintro(⟨z1,z2⟩ | ⟨q,hq,q1,q2,q3⟩)
          · ~⟨fun z=>z1 (.inr z),.inl ⟨fun z=>z1 (.inl z),z2⟩⟩
          · rcases E4.mp hq with w | w
            · &⟨fun z=>hnew ?_,.inr ⟨q,w,q1,q2,q3⟩⟩
              rw[←z,←q2]
              ~D8.mpr ⟨q,w,rfl⟩
            · rw[D5.mp w,My]at q1
              cases q1
      · A7 xR
        have:=J8 (fun p':Int×Int=>decide (p'.1≠p.key)) m
        omega
  · rintro env ⟨m,v3,rfl,hm,hml⟩
    rw[B4,List.take_length]at hm
    rw[B4]at hml
    ~sG (Xi rfl (Hx hm.1 A0)) ⟨_,rfl,m,rfl,hm⟩
A8 Ri{c:Int}{N:Nat}(h:Builtin.Int.intBits c≤N):c.natAbs<2 ^ N:=by
 A7 Builtin.Int.intBits at h
 split at h
 ·rename_i z
  have z:c=0:=by simpa using z
  rw[z]
  ~Nat.pow_pos A4
 ·rename_i z
  have hz:c.natAbs≠0:=fun w=>z (by rw[R9.mp w];rfl)
  ~(Nat.log2_lt hz).mp A0
A8 bits_le{c:Int}{N:Nat}(h:c.natAbs<2 ^ N):Builtin.Int.intBits c≤N:=by
 A7 Builtin.Int.intBits
 split
 ·~F9 _
 ·rename_i z
  have hz:c.natAbs≠0:=fun w=>z (by rw[R9.mp w];rfl)
  have:=(Nat.log2_lt hz).mpr h
  omega
A8 bits_add{c:Int}{N:Nat}(h:Builtin.Int.intBits c≤N)(hN:4≤N){j:Int}(h0:0≤j)(h1:j≤16):Builtin.Int.intBits (c+j)≤N+1:=by
 have a:=Ri h
 have b:2 ^ 4≤2 ^ N:=Nat.pow_le_pow_right A4 hN
 &bits_le ?_
 rw[Nat.pow_succ]
 generalize 2 ^ N=M at *
 omega
A8 jO{c:Int}(h:Small c){j:Int}(h0:0≤j)(h1:j≤16):Builtin.Int.intBits (c+j)≤4000000:=by
 have h:Builtin.Int.intBits c≤1048576:=h
 have:=bits_add h A4 h0 h1
 omega
A8 zZ{fi:FA}{fr:List Nat}{fc:FT}{fe:FE}{e:DE}{α:Type}{ms:List α}{ψ φ:α→D}(p:α→Bool)(h1:fi e=some (ms.map ψ))(hn:ms.length≤1000)(hc:∀m∈ms,fc (some (ψ m)::dC e fr)=some (p m))(he:∀m∈ms,p m=true→fe (some (ψ m)::dC e fr)=some (φ m)) :
  fK fi fr fc fe e=some (.lst ((ms.filter p).map φ)):=by
 &zM h1 (by rw[B4];omega) ?_
 clear h1 hn
 induction ms with
 | nil=>rw[D4];A7 eE;rfl
 | cons m ms ih=>
  have ih:=ih (fun y hy=>hc y (C5 _ hy)) fun y hy=>he y (C5 _ hy)
  rw[B3]
  A7 eE
  rw[hc m C9,C7,G7]
  cases q:p m with
  | true=>rw[if_pos rfl,if_pos rfl,he m C9 q,C7,ih];rfl
  | false=>rw[if_neg A4,if_neg A4];~ih
A8 Xv{m:List (Int×Int)}(hn:(cM m).Nodup){p:Int×Int}(hp:p∈m):Gx (dM m) (.int p.1)=some (.int p.2):=by
 A6⟨i,hi⟩:=List.mem_iff_getElem?.mp hp
 have e:posK ((cM m).map (B5:Int→Key)) (B5 p.1)=some i:=by
  &wZ ?_ ?_
  ·rw[J1,J2]
   ~(J1.mp hn).imp fun h z=>h (M9 z)
  ·A7 cM
   rw[C4,C4,hi]
   rfl
 show (posK ((cM m).map (B5:Int→Key)) (B5 p.1)).bind (fun j=>(m.map fun p=>D.int p.2)[j]?)=_
 rw[e,C7,C4,hi]
 rfl
A8 Aa:∀m:List (Int×Int),intsOf (m.map fun p=>D.int p.2)=some (m.map (·.2))
 | []=>rfl
 | p::m=>by
  show (intsOf (m.map fun p=>D.int p.2)).map (p.2::·)=_
  rw[Aa m]
  rfl
A8 Xw{Pr:SR→Prop}{t i:Nat}{env:EN}{g:GS}{m:List (Int×Int)}(h1:env[t]?=some (.own (dM m)))(ht:i<env.length)(hn:(cM m).Nodup)(hl:m.length<64)(hv:dC (rE (env.set t (.fro (dM m)))) [t]=[some (dM m)]) (k:Qs Pr (g ((env.set t (.fro (dM m))).set i (.own (.lst ((bA m).map pD)))))) :
  Qs Pr (aX (vA t i [t] (mU (aC (dI (aG 0)) (aC (dI (f2 Gx (aG 1) (aG 0))) aN)))) g env):=by
 &KY (env':=(env.set t (.fro (dM m))).set i (.own (.lst ((bA m).map pD)))) ?_ k
 A7 vA
 rw[h1]
 show (match intsOf (m.map fun p=>D.int p.2)with
  | some _=>dB i (xJ ((cM m).map B5) [t] (mU (aC (dI (aG 0)) (aC (dI (f2 Gx (aG 1) (aG 0))) aN)))) (env.set t (.fro (dM m)))
  | none=>.bad)=_
 rw[Aa]
 &Eu ?_ (by rw[T3];~ht)
 A7 xJ
 &jZ (aB (Hq (xs:=m) (ψ:=fun p=>.int p.1) (φ:=pD) ?_ A0 fun p hp=>?_) rfl) (vI hn hl)
 ·A7 cM
  rw[I0,I0]
  rfl
 ·rw[hv]
  ~jK (aB (cH rfl rfl) (aB (cH (aM rfl rfl (Xv hn hp)) rfl) rfl)) A5
A8 Fo{α:Type}:∀{l m:List α},l.Nodup→m.Nodup→(∀x,x∈l↔x∈m)→l.Perm m
  | [],m,_,_,h=>by
    cases m with
    | nil=>~Q2 _
    | cons a m=>~absurd ((h a).mpr C9) (by simp)
  | a::l,m,h1,h2,h=>by
    A6⟨s,t,rfl⟩:=List.append_of_mem ((h a).mp C9)
    rw[G1]at h1
    have h3:(a::(s++t)).Nodup:=(S8.nodup_iff).mp h2
    rw[G1]at h3
    &((Fo h1.2 h3.2 fun x=>?_).cons a).trans S8.symm
    constructor
    · intro z
      have:=(h x).mp (C5 _ z)
      rcases E4.mp this with w | w
      · ~G5 _ w
      · rcases E3.mp w with w | w
        · rw[w]at z;~absurd z h1.1
        · ~C8 _ w
    · intro z
      have hx:x∈a::l:=(h x).mpr (by
        rcases E4.mp z with w | w
        · ~G5 _ w
        · ~C8 _ (C5 _ w))
      rcases E3.mp hx with w | w
      · rw[w]at z;~absurd z h3.1
      · ~w
A8 vJ{m:List (Int×Int)}(h:(cM m).Nodup):m.Nodup:=by
 rw[J1]at h ⊢
 A7 cM at h
 rw[J2]at h
 ~h.imp fun h z=>h (by rw[z])
A8 Ab{l m:List (Int×Int)}(h1:(cM l).Nodup)(h2:(cM m).Nodup)(h:∀a b,(a,b)∈l↔(a,b)∈m):bA l=bA m:=by
 have p:l.Perm m:=Fo (vJ h1) (vJ h2) fun x=>h x.1 x.2
 ~rP h2 ((cU l).trans p) (rO l)
A8 Cw{m:List (Int×Int)}(h:(cM m).Nodup):bA (bA m)=bA m:=(rP (oG h) (Q2 _) (rO m)).symm
A8 Fq(n:Nat):∀l:List (Int×Int),gR (l.map pD) (n+1)=true
 | []=>by rw[D4];A7 gR;rfl
 | p::l=>by
  rw[B3]
  A7 gR
  rw[Fq n l]
  A7 Ii
  rfl
A8 Xx(n:Nat)(p:Pt):Ii (oK p) (n+1)=true:=by
 A7 oK
 split<;>(A7 Ii;rfl)
A8 Ft(n:Nat):∀l:List Pt,gR (l.map oK) (n+1)=true
 | []=>by rw[D4];A7 gR;rfl
 | p::l=>by
  rw[B3]
  A7 gR
  rw[Ft n l,Xx]
  rfl
A8 tO(c:Bool)(l:List (Int×Int))(ps:List Pt):Hj c (.lst [.lst (l.map pD),jD ps]) (.lst [.lst (l.map pD),jD ps])=some (.bl c):=by
 A7 Hj
 dsimp only
 rw[if_pos]
 &⟨rfl,?_⟩
 A7 gR
 A7 gR
 A7 gR jD
 A7 Ii
 rw[Fq,Ft]
 rfl
A8 Cy{c k:Int}{m:List (Int×Int)}(hs:Small c):∃p:Pt,iZ [.int c,.int k,dM m]=some (oK p)∧p.key=k∧(p.put=true→0≤p.am)∧(p.put=false→k∈cM m):=by
 suffices hh:∃d,iZ [.int c,.int k,dM m]=some d∧∃p:Pt,d=oK p∧p.key=k∧(p.put=true→0≤p.am)∧(p.put=false→k∈cM m) by
  A6⟨d,h1,p,rfl,h2⟩:=hh
  ~⟨p,h1,h2⟩
 &sH rfl ?_
 A7 zT
 have Yk:oY (.int 10) (.int 58)=some (.int (10 ^ 58)):=fX ⟨by decide,by decide,by decide⟩
 &Xe (pR (cD (aM rfl rfl (Mt false k m))) (cD (aM (aM (aM rfl rfl (iV A4 A4)) rfl (bY A4)) rfl (xM _ _)))) (fun hb=>?_) fun _=>Cd ?_
 ·rw[G8,if_neg A4,decide_eq_true_iff]at hb
  ~CW (jK (aB rfl (aB (cH rfl rfl) rfl)) A5) ⟨_,rfl,⟨false,k,0⟩,rfl,rfl,fun z=>(by cases z),fun _=>hb.1⟩
 ·have h5:=jO hs (show (0:Int)≤5 by decide) A4
  have h11:=jO hs (show (0:Int)≤11 by decide) A4
  &sG (jK (aB rfl (aB (cH rfl rfl) (aB (aM (aM (aM rfl rfl (cO _ _)) (aM rfl rfl (cO _ _)) (nM h5 h11)) (aM rfl rfl Yk) (bY A4)) rfl))) A5) ⟨_,rfl,⟨true,k,(c+5)*(c+11)%10 ^ 58⟩,rfl,rfl,fun _=>K6 _ A4,fun z=>(by cases z)⟩
A8 Mz{ds:List D}{xs:List DV}(h:cT ds=some xs)(hd:(DV.lst xs).depth≤32):Gv (.lst ds) (.lst ds)=some (.bl true):=by
 have e:bR (.lst ds)=some (.lst xs):=by A7 bR;rw[h];rfl
 A7 Gv toV
 dsimp only
 rw[e]
 dsimp only
 rw[if_pos hd,fD]
A8 Hy(ns:List Int)(k:Nat):gH [fU ns,.int k]=some (.int (ns.getD k 0)):=by
 &fW rfl ?_
 A7 sS
 by_cases c:k<ns.length
 ·apply Xd
  ·walk_at "et"
  ·~decide_eq_true A0
  have hx:=rZ (ns:=ns) (i:=k) A0 A0
  rw[S2]at hx
  apply CT
  ·walk_at "ev"
  ·rfl
 ·apply Xc
  ·walk_at "et"
  ·~decide_eq_false A0
  apply CQ
  rw[B7,F7 A0]
  ~eG rfl
A8 Tj(a b c:Int){i:Int}(h0:0≤i)(h1:i<3):∃s,nZ (.lst [.int a,.int b,.int c]) (.int i)=some (.int s):=by
 have:i=0∨i=1∨i=2:=by omega
 rcases this with rfl | rfl | rfl
 ·~⟨a,mC A4 rfl⟩
 ·~⟨b,mC A4 rfl⟩
 ·~⟨c,mC A4 rfl⟩
A8 vK(first n:Int):∃k,jM [.int first,.int n]=some (.int k):=by
 suffices hh:∃d,jM [.int first,.int n]=some d∧∃k,d=.int k by
  A6⟨d,h1,k,rfl⟩:=hh
  ~⟨k,h1⟩
 &sH rfl ?_
 A7 Fd
 have Yk:oY (.int 10) (.int 58)=some (.int (10 ^ 58)):=fX ⟨by decide,by decide,by decide⟩
 have VM:oY (.int 10) (.int 30)=some (.int (10 ^ 30)):=fX ⟨by decide,by decide,by decide⟩
 A6⟨s,hs⟩:=Tj 1 3 (10 ^ 30) (K6 first (show (3:Int)≠0 by decide)) (K8 first A4)
 A6⟨l,hl⟩:=Tj 0 (first%10 ^ 58) (0-first%10 ^ 58) (K6 (first/3) (show (3:Int)≠0 by decide)) (K8 (first/3) A4)
 &cZ (cH (aM (eN (aB rfl (aB rfl (aB (aM rfl rfl VM) rfl))) A5) (aM rfl rfl (bY A4)) hs) rfl) A5 ?_
 &cZ (cH (aM (eN (aB rfl (aB (aM rfl (aM rfl rfl Yk) (bY A4)) (aB (aM rfl (aM rfl (aM rfl rfl Yk) (bY A4)) (lZ _ _)) rfl))) A5) (aM (aM rfl rfl (iV A4 A4)) rfl (bY A4)) hl) rfl) A5 ?_
 have m0:=K6 (n%2147483647) (show (41:Int)≠0 by decide)
 have m1:=K8 (n%2147483647) (show (0:Int)<41 by decide)
 ~sG (aM rfl (aM rfl (aM (aM (aM rfl rfl (bY A4)) rfl (bY A4)) rfl (lZ _ _)) (iU (Rb A0 A0))) (cO _ _)) ⟨_,rfl,_,rfl⟩
A8 Ac(n:Int):fY [.int n]=some (.bl true):=fW rfl (eG (xN (pQ rfl rfl) (Lx (b:=false) (pQ rfl rfl))))
A8 Ad:∀l:List (Int×Int),cT (l.map pD)=some (l.map fun p=>DV.tup [.int p.1,.int p.2])∧bF (l.map fun p=>DV.tup [.int p.1,.int p.2])≤1
 | []=>⟨by rw[D4];A7 cT;rfl,by rw[D4];A7 bF;decide⟩
 | p::l=>by
  A6⟨h1,h2⟩:=Ad l
  have e:bR (pD p)=some (DV.tup [.int p.1,.int p.2]):=Mh [p.1,p.2]
  have e2:(DV.tup [.int p.1,.int p.2]).depth=1:=by
   have:=qL [p.1,p.2]
   rw[B3,B3,D4]at this
   A7 DV.depth
   rw[this]
  &⟨by rw[B3];A7 cT;rw[e,C7,h1];rfl,?_⟩
  rw[B3]
  A7 bF
  omega
A8 lG{l:List (Int×Int)}:dU [.lst (l.map pD),.lst (l.map pD)]=some (.bl true):=by
 suffices hh:∃d,dU [.lst (l.map pD),.lst (l.map pD)]=some d∧d=.bl true by
  A6⟨d,h1,rfl⟩:=hh
  ~h1
 &sH rfl ?_
 A7 zR
 &zN (b:=false) ((zL (gG (b:=true) (cD (pQ rfl rfl)))).trans ((cD (aM (jZ (aB rfl rfl) (mD _)) (jZ (aB rfl rfl) (mD _)) (pP _ _))).trans (by rw[decide_eq_true rfl];rfl))) rfl (Cd ?_)
 &Ez (xs:=l.map pD) (fun n env=>∃v2,env=[.fro (.lst (l.map pD)),.fro (.lst (l.map pD)),v2]) rfl (dJ rfl) ⟨_,rfl⟩ ?_ ?_
 ·rintro n x env hx ⟨v2,rfl⟩
  &⟨by walk_at "lt", ?_⟩
  rw[C4]at hx
  A6⟨p,hp,rfl⟩:=cR hx
  &Xf (b:=false) ((zL (gG (b:=true) (cD (pQ rfl rfl)))).trans ((zL ((cD (aM (jZ (aB rfl rfl) (sE _)) rfl (pP _ _))).trans (by rw[show (([D.int p.1,D.int p.2].length:Nat):Int)=2 from rfl,decide_eq_true rfl];rfl))).trans ((zL (gG (b:=true) (cD (aW (aB (aM rfl rfl (jJ A4 rfl)) rfl) rfl (Ac p.1))))).trans (gG (b:=true) (cD (aW (aB (aM rfl rfl (jJ A4 rfl)) rfl) rfl (Ac p.2))))))) rfl (CV ⟨_,rfl,_,rfl⟩)
 ·rintro env ⟨v2,rfl⟩
  A6⟨h1,h2⟩:=Ad l
  ~sG (aM rfl rfl (Mz h1 (by A7 DV.depth;omega))) ⟨_,rfl,rfl⟩
A8 Nb(ns:List Int)(hl:ns.length≤63)(hs:∀k∈ns,Small k):Xo [.lst (ns.map D.int)]=some (.bl true):=by
  suffices h:∃d,Xo [fU ns]=some d∧d=.bl true by
    A6⟨d,h1,rfl⟩:=h
    ~h1
  &sH rfl ?_
  A7 DK
  have hc0:=Hy ns 0
  rw[show ((0:Nat):Int)=0 from rfl]at hc0
  have Yk:oY (.int 10) (.int 58)=some (.int (10 ^ 58)):=fX ⟨by decide,by decide,by decide⟩
  &cZ (aW (aB rfl (aB rfl rfl)) rfl hc0) A5 ?_
  generalize ns.getD 0 0=first
  &cZ (d:=fU ((ns.drop 1).take 60)) ((sO rfl (jL rfl) (jL rfl)).trans (by rw[show (1:Int)=((1:Nat):Int)from rfl,show (61:Int)=((61:Nat):Int)from rfl,Mg])) A5 ?_
  have hcl:((ns.drop 1).take 60).length≤60:=by rw[J9];omega
  have hcs:∀c∈(ns.drop 1).take 60,Small c:=fun c hc=>hs c (Q5 (Q6 hc))
  generalize (ns.drop 1).take 60=cells at *
  have cp:(0:Int)<(cells.length:Int)+1:=by omega
  &cZ (aM (aM rfl rfl (iV A4 A4)) (aM (jZ (aB rfl rfl) (nJ _)) rfl (cO _ _)) (bY cp)) A5 ?_
  have q0:=K6 (first/9) (show (cells.length:Int)+1≠0 by omega)
  have q1:=K8 (first/9) cp
  A6⟨mn,em⟩:∃mn:Nat,first/9%((cells.length:Int)+1)=mn:=⟨(first/9%((cells.length:Int)+1)).toNat,by omega⟩
  rw[em]at q1 ⊢
  &cZ (d:=dM []) rfl A5 ?_
  &Ez (xs:=(cells.take mn).map D.int) (fun n env=>∃(m:List (Int×Int))(v5:SD),env=[.fro (fU ns),.own (.int first),.fro (fU cells),.fro (.int mn),.own (dM m),v5,.no,.no,.no,.no,.no,.no,.no]∧(cM m).Nodup∧m.length≤n) rfl (dJ ((sO rfl rfl (jL rfl)).trans (by rw[Xk]))) ⟨[],_,rfl,M8,B6 _⟩ ?_ ?_
  · rintro n x env hx ⟨m,v5,rfl,hm1,hm2⟩
    &⟨by walk_at "lt", ?_⟩
    rw[C4]at hx
    A6⟨c,hc,rfl⟩:=cR hx
    have hn:=(B9.mp hc).1
    rw[J9]at hn
    have sc:=hcs c (Q6 (E8 hc))
    A6⟨k,hk⟩:=vK first (c*16807)
    have h5:=jO sc (show (0:Int)≤5 by decide) A4
    have h7:=jO sc (show (0:Int)≤7 by decide) A4
    &vH (Ti (m:=m) (k:=k) (v:=(c+5)*(c+7)%10 ^ 58) rfl (aW (aB rfl (aB (aM rfl rfl (iU (Rb A4 A4))) rfl)) rfl hk) (aM (aM (aM rfl rfl (cO _ _)) (aM rfl rfl (cO _ _)) (nM h5 h7)) (aM rfl rfl Yk) (bY A4)) A0) ⟨_,rfl,_,_,rfl,tK hm1,?_⟩
    have:=zY m k ((c+5)*(c+7)%10 ^ 58)
    omega
  rintro env ⟨m,v5,rfl,hm1,hm2⟩
  rw[B4,J9]at hm2
  &cZ (d:=jD []) (eN rfl A4) A5 ?_
  &cZ (d:=Hr []) rfl A5 ?_
  &Ez (xs:=(cells.drop mn).map D.int) (fun n env=>∃(ps:List Pt)(ks:List Int)(v5 v8:SD),env=[.fro (fU ns),.own (.int first),.fro (fU cells),.fro (.int mn),.own (dM m),v5,.own (jD ps),.own (Hr ks),v8,.no,.no,.no,.no]∧(∀k,k∈ks↔k∈ps.map Pt.key)∧GR m ps∧ps.length≤n∧ks.length≤n) rfl (dJ ((sO rfl (jL rfl) rfl).trans (by rw[Xj A0]))) ⟨[],[],_,_,rfl,fun k=>(by simp),⟨M8,fun p hp=>(by cases hp),fun p hp=>(by cases hp)⟩,B6 _,B6 _⟩ ?_ ?_
  · rintro n x env hx ⟨ps,ks,v5,v8,rfl,hk,hf,hl1,hl2⟩
    &⟨by walk_at "lt", ?_⟩
    rw[C4]at hx
    A6⟨c,hc,rfl⟩:=cR hx
    have hn:=(B9.mp hc).1
    rw[L4]at hn
    have sc:=hcs c (Q5 (E8 hc))
    A6⟨k,hkk⟩:=vK first (c*48271)
    A6⟨p,hp,rfl,p1,p2⟩:=Cy (k:=k) (m:=m) sc
    &cZ (aW (aB rfl (aB (aM rfl rfl (iU (Rb A4 A4))) rfl)) rfl hkk) A5 ?_
    have ha:=zO ks p.key
    &Xe (cD (aM rfl rfl (xO true p.key ks))) (fun hb=>?_) fun hb=>Cd ?_
    · have hnew:p.key∉ks:=by simpa using hb
      &Tg (ds:=ps.map oK) rfl (aW (aB rfl (aB rfl (aB rfl rfl))) rfl hp) (by rw[B4];omega) ?_
      &vH (Mf (ks:=ks) (k:=p.key) rfl rfl rfl A0) ⟨_,rfl,ps++[p],iW ks p.key,.fro (.int c),.own (.int p.key),?_,fun j=>?_,⟨?_,fun q hq=>?_,fun q hq=>?_⟩,by rw[D7];~Nat.succ_le_succ hl1,by omega⟩
      · A7 jD
        rw[E6]
        rfl
      · rw[sJ,hk,E6,E4]
        ~or_congr_right D5.symm
      · rw[E6,L0]
        &⟨hf.nd,G1.mpr ⟨List.not_mem_nil,M8⟩,fun a ha b hb z=>hnew ((hk _).mpr ?_)⟩
        rw[D5.mp hb]at z
        rw[←z]
        ~ha
      · rcases E4.mp hq with z | z
        · ~hf.am q z
        · rw[D5.mp z];~p1
      · rcases E4.mp hq with z | z
        · ~hf.tk q z
        · rw[D5.mp z];~p2
    · have hold:p.key∈ks:=by simpa using hb
      &vH (Mf (ks:=ks) (k:=p.key) rfl rfl rfl A0) ⟨_,rfl,ps,iW ks p.key,.fro (.int c),.own (.int p.key),rfl,fun j=>?_,hf,by omega,by omega⟩
      rw[sJ,hk]
      ~⟨fun z=>z.elim id fun z=>by rw[z];~(hk _).mp hold,.inl⟩
  rintro env ⟨ps,ks,v5,v8,rfl,hk,hf,hl1,hl2⟩
  rw[B4,L4]at hl1 hl2
  &Xw (m:=m) rfl A5 hm1 A0 rfl ?_
  have hrn:(cM (bA m)).Nodup:=oG hm1
  have hrl:(bA m).length=m.length:=(cU m).length_eq
  have hrk:∀k,k∈cM (bA m)↔k∈cM m:=fun k=>((cU m).map _).mem_iff
  have hf':GR (bA m) ps:=⟨hf.nd,hf.am,fun p hp z=>(hrk _).mpr (hf.tk p hp z)⟩
  &cZ (zZ (ms:=bA m) (ψ:=pD) (φ:=pD) (fun p=>!decide (p.1∈ks)) (dJ rfl) A0 (fun p _=>cD (aM (aM rfl rfl (jJ A4 rfl)) rfl (xO true p.1 ks))) fun p _ _=>cH rfl rfl) A5 ?_
  generalize hd0:(bA m).filter (fun p=>!decide (p.1∈ks))=due0
  generalize GX:(ps.filter Pt.put).map (fun p=>(p.key,p.am))=rM
  have hdl:due0.length≤m.length:=by
    rw[←hd0,←hrl]
    ~J8 _ _
  have hpl:rM.length≤ps.length:=by
    rw[←GX,B4]
    ~J8 _ _
  have Tn:∀a b,(a,b)∈due0↔a∉ps.map Pt.key∧(a,b)∈bA m:=fun a b=>by
    rw[←hd0,J5]
    constructor
    · rintro⟨z1,z2⟩
      ~⟨fun z=>absurd ((hk a).mpr z) (by simpa using z2),z1⟩
    · rintro⟨z1,z2⟩
      ~⟨z2,by simpa using fun z=>z1 ((hk a).mp z)⟩
  have Tp:∀a b,(a,b)∈rM↔∃p∈ps,p.put=true∧p.key=a∧p.am=b:=fun a b=>by
    rw[←GX,D8]
    constructor
    · rintro⟨p,hp,e⟩
      rw[J5]at hp
      cases e
      ~⟨p,hp.1,hp.2,rfl,rfl⟩
    · rintro⟨p,hp,z1,rfl,rfl⟩
      ~⟨p,J5.mpr ⟨hp,z1⟩,rfl⟩
  have hdn:(cM (due0++rM)).Nodup:=by
    A7 cM
    rw[E6,L0]
    &⟨?_,?_,fun a ha b hb z=>?_⟩
    · rw[←hd0]
      ~(L6 _ M7).nodup hrn
    · rw[←GX,I0]
      ~(L6 _ M7).nodup hf.nd
    · A6⟨⟨a1,a2⟩,h1,e1⟩:=D8.mp ha
      A6⟨⟨b1,b2⟩,h2,e2⟩:=D8.mp hb
      have e1:a1=a:=e1
      have e2:b1=b:=e2
      subst e1 e2 z
      A6⟨p,hp,_,e,_⟩:=(Tp _ _).mp h2
      ~((Tn _ _).mp h1).1 (D8.mpr ⟨p,hp,e⟩)
  have Tq:=zZ (fi:=pA (aG 6)) (fr:=[]) (fc:=fB (f2 Gv (f2 nZ (aG 0) (fC (.int 0))) (fC (.str "put")))) (fe:=mU (aC (dI (f2 nZ (aG 0) (fC (.int 1)))) (aC (dI (f2 nZ (aG 0) (fC (.int 2)))) aN))) (e:=rE [.fro (fU ns),.own (.int first),.fro (fU cells),.fro (.int mn),.fro (dM m),v5,.own (jD ps),.own (Hr ks),v8,.own (.lst ((bA m).map pD)),.own (.lst (due0.map pD)),.no,.no]) (ms:=ps) (ψ:=oK) (φ:=fun p=>pD (p.key,p.am)) Pt.put (dJ rfl) A0 (fun p _=>cD (aM (aM rfl rfl (Mq p)) rfl (Fe p))) fun p _ hp=>jK (aB (cH (aM rfl rfl (Mr p)) rfl) (aB (cH (aM rfl rfl (Ms hp)) rfl) rfl)) A5
  have hpm:(ps.filter Pt.put).map (fun p=>pD (p.key,p.am))=rM.map pD:=by rw[←GX,I0];rfl
  rw[hpm]at Tq
  &cZ (d:=.lst ((bA (due0++rM)).map pD)) (jZ (aB (a:=.lst ((due0++rM).map pD)) ((aM rfl Tq (Ho (a:=due0.map pD) (b:=rM.map pD) (by rw[Ly,fQ,fQ];rfl) (by rw[B4,B4];omega))).trans (by rw[E6])) rfl) (vI hdn (by rw[D7];omega))) A5 ?_
  have Rj:∀mF,Made (bA m) ps mF→bA mF=bA (due0++rM):=fun mF h=>by
    &Ab h.1 hdn fun a b=>?_
    rw[h.2,E4,Tn,Tp]
  &cZ (d:=.lst [.lst ((bA m).map pD),jD ps]) (eN (aB (jZ (aB rfl rfl) (vC (fQ _))) (aB (jZ (aB rfl rfl) (vC (zX _))) rfl)) A5) A5 ?_
  A6⟨mF,Xy,hmd⟩:=tL hrn hf' A0
  rw[Rj mF hmd]at Xy
  &cZ (aW (aB (aM rfl rfl (mC A4 rfl)) (aB (aM rfl rfl (mC A4 rfl)) rfl)) rfl Xy) A5 ?_
  &zN (b:=false) ((zL (gG (b:=true) (cD (aW (aB rfl (aB rfl rfl)) rfl lG)))).trans (cD (aM rfl (eN (aB rfl (aB rfl rfl)) A5) (tO false (bA m) ps)))) rfl (Cd ?_)
  &Tg (ds:=(bA (due0++rM)).map pD) rfl (jK (aB rfl (aB rfl rfl)) A5) (by rw[B4,(cU _).length_eq,D7];omega) ?_
  A6⟨m0,DP,hm0⟩:=tL (ps:=[]) hrn ⟨M8,fun p hp=>(by cases hp),fun p hp=>(by cases hp)⟩ (by rw[T2];omega)
  have e0:bA m0=bA m:=by
    rw[←Cw hm1]
    &Ab hm0.1 hrn fun a b=>?_
    rw[hm0.2]
    ~⟨fun z=>z.elim (fun z=>z.2) fun⟨p,hp,_⟩=>(by cases hp),fun z=>.inl ⟨by simp,z⟩⟩
  rw[e0]at DP
  ~sG (d:=.bl true) (xN (aM rfl (eN (aB rfl (aB rfl rfl)) A5) (tO true (bA m) ps)) (xN (aW (aB (aW (aB rfl (aB rfl rfl)) rfl Xy) (aB rfl rfl)) rfl lG) (aW (aB (aW (aB rfl (aB (eN rfl A4) rfl)) rfl DP) (aB rfl rfl)) rfl lG))) ⟨_,rfl,rfl⟩
end Rs

def PySem.W.Fast.tw14919780091656985885:Unit:=()
def PySem.W.Fast.tw6987592585099129827:Unit:=()
def PySem.W.Fast.tw7502735673918498407:Unit:=()
def PySem.W.Fast.tw506332781788146846:Unit:=()
def PySem.W.Fast.tw3830857906522433943:Unit:=()
def PySem.W.Fast.tw16515373285148660297:Unit:=()
def PySem.W.Fast.tw2350361033022732585:Unit:=()
def PySem.W.Fast.tw15883195245544150407:Unit:=()
def PySem.W.Fast.tw15745548806637531978:Unit:=()
def PySem.W.Fast.tw17348736942570396434:Unit:=()
def PySem.W.Fast.tw6284408315713137568:Unit:=()
def PySem.W.Fast.tw12077108849141183580:Unit:=()
def PySem.W.Fast.tw12601874494991251156:Unit:=()
def PySem.W.Fast.tw1283936759664698230:Unit:=()
def PySem.W.Fast.tw4178741331338002222:Unit:=()
def PySem.W.Fast.tw1949774900331718518:Unit:=()
def PySem.W.Fast.tw16418124963475907380:Unit:=()
def PySem.W.Fast.tw5050547462258085690:Unit:=()
def PySem.W.Fast.tw6117913190566094430:Unit:=()
def PySem.W.Fast.tw9895949242980319586:Unit:=()
namespace Rs
open PySem L2
A8 Rk{K:aA}{f:Addr}{oc:Value}{od:Option Addr}{fd:FuncData}{sl:Array (Option Value)}(l:K.lookup f=some ⟨oc,od,.func fd,sl⟩):G0 K (.ref f)=true:=by
 A7 G0
 dsimp only
 rw[l]
A8 KZ{K:aA}{h:Heap}{mg:Str→Option Value}{x:Str}{st:Stmt}{f:Addr}{oc:Value}{od an:Option Addr}{osl:Array (Option Value)}{kV doc pm cdv ct:Value}(X:K.In h)(G:h.Ns mainGlobals mg)(a:R6 K mainGlobals x=some (some (.ref f)))(l:K.lookup f=some ⟨oc,od,.func (E9 x x (cB st) (bK st) (aH st) .none kV doc pm an cdv ct),osl⟩)(c:J7 K cdv x=true):Raw K mg x st:=Vu X G a l c (Rk l)
A8 walk{l:T6}{q:Program}{loose:List Str}{XP:(Str→Option Value)→Heap→Prop}{YP:World→Heap→Prop}{d:DefRec}{K:Params→aA}(hn:l.most=some 63)(hdf:d.params.defaults=[])(hdn:d.name = "law")
  (hY:∀(w:World)(h:Heap),YP w h→(K w.params).In h)
  (F:∀(w:World)(mg:Str→Option Value)(h:Heap),(K w.params).In h→h.Ns mainGlobals mg→Raw (K w.params) mg "_law_cell_at" lB∧Raw (K w.params) mg "key_of" Cg∧Raw (K w.params) mg "is_put" Ci∧Raw (K w.params) mg "amount_of" nO∧Raw (K w.params) mg "check_parts" iY∧Raw (K w.params) mg "plainly" sU∧Raw (K w.params) mg "_law_key" xP∧Raw (K w.params) mg "_law_whole" nP∧Raw (K w.params) mg "_law_rows" sV∧Raw (K w.params) mg "_law_part" sW∧Raw (K w.params) mg "law" Hu∧mg "len" = none∧mg "dict" = none∧mg "sorted" = none∧mg "isinstance" = none∧mg "bool" = none∧mg "int" = none∧mg "list" = none∧mg "tuple" = none∧Ek mg "PUT" "put") :
  U1 q loose XP YP l.row.toRowW d [] (fun f vs=>T5 f vs):=by
 &L2.Hf (n:=63) (k:=4) (x := "script") (CX:=fun _=>Ie) (sp:=fun w=>JT (K w.params)) hn A4 hdf ⟨rfl,by decide,by decide⟩ hY ?_ (fun _ _ a ns hl hb _ hS=>⟨a,ns,rfl,hS,hl,hb,fun _=>rfl⟩) fun _ _ _ _ _ z=>z
 intro w mg fa h KX G hmg
 A6⟨Cz,Xz,Yb,Hz,Ae,Nf,Rm,Ib,Ng,Nh,LC,sX,zdict,gJ,bT,Mm,Xq,sZ,Cq,Xp⟩:=F w mg h KX G
 A6⟨f,fd,FL,m⟩:=LC.ex
 rw[hdn]at hmg
 have e:=hmg.symm.trans m
 cases e
 &⟨fd,Bl FL (fun _ _ _ _ _ _ u=>rfl),fun base _ _=>?_⟩
 have lF:=xQ (P:=l.prog) (w:=w) (mg:=mg) (base:=base) Cz  sX
 have lD:=Mj (P:=l.prog) (w:=w) (mg:=mg) (base:=base) Xz
 have lE:=Ml (P:=l.prog) (w:=w) (mg:=mg) (base:=base) Yb  Xp
 have dG:=zV (P:=l.prog) (w:=w) (mg:=mg) (base:=base) Hz
 have jA:=uD (P:=l.prog) (w:=w) (mg:=mg) (base:=base) Ae lD dG lE
 have jB:=Ck (P:=l.prog) (w:=w) (mg:=mg) (base:=base) Nf jA lE lD dG  zdict gJ
 have pU:=Hv (P:=l.prog) (w:=w) (mg:=mg) (base:=base) Rm
 have jN:=zW (P:=l.prog) (w:=w) (mg:=mg) (base:=base) Ib  bT Mm Xq
 have jC:=Cp (P:=l.prog) (w:=w) (mg:=mg) (base:=base) Ng jN  sX bT sZ Cq
 have tD:=Cr (P:=l.prog) (w:=w) (mg:=mg) (base:=base) Nh
 ~Xr FL lF pU tD jB jC  sX gJ sZ Nb
end Rs
open PySem PySem.W PyProof.Rows
set_option maxRecDepth 100000 in
set_option maxHeartbeats 0 in
theorem PySem.Challenge.cw_ripestone_k33_plainly_holds : PySem.Challenge.rw_ripestone_k33_plainly.Holds := by
 w_on;o_law;k_head;(case hw=>w_witness2)
 k_fill
 &Rs.walk (l:=PySem.Challenge.rw_ripestone_k33_plainly) rfl rfl rfl (fun w h Y=>PySem.W.kIn_of Y) ?F
 case F=>
  intro w mg h KX G
  &⟨?_,?_,?_,?_,?_,?_,?_,?_,?_,?_,?_,F8 KX G ?_,F8 KX G ?_,F8 KX G ?_,F8 KX G ?_,F8 KX G ?_,F8 KX G ?_,F8 KX G ?_,F8 KX G ?_,?_⟩
  iterate 11
   ·refine' Rs.KZ KX G ?a ?l ?c
    (case a=>k_is);(case l=>k_is);(case c=>k_is)
  iterate 8
   ·k_is
  ·refine' L2.Kw KX G ?a
   (case a=>k_is)
#print axioms PySem.Challenge.cw_ripestone_k33_plainly_holds
