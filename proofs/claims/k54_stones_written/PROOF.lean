import PyProof.Rows.All
import Wide.All
import OpenK.AllK
import Wide.FinOn
import Lean
import PyProof.EqAt
import PyProof.EqKinds
import PyProof.TupleCall
import PySem.Challenge.RW_ripestone_k54_stones_written
macro"~"t:term:tactic=>`(tactic|exact $t)
macro"&"t:term:tactic=>`(tactic|refine $t)
macro"A3":term=>`(by omega)
macro"A4":term=>`(by decide +kernel)
macro"A5":term=>`(by decide)
macro"A6":term=>`(by exact Nat.le_of_ble_eq_true rfl)
macro"A8"i:(ppSpace colGt ident)+ l:(Lean.Parser.Tactic.location)?:tactic=>`(tactic|unfold $i* $[$l]?)
macro"A7"p:Lean.Parser.Tactic.rcasesPatMed":="t:term:tactic=>`(tactic|obtain $p := $t)
macro"A7"p:Lean.Parser.Tactic.rcasesPatMed":"y:term":="t:term:tactic=>`(tactic|obtain $p : $y := $t)
open Lean.Parser.Command in
macro"A9"n:declId s:declSig v:declVal:command=>`(command|theorem $n $s $v)
open Array renaming length_toList→G8,toList→R9
open Bool renaming false_ne_true→C7,eq_iff_iff→G0,and_eq_true→K4,and_false→R5
open Int renaming emod_lt_of_pos→E7,emod_nonneg→F3,toNat_natCast→G9,mul_nonneg→O3,mul_le_mul→O4,zero_add→P6,pow_pos→Q0
open List renaming size_toArray→B3,getElem?_eq_getElem→B4,length_map→B6,getElem?_eq_some_iff→B8,mem_cons_of_mem→B9,getElem?_map→C3,mem_cons_self→C6,map_cons→C9,length_append→D2,mem_append_right→D4,replicate→D7,length_cons→E3,mem_cons→E4,map_append→E5,mem_singleton→E6,range→E9,mem_append→F2,getD_eq_getElem?_getD→F5,length_singleton→F7,map_nil→G1,map_map→G2,mem_map→G6,mem_range→I0,mem_of_getElem?→J3,cons_append→J4,append_nil→J5,drop_eq_getElem_cons→J6,length_take→K2,lookup_cons→K3,mem_append_left→K6,getElem?_set_ne→K7,nodup_cons→K8,filterMap_cons→L0,map_eq_nil_iff→L1,getElem?_append_right→L6,length_range→M4,getElem?_append_left→M5,length_drop→M8,all_eq_true→M9,getElem_mem→N0,getElem?_replicate→N3,of_mem_zip→N6,getElem?_set_self→N8,length_replicate→O1,getElem_of_mem→O6,take_succ_cons→O7,replicate_succ→O8,map_congr_left→O9,mem_filterMap→P1,zip_cons_cons→P4,getElem_range→P5,ext_getElem→Q5,drop_length→Q6,cons_ne_nil→Q7,take_length→Q8,getElem_map→Q9,mem_filter→R0,nil_append→R4
open Nat renaming lt_of_lt_of_le→B5,le_refl→B7,ne_of_lt→D8,le_trans→D9,lt_irrefl→F0,ne_of_gt→J7,zero_le→L4,digitChar→L8,lt_succ_of_lt→M3,zero_add→N1,toDigits→N2,toDigits_of_lt_base→N4,strongRecOn→N7,le_of_lt→P0,le_succ→P9,lt_succ_self→Q3
open Option renaming bind_some→C5,getD_none→Q2,getD_some→Q4,none→S1
open Option.some renaming inj→E1
open Or renaming inr→D3,inl→D5
open PyProof.Rows renaming boot_list→G5,boot_str→G7,boot_tuple→J9,boot_all→K5,boot_isinstance→L3,callWith_type1→L5,boot_int→O2
open PySem renaming boot_len→C4,mem_of_lookup→F4,intText?→J2,call→R1,Within→R8
open PySem.F renaming plainAttrs_str→D1,plainAttrs_list→F1,slot_str_join→F8,type_str_join→F9,slot_list_append→G3,type_list_append→G4,slot_str_split→K0,type_str_split→K1
open PySem.Str renaming ofString→J8
open PySem.W renaming kitOne→C8,kia_one→D6,fnOf→E2,mg_none_of→E8,keepIn→F6,findIn→J0,codeIn→J1,nsIn→K9,mg_of→L7,methodObj→L9,kitx_list→M0,instObj→N5,cellsFrom_some→N9,lookIn→O0,kitx_tuple→P2,specialIn→P7,kitx_dict→P8,plainGet→Q1,OpenLaw→R3,kitCls→R6,WalkO→R7,isFn→S0
open PySem.W.KIN renaming val_back→O5
open Sum renaming inl→M6,inr→M7
abbrev aA:=PySem.W.Frag
A9 aP{α:Type u_1}{b:α}{β:Type u_2}{x:Option β}{f:β→Option α}(h:x.bind f=some b):∃a,x=some a∧f a=some b:=Option.bind_eq_some_iff.mp h
A9 iG{α:Type u_1}{b:α}{β:Type u_2}{x:Option β}{f:β→α}(h:x.map f=some b):∃a,x=some a∧f a=b:=Option.map_eq_some_iff.mp h

set_option Elab.async false
set_option linter.all false
set_option maxRecDepth 100000
namespace L2
open PySem PySem.Spec PyProof.Rows
abbrev Key:=Sum Int Str
def Tf:Key→Value→Bool
 | .inl k,v=>Value.isInt k v
 | .inr x,v=>Value.isStrOf x v
def GR(w:World):Key→Int
 | .inl k=>hashInt k
 | .inr x=>hashStr w x
A9 bM:∀{k:Key} {v:Value},Tf k v=true→(∃i t,k=M6 i∧v=Value.int i t)∨(∃x t,k=M7 x∧v=Value.str x t)
 | .inl i,v,h=>by
  A7⟨t,e⟩:=Value.isInt_shape (k:=i) (v:=v) h
  ~.inl ⟨i,t,rfl,e⟩
 | .inr x,v,h=>by
  A7⟨t,e⟩:=Value.isStrOf_shape (x:=x) (v:=v) h
  ~.inr ⟨x,t,rfl,e⟩
A9 Ur(a b:Int):decide ((M6 a:Key)=M6 b)=(a==b):=by
 by_cases e:a=b
 ·subst e;simp
 ·have h:¬(M6 a:Key)=M6 b:=fun q=>e (Sum.inl.inj q)
  rw[decide_eq_false h]
  ~(beq_eq_false_iff_ne.mpr e).symm
A9 Us(a b:Str):decide ((M7 a:Key)=M7 b)=decide (a=b):=by
 by_cases e:a=b
 ·subst e;simp
 ·have h:¬(M7 a:Key)=M7 b:=fun q=>e (Sum.inr.inj q)
  rw[decide_eq_false h,decide_eq_false e]
A9 Ut(a:Int)(b:Str):decide ((M6 a:Key)=M7 b)=false:=decide_eq_false (fun q=>nomatch q)
A9 Uu(a:Str)(b:Int):decide ((M7 a:Key)=M6 b)=false:=decide_eq_false (fun q=>nomatch q)
def Eo(prog:Program)(w:World):PySem.KeyKind prog w Key where
  is:=Tf
  hash:=GR w
  inj:=fun v a b ha hb=>by
    rcases bM ha with ⟨i,t,rfl,rfl⟩ | ⟨x,t,rfl,rfl⟩
    · rcases bM hb with ⟨j,u,rfl,e⟩ | ⟨y,u,rfl,e⟩
      · injection e with e1 _;rw[e1]
      · ~nomatch e
    · rcases bM hb with ⟨j,u,rfl,e⟩ | ⟨y,u,rfl,e⟩
      · ~nomatch e
      · injection e with e1 _;rw[e1]
  byValue:=fun k v h=>by
    rcases bM h with ⟨i,t,rfl,rfl⟩ | ⟨x,t,rfl,rfl⟩<;>rfl
  pyHash:=fun hv h=>by
    rcases bM hv with ⟨i,t,rfl,rfl⟩ | ⟨x,t,rfl,rfl⟩
    · ~wpAny_pyHash_int h
    · ~wpAny_pyHash_str h
  eqBool:=fun hu hv h=>by
    rcases bM hu with ⟨i,t,rfl,rfl⟩ | ⟨x,t,rfl,rfl⟩
    · rcases bM hv with ⟨j,u,rfl,rfl⟩ | ⟨y,u,rfl,rfl⟩
      · rw[Ur]at h;~wpAny_eqBool_int h
      · rw[Ut]at h;~SeqAt.EqAt.int_str i t y u _ _ _ _ h
    · rcases bM hv with ⟨j,u,rfl,rfl⟩ | ⟨y,u,rfl,rfl⟩
      · rw[Uu]at h;~SeqAt.EqAt.str_int x t j u _ _ _ _ h
      · rw[Us]at h;~wpAny_eqBool_str h
  «strs»:=fun k x t v h=>by
    rcases bM h with ⟨i,u,rfl,e⟩ | ⟨y,u,rfl,e⟩
    · ~nomatch e
    · injection e with e1 _
      subst e1
      cases v<;>rfl
end L2
namespace L2
open PySem PySem.Spec PyProof.Rows
inductive V where
  | non | bl (b:Bool) | int (i:Int) | str (x:Str) | byt (b:Array UInt8) | flt (b:UInt64) | ref (a:Addr) | ty (n:String)
  deriving DecidableEq
def RelV:V→Value→Prop
 | .non,u=>u=Value.none
 | .bl b,u=>u=Value.bool b
 | .int i,u=>∃t,u=Value.int i t
 | .str x,u=>∃t,u=Value.str x t
 | .byt b,u=>∃t,u=Value.bytes b t
 | .flt b,u=>∃t,u=Value.float b t
 | .ref a,u=>u=Value.ref a
 | .ty n,u=>u=Value.type n
abbrev Vals:List V→List Value→Prop:=Paired RelV
A9 Vals.length{xs:List V}{us:List Value}(r:Vals xs us):xs.length=us.length:=Paired.length r
A9 Vals.get:∀{xs:List V} {us:List Value} {i:Nat} {x:V},Vals xs us→xs[i]?=some x→∃u,us[i]?=some u∧RelV x u
 | _,_,_,_,.nil,e=>by simp at e
 | _,_,0,_,.cons r _,e=>by simp at e;subst e;~⟨_,rfl,r⟩
 | _,_,i+1,x,.cons _ t,e=>by
  A7⟨u,h1,h2⟩:=Vals.get (i:=i) (x:=x) t (by simpa using e)
  ~⟨u,by simpa using h1,h2⟩
A9 Vals.append:∀{xs ys:List V} {us ws:List Value},Vals xs us→Vals ys ws→Vals (xs++ys) (us++ws)
 | _,_,_,_,.nil,s=>s
 | _,_,_,_,.cons r t,s=>.cons r (Vals.append t s)
A9 Vals.take:∀{xs:List V} {us:List Value} (n:Nat),Vals xs us→Vals (xs.take n) (us.take n)
 | _,_,0,_=>.nil
 | _,_,_+1,.nil=>.nil
 | _,_,n+1,.cons r t=>.cons r (Vals.take n t)
A9 Vals.drop:∀{xs:List V} {us:List Value} (n:Nat),Vals xs us→Vals (xs.drop n) (us.drop n)
 | _,_,0,r=>r
 | _,_,_+1,.nil=>.nil
 | _,_,n+1,.cons _ t=>Vals.drop n t
def Uv:Option V→Option Value→Prop
 | some v,some u=>RelV v u
 | none,none=>True
 | _,_=>False
def KV{κ:Type}:List (κ×V)→List (κ×Value)→Prop:=Paired fun(p:κ×V) (q:κ×Value)=>p.1=q.1∧RelV p.2 q.2
def kV:Key→V
 | .inl i=>.int i
 | .inr x=>.str x
inductive HO where
  | lst (xs:List V)
  | tup (xs:List V)
  | dK (kvs:List (Key×V)) | dT (kvs:List (List Key×V))
  | set (S:Int→Bool) (n:Nat)
  | ins (C dx:Addr) (fs:List (Str×V))
  | own (x:Addr)
  | xd (fs:List (Str×V))
  | met (f x:Addr)
  | rng (lo hi:Int)
  | oX (o:Obj) (u:HO)
  | tbl (ps:Array Value)
  | ext (φ:Heap→Prop)
abbrev Hp:=Addr→Option HO
def upd(H:Hp)(a:Addr)(o:HO):Hp:=fun b=>if b=a then some o else H b
A9 bI{H:Hp}{a:Addr}{o:HO}:upd H a o a=some o:=by A8 upd;rw[if_pos rfl]
A9 aX{H:Hp}{a b:Addr}{o:HO}(h:b≠a):upd H a o b=H b:=by A8 upd;rw[if_neg h]
A9 dM{H:Hp}{a b:Addr}{o:HO}(h:H a=some o)(h':H b=none):a≠b:=by
 intro e;subst e;rw[h]at h';cases h'
section
variable(P:Program)(w:World)
def dO(H:Hp)(h:Heap)(a:Addr):HO→Prop
 | .lst xs=>xs.length≤sizeLine∧∃(its:List Value)(n:Nat),Vals xs its∧h.get? a=some {cls:=.type "list", data:=.seq its.toArray n}
 | .tup xs=>xs.length≤sizeLine∧∃its:List Value,Vals xs its∧IsTup h a its.toArray
 | .dK kvs=>kvs.length≤sizeLine∧(a==sysModules)=false∧∃vs,KV kvs vs∧h.DictOf (Eo P w) a vs
 | .dT kvs=>kvs.length≤sizeLine∧(a==sysModules)=false∧∃xs:List (List Key×Addr×Value),
   Paired (fun(p:List Key×V) (q:List Key×Addr×Value)=>p.1=q.1∧H q.2.1=some (.tup (p.1.map kV))∧RelV p.2 q.2.2) kvs xs ∧
   ∃o es ep,h.get? a=some o∧o.ExactDict∧o.data=.dict es ep∧es.toList=xs.map (entryOfKey (tupleKind (Eo P w)))∧(xs.map (·.1)).Nodup
 | .set S n=>h.SetOf (intKind P w) a S n
 | .ins C dx fs=>H dx=some (.own a)∧fs.length≤1000∧dx≠a∧h.get? a=some (N5 C dx) ∧
   ∃mA,h.Ns1 dx mA∧(∀f,Uv (fs.lookup f) (mA f))∧R8 mA (fs.map (·.1))
 | .own _=>∃o,h.get? a=some o
 | .xd fs=>∃mA,h.Ns1 a mA∧∀f,Uv (fs.lookup f) (mA f)
 | .rng lo hi=>∃t u v,h.get? a=some {cls:=.type "range", data:=.fields #[.int lo t,.int hi u,.int 1 v]}
 | .oX o u=>h.get? a=some o∧dO H h a u
 | .tbl ps=>h.get? a=some {cls:=.none,data:=.fields ps}
 | .met f x=>h.get? a=some (L9 (.ref f) (.ref x))
 | .ext φ=>φ h∧(∃o,h.get? a=some o)∧∀h1 h2:Heap,φ h1→(∀o,h1.get? a=some o→h2.get? a=some o)→φ h2
def qM(H:Hp)(h:Heap):Prop:=∀a o,H a=some o→dO P w H h a o
end
section
variable{P:Program}{w:World}{H H':Hp}{h h':Heap}{a:Addr}{o:HO}
A9 dO.lt(x:dO P w H h a o):a<h.objs.size:=by
 cases o with
 | lst xs=>A7⟨_,_,_,_,e⟩:=x;~Heap.lt_size e
 | tup xs=>A7⟨_,_,_,p⟩:=x;~p.lt
 | dK kvs=>A7⟨_,_,_,_,o,_,_,e,_⟩:=x;~Heap.lt_size e
 | dT kvs=>A7⟨_,_,_,_,o,_,_,e,_⟩:=x;~Heap.lt_size e
 | set S n=>A7⟨o,_,_,_,e,_⟩:=x;~Heap.lt_size e
 | ins C dx fs=>A7⟨_,_,_,e,_⟩:=x;~Heap.lt_size e
 | own y=>A7⟨_,e⟩:=x;~Heap.lt_size e
 | xd fs=>A7⟨_,⟨_,_,_,e,_⟩,_⟩:=x;~Heap.lt_size e
 | rng lo hi=>A7⟨_,_,_,e⟩:=x;~Heap.lt_size e
 | oX ob u=>A7⟨e,_⟩:=x;~Heap.lt_size e
 | tbl ps=>~Heap.lt_size (show h.get? a=some _ from x)
 | met f y=>~Heap.lt_size (show h.get? a=some _ from x)
 | ext φ=>A7⟨_,⟨_,e⟩,_⟩:=x;~Heap.lt_size e
A9 Paired.Yp{α β:Type}{F G:α→β→Prop}:∀{l₁:List α} {l₂:List β},Paired F l₁ l₂→(∀a b,F a b→G a b)→Paired G l₁ l₂
 | _,_,.nil,_=>.nil
 | _,_,.cons r t,f=>.cons (f _ _ r) (Paired.Yp t f)
A9 dO.stay(x:dO P w H h a o)(k:∀b u,(b=a∨H b=some (.own a))→h.get? b=some u→h'.get? b=some u)
  (ho:∀b,H b=some (.own a)→H' b=some (.own a)) (ht:∀b xs,H b=some (.tup xs)→H' b=some (.tup xs)):dO P w H' h' a o:=by
 induction o with
 | lst xs=>A7⟨z,its,n,r,e⟩:=x;~⟨z,its,n,r,k _ _ (.inl rfl) e⟩
 | tup xs=>A7⟨z,its,r,ob,e,c⟩:=x;~⟨z,its,r,ob,k _ _ (.inl rfl) e,c⟩
 | dK kvs=>A7⟨z,y,vs,r,ob,es,ep,e,c⟩:=x;~⟨z,y,vs,r,ob,es,ep,k _ _ (.inl rfl) e,c⟩
 | dT kvs=>
  A7⟨z,y,xs,r,ob,es,ep,e,c⟩:=x
  ~⟨z,y,xs,Paired.Yp r fun p q z=>⟨z.1,ht _ _ z.2.1,z.2.2⟩,ob,es,ep,k _ _ (.inl rfl) e,c⟩
 | set S n=>A7⟨ob,es,ep,t,e,c⟩:=x;~⟨ob,es,ep,t,k _ _ (.inl rfl) e,c⟩
 | ins C dx fs=>
  A7⟨d,z,ne,e,mA,⟨od,es,ep,e2,c⟩,r⟩:=x
  ~⟨ho _ d,z,ne,k _ _ (.inl rfl) e,mA,⟨od,es,ep,k _ _ (.inr d) e2,c⟩,r⟩
 | own y=>A7⟨ob,e⟩:=x;~⟨ob,k _ _ (.inl rfl) e⟩
 | xd fs=>A7⟨mA,⟨od,es,ep,e,c⟩,r⟩:=x;~⟨mA,⟨od,es,ep,k _ _ (.inl rfl) e,c⟩,r⟩
 | rng lo hi=>A7⟨t,u,v,e⟩:=x;~⟨t,u,v,k _ _ (.inl rfl) e⟩
 | oX ob u ih=>A7⟨e,q⟩:=x;~⟨k _ _ (.inl rfl) e,ih q⟩
 | tbl ps=>
  have e:h.get? a=some {cls:=.none,data:=.fields ps}:=x
  show h'.get? a=some {cls:=.none,data:=.fields ps}
  ~k a _ (.inl rfl) e
 | met f y=>
  have e:h.get? a=some (L9 (.ref f) (.ref y)):=x
  show h'.get? a=some (L9 (.ref f) (.ref y))
  ~k a _ (.inl rfl) e
 | ext φ=>A7⟨p,⟨o,e⟩,st⟩:=x;~⟨st _ _ p fun o q=>k _ _ (.inl rfl) q,⟨o,k _ _ (.inl rfl) e⟩,st⟩
A9 qM.lt(x:qM P w H h)(e:H a=some o):a<h.objs.size:=(x a o e).lt
A9 qM.fresh(x:qM P w H h)(e:h.objs.size≤a):H a=none:=by
 cases q:H a with
 | none=>rfl
 | some u=>~absurd (B5 (x.lt q) e) (F0 _)
A9 qM.kept(x:qM P w H h)(k:∀b u,h.get? b=some u→h'.get? b=some u):qM P w H h':=fun a o e=>
 (x a o e).stay (fun b u _ q=>k b u q) (fun _ q=>q) fun _ _ q=>q
A9 qM.laid(x:qM P w H h)(k:∀b u,h.get? b=some u→h'.get? b=some u)(hp:h.objs.size≤a)(new:dO P w (upd H a o) h' a o):qM P w (upd H a o) h':=fun b u e=>by
 have hn:=x.fresh hp
 by_cases hb:b=a
 ·subst hb;rw[bI]at e;cases e;~new
 ·rw[aX hb]at e
  ~(x b u e).stay (fun c v _ q=>k c v q) (fun c q=>by rw[aX (dM q hn)];~q) fun c xs q=>by rw[aX (dM q hn)];~q
end
def Rd(H:Hp)(a:Addr)(u:HO):Prop:=H a=some u∨∃o,H a=some (.oX o u)
A9 Rd.ok{P:Program}{w:World}{H:Hp}{h:Heap}{a:Addr}{u:HO}(r:Rd H a u)(x:qM P w H h):dO P w H h a u:=by
 rcases r with r | ⟨o,r⟩
 ·~x a u r
 ·A7⟨_,q⟩:=x a _ r
  ~q
def DX:Option HO→Prop
 | some (.lst _)=>True
 | some (.dK _)=>True
 | some (.dT _)=>True
 | some (.set _ _)=>True
 | some (.ins _ _ _)=>True
 | some (.ext _)=>True
 | _=>False
section
variable{P:Program}{w:World}{H:Hp}{h h':Heap}{x e:Addr}{o':HO}
A9 qM.write(ok:qM P w H h)(mu:DX (H x))(he:e=x∨H e=some (.own x))(k:∀b u,b≠e→h.get? b=some u→h'.get? b=some u)(heo:∃u,h'.get? e=some u)
  (new:dO P w (upd H x o') h' x o'):qM P w (upd H x o') h':=fun b u q=>by
 have Yq:∀c y,H c=some (.own y)→c≠x:=fun c y r z=>by subst z;rw[r]at mu;~mu
 have GX:∀c xs,H c=some (.tup xs)→c≠x:=fun c xs r z=>by subst z;rw[r]at mu;~mu
 by_cases hb:b=x
 ·subst hb;rw[bI]at q;cases q;~new
 ·rw[aX hb]at q
  by_cases hbe:b=e
  ·have q':H b=some (.own x):=by
    rcases he with z | z
    ·~absurd (hbe.trans z) hb
    ·rw[hbe];~z
   rw[q]at q';cases q'
   A7⟨v,hv⟩:=heo
   ~⟨v,by rw[hbe];~hv⟩
  ·&(ok b u q).stay (fun c v hc r=>k c v ?_ r) (fun c r=>by rw[aX (Yq c b r)];~r) fun c xs r=>by rw[aX (GX c xs r)];~r
   rcases hc with rfl | hc
   ·~hbe
   ·rintro rfl
    rcases he with z | z
    ·~Yq c b hc z
    ·rw[hc]at z;cases z;~hb rfl
end
structure Un(fs ex:List Addr)(H H':Hp)(h h':Heap):Prop where
 keep:∀b o,h.get? b=some o→H b=none→b∉fs→b∉ex→h'.get? b=some o
 slot:∀b o,h.get? b=some o→H b=none→b∈fs→b∉ex→∃sl,h'.get? b=some {o with slots:=sl}
 free:∀b o,h.get? b=some o→H b=none→b∉ex→H' b=none
 there:∀b o,h.get? b=some o→b∉ex→∃o',h'.get? b=some o'
 tups:∀b xs,H b=some (.tup xs)→H' b=some (.tup xs)
 wM:∀b o u,H b=some (.oX o u)→H' b=some (.oX o u)
 zP:∀b ps,H b=some (.tbl ps)→∃more,H' b=some (.tbl (ps++more))
section
variable{fs fs' ex ex':List Addr}{H H1 H2:Hp}{h h1 h2 h':Heap}{a x e:Addr}{o:HO}
A9 Un.any(u:Un fs ex H H1 h h1){b:Addr}{ob:Obj}(q:h.get? b=some ob)(n:H b=none)(hx:b∉ex):∃sl,h1.get? b=some {ob with slots:=sl}:=by
 by_cases hb:b∈fs
 ·~u.slot b ob q n hb hx
 ·~⟨ob.slots,u.keep b ob q n hb hx⟩
A9 Un.kept(k:∀b u,h.get? b=some u→h'.get? b=some u):Un fs ex H H h h':=
 ⟨fun b ob q _ _ _=>k b ob q,fun b ob q _ _ _=>⟨ob.slots,k b ob q⟩,fun _ _ _ n _=>n,fun b ob q _=>⟨ob,k b ob q⟩,fun _ _ q=>q,fun _ _ _ q=>q,fun _ ps q=>⟨#[],by rw[q];simp⟩⟩
A9 Un.refl:Un fs ex H H h h:=Un.kept fun _ _ q=>q
A9 Un.laid(k:∀b u,h.get? b=some u→h'.get? b=some u)(hp:h.objs.size≤a)(hn:H a=none):Un fs ex H (upd H a o) h h' where
 keep:=fun b u q _ _ _=>k b u q
 slot:=fun b u q _ _ _=>⟨u.slots,k b u q⟩
 free:=fun b u q n _=>by rw[aX (D8 (B5 (Heap.lt_size q) hp))];~n
 there:=fun b u q _=>⟨u,k b u q⟩
 tups:=fun b xs q=>by rw[aX (dM q hn)];~q
 wM:=fun b u xs q=>by rw[aX (dM q hn)];~q
 zP:=fun b ps q=>⟨#[],by rw[aX (dM q hn),q];simp⟩
A9 Un.write(mu:DX (H x))(he:e=x∨H e=some (.own x))(k:∀b u,b≠e→h.get? b=some u→h'.get? b=some u)(heo:∃u,h'.get? e=some u):Un fs ex H (upd H x o) h h':=by
 have hx:∀b,H b=none→b≠x:=fun b n z=>by subst z;rw[n]at mu;~mu
 have hb:∀b,H b=none→b≠e:=fun b n z=>by
  subst z
  rcases he with r | r
  ·~hx b n r
  ·rw[n]at r;cases r
 have hm:∀b u,H b=some u→¬DX (some u)→b≠x:=fun b u q nm z=>by subst z;rw[q]at mu;~nm mu
 &⟨fun b u q n _ _=>k b u (hb b n) q,fun b u q n _ _=>⟨u.slots,k b u (hb b n) q⟩,fun b u q n _=>by rw[aX (hx b n)];~n,fun b u q _=>?_,
  fun b xs q=>by rw[aX (hm b _ q fun z=>z)];~q,fun b u xs q=>by rw[aX (hm b _ q fun z=>z)];~q,fun b ps q=>⟨#[],by rw[aX (hm b _ q fun z=>z),q];simp⟩⟩
 by_cases hbe:b=e
 ·subst hbe;~heo
 ·~⟨u,k b u hbe q⟩
end
def DY(h:Heap)(H:Hp):List Addr:=(E9 h.objs.size).filter fun a=>(H a).isSome
def wN(h:Heap)(H:Hp):Heap:=PySem.W.hideAll h (DY h H)
A9 Gx(h:Heap)(H:Hp):(wN h H).objs.size=h.objs.size:=PySem.W.hideAll_size _ _
A9 Jf{h:Heap}{H:Hp}{b:Addr}{o:Obj}(e:h.get? b=some o)(n:H b=none):(wN h H).get? b=some o:=
 PySem.W.hideAll_get _ e fun hm=>by
  have q:(H b).isSome=true:=(R0.mp hm).2
  rw[n]at q;simp at q
A9 Oj{h:Heap}{H:Hp}{b:Addr}{o:Obj}(e:(wN h H).get? b=some o):h.get? b=some o∧H b=none:=by
 have e':h.get? b=some o:=PySem.W.of_hideAll (DY h H) e
 &⟨e',?_⟩
 cases q:H b with
 | none=>rfl
 | some x=>
  have hm:b∈DY h H:=R0.mpr ⟨I0.mpr (Heap.lt_size e'),by simp[q]⟩
  have z:(wN h H).get? b=none:=PySem.W.hideAll_none (DY h H) hm
  rw[z]at e;cases e
def Ol(g h:Heap)(L:Addr):List (Addr×Obj):=(E9 h.objs.size).filterMap fun a=>if a=L∨(g.get? a).isSome=true then none else(h.get? a).map fun o=>(a,o)
def rest(g h:Heap)(L d:Addr):List (Addr×Obj):=(Ol g h L).filter fun p=>decide (p.1≠d)
end L2
namespace L2
open PySem PySem.Spec PyProof.Rows
structure Mod(K:aA)(mg:Str→Option Value)(base:Heap):Prop where
 GZ:K.In base
 glob:base.Ns mainGlobals mg
 blt:∃mb,base.Ns builtinsNs mb∧∀x:Str,x ≠ "__name__" → mb x=bootBuiltins x
 nolimit:base.NoLimit
structure Cx where
 prog:Program
 w:World
 K:aA
 mg:Str→Option Value
 base:Heap
 A:Around
 N:List Str
 s₀:Shared
 H₀:Hp
 env:Env
 outer:List Env
 stack:List Env
 ex:List Addr
 fn:Str→Bool
 calm:Bool
 pn:List (Addr×Obj)
 xe:Value→Shared→Prop
def frs(l:List Env):List Addr:=l.filterMap (·.frame)
abbrev Cx.fs(X:Cx):List Addr:=frs X.outer
def EY(sc:Scope)(x:Str):Prop:=sc.names.lookup x=some .local∨sc.names.lookup x=some .cell∨sc.names.lookup x=some .free
def Loc(sc:Scope)(x:Str):Prop:=sc.names.lookup x=some .local∨sc.names.lookup x=some .cell
def Look(env:Env)(h:Heap)(m:Str→Option Value)(x:Str)(u:Value):Prop:=
 (env.kindOf x=some .local∧m x=some u)∨((env.kindOf x=some .cell∨env.kindOf x=some .free)∧∃c,env.cells.lookup x=some c∧h.IsCell c (some u))
structure Cx.Ok(X:Cx):Prop where
 mod:Mod X.K X.mg X.base
 kind:X.env.scope.kind=.function
 glob:X.env.globals=mainGlobals
 blt:X.env.builtins=builtinsNs
 above:X.s₀.heap.objs.size≤X.env.locals
 inj:∀x y c,X.env.cells.lookup x=some c→X.env.cells.lookup y=some c→x=y
 has:∀x,(X.env.kindOf x=some .cell∨X.env.kindOf x=some .free)→∃c,X.env.cells.lookup x=some c
 cab:∀x c,X.fn x=true→X.env.cells.lookup x=some c→X.s₀.heap.objs.size≤c
 hd:X.calm=true→X.A.handled=none
 frames:X.A.frames=some X.stack
 FJ:X.stack=X.outer∨(X.stack=X.env::X.outer∧X.env.frame=some X.env.locals)
 LK:∀b∈X.ex,b≠X.env.locals∧∀x c,X.env.cells.lookup x=some c→c≠b
 bs:∀b o,X.base.get? b=some o→X.s₀.heap.get? b=some o∧X.H₀ b=none
 Tg:X.base.objs.size≤X.s₀.heap.objs.size
 Jg:∀b o,X.base.get? b=some o→b∉X.ex
 Om:∀b∈X.ex,b∉X.fs
 rC:X.s₀.heap.FunFrames X.base X.outer
 Yi:∀b∈X.fs,X.H₀ b=none
structure Inv(X:Cx)(pins:List (Addr×Obj))(σ:List (Option V))(H:Hp)(s:Shared):Prop where
 ok:X.Ok
 os:s.os=X.s₀.os
 bare:AllBare s.gens
 base:Un X.fs X.ex X.H₀ H X.s₀.heap s.heap
 loc:∃m,s.heap.Ns X.env.locals m∧∀(i:Nat)(x:Str)(v:V),X.N[i]?=some x→σ[i]?=some (some v)→EY X.env.scope x→∃u,RelV v u∧Look X.env s.heap m x u
 cell:∀x c,X.env.cells.lookup x=some c→∃v,s.heap.IsCell c v
 free:H X.env.locals=none
 lA:∀x c,X.env.cells.lookup x=some c→H c=none
 pin:∀p∈X.pn++pins,s.heap.get? p.1=some p.2∧H p.1=none∧p.1≠X.env.locals∧p.1∉X.fs∧∀v,p.2.data≠.cell v
 hok:qM X.prog X.w H s.heap
 len:σ.length=X.N.length
section
variable{X:Cx}{pins:List (Addr×Obj)}{σ:List (Option V)}{H H':Hp}{s:Shared}{h':Heap}
A9 Cx.Ok.HD(ok:X.Ok){b:Addr}{o:Obj}(e:X.base.get? b=some o):b∉X.fs:=fun hb=>by
 have:=(ok.rC.mem hb).1
 rw[e]at this;cases this
A9 Inv.bs(I:Inv X pins σ H s):∀b o,X.base.get? b=some o→s.heap.get? b=some o∧H b=none:=fun b o e=>
 ⟨I.base.keep b o (I.ok.bs b o e).1 (I.ok.bs b o e).2 (I.ok.HD e) (I.ok.Jg b o e),I.base.free b o (I.ok.bs b o e).1 (I.ok.bs b o e).2 (I.ok.Jg b o e)⟩
A9 Inv.bk(I:Inv X pins σ H s):∀b o,X.base.get? b=some o→s.heap.get? b=some o:=fun b o e=>(I.bs b o e).1
A9 Inv.mod(I:Inv X pins σ H s):Mod X.K X.mg X.base:=I.ok.mod
A9 Inv.wO(I:Inv X pins σ H s):X.K.In s.heap:=I.ok.mod.GZ.keeps I.bk
A9 Inv.lt(I:Inv X pins σ H s):X.env.locals<s.heap.objs.size:=let ⟨_,hn,_⟩:=I.loc;hn.lt
A9 Inv.sz(I:Inv X pins σ H s):X.s₀.heap.objs.size≤s.heap.objs.size:=D9 I.ok.above (P0 I.lt)
A9 Inv.HF(I:Inv X pins σ H s){a:Addr}(h:s.heap.objs.size≤a):a∉X.fs:=fun hb=>by
 A7⟨_,o,ho,_⟩:=I.ok.rC.mem hb
 ~absurd (B5 (Heap.lt_size ho) (D9 I.sz h)) (F0 _)
A9 Inv.Oe(I:Inv X pins σ H s):∀x c,X.env.cells.lookup x=some c→c≠X.env.locals:=fun x c e z=>by
 A7⟨v,o,ho,hd⟩:=I.cell x c e
 A7⟨m,⟨o',es,ep,ho',hd',_⟩,_⟩:=I.loc
 rw[z,ho']at ho;cases ho;rw[hd']at hd;cases hd
A9 Inv.rC(I:Inv X pins σ H s):s.heap.FunFrames X.base X.outer:=by
 have all:∀(l:List Env),(∀b∈frs l,b∈X.fs)→X.s₀.heap.FunFrames X.base l→s.heap.FunFrames X.base l:=by
  intro l
  induction l with
  | nil=>intro _ _;trivial
  | cons env r ih=>
   intro hs hl
   A7⟨hk,⟨L,o,hf,hn,ho,hd⟩,hr⟩:=hl
   have hL:L∈X.fs:=hs L (by A8 frs;rw[L0,hf];~C6)
   A7⟨sl,e⟩:=I.base.slot L o ho (I.ok.Yi L hL) hL fun z=>I.ok.Om L z hL
   ~⟨hk,⟨L,_,hf,hn,e,hd⟩,ih (fun b hb=>hs b (by A8 frs;rw[L0,hf];~B9 _ hb)) hr⟩
 ~all X.outer (fun _ hb=>hb) I.ok.rC
A9 Inv.stack(I:Inv X pins σ H s):s.heap.FunFrames X.base X.stack:=by
 rcases I.ok.FJ with e | ⟨e,hf⟩
 ·rw[e];~I.rC
 ·rw[e]
  A7⟨m,hn,_⟩:=I.loc
  &.cons (by rw[I.ok.kind];decide) hf hn ?_ I.rC
  ~Heap.get?_none_of_le (D9 I.ok.Tg I.ok.above)
A9 Inv.wQ(I:Inv X pins σ H s):∀b∈frs X.stack,b∈X.env.locals::X.fs:=fun b hb=>by
 rcases I.ok.FJ with e | ⟨e,hf⟩
 ·rw[e]at hb;~B9 _ hb
 ·rw[e]at hb
  A8 frs at hb
  rw[L0,hf]at hb
  ~hb
A9 Inv.Ep(I:Inv X pins σ H s):∀b∈frs X.stack,H b=none:=fun b hb=>by
 rcases E4.mp (I.wQ b hb)with e | hb
 ·rw[e];~I.free
 ·A7⟨_,o,ho,_⟩:=I.ok.rC.mem hb
  ~I.base.free b o ho (I.ok.Yi b hb) fun z=>I.ok.Om b z hb
A9 Inv.step{g':Array GenState}{t':Nat}{d':Drawn}{ch:List Addr}(I:Inv X pins σ H s)
  (hch:∀b∈ch,(b∈X.ex∨X.s₀.heap.objs.size≤b)∧b≠X.env.locals∧(∀x c,X.env.cells.lookup x=some c→c≠b)∧∀p∈X.pn++pins,p.1≠b)
  (keep:∀b o,b≠X.env.locals→b∉X.fs→b∉ch→s.heap.get? b=some o→H b=none→h'.get? b=some o)
  (slot:∀b o,b≠X.env.locals→b∈X.fs→b∉ch→s.heap.get? b=some o→H b=none→∃sl,h'.get? b=some {o with slots:=sl}) (free:∀b o,b∉ch→s.heap.get? b=some o→H b=none→H' b=none)
  (there:∀b o,b∉ch→s.heap.get? b=some o→∃o',h'.get? b=some o')
  (tups:∀b xs,H b=some (.tup xs)→H' b=some (.tup xs)) (wM:∀b o u,H b=some (.oX o u)→H' b=some (.oX o u)) (zP:∀b ps,H b=some (.tbl ps)→∃more,H' b=some (.tbl (ps++more)))
  (ns:∀m,s.heap.Ns X.env.locals m→h'.Ns X.env.locals m) (hok:qM X.prog X.w H' h') (hg:AllBare g') :
  Inv X pins σ H' {s with heap:=h',gens:=g',drawn:=d',toks:=t'}:=by
 have LQ:∀b o,X.s₀.heap.get? b=some o→b≠X.env.locals:=fun b o e=>D8 (B5 (Heap.lt_size e) I.ok.above)
 have Yj:∀b o,X.s₀.heap.get? b=some o→b∉X.ex→b∉ch:=fun b o e hx hb=>by
  rcases(hch b hb).1 with z | z
  ·~hx z
  ·~absurd (B5 (Heap.lt_size e) z) (F0 _)
 have cellK:∀x c,X.env.cells.lookup x=some c→∀v,s.heap.IsCell c v→h'.IsCell c v:=fun x c e v ⟨o,ho,hd⟩=>by
  have Yr:c∉ch:=fun z=>(hch c z).2.2.1 x c e rfl
  by_cases hc:c∈X.fs
  ·A7⟨sl,q⟩:=slot c o (I.Oe x c e) hc Yr ho (I.lA x c e)
   ~⟨_,q,hd⟩
  ·~⟨o,keep c o (I.Oe x c e) hc Yr ho (I.lA x c e),hd⟩
 &⟨I.ok,I.os,hg,⟨fun b o e n hb hx=>?_,fun b o e n hb hx=>?_,fun b o e n hx=>?_,fun b o e hx=>?_,fun b xs e=>tups b xs (I.base.tups b xs e),fun b o xs e=>wM b o xs (I.base.wM b o xs e),fun b ps e=>?_⟩,?_,fun x c e=>?_,?_,fun x c e=>?_,fun p hp=>?_,hok,I.len⟩
 ·~keep b o (LQ b o e) hb (Yj b o e hx) (I.base.keep b o e n hb hx) (I.base.free b o e n hx)
 ·A7⟨sl,e1⟩:=I.base.slot b o e n hb hx
  A7⟨sl',e2⟩:=slot b _ (LQ b o e) hb (Yj b o e hx) e1 (I.base.free b o e n hx)
  ~⟨sl',e2⟩
 ·A7⟨o',e1⟩:=I.base.there b o e hx
  ~free b o' (Yj b o e hx) e1 (I.base.free b o e n hx)
 ·A7⟨o',e1⟩:=I.base.there b o e hx
  ~there b o' (Yj b o e hx) e1
 ·A7⟨m1,e1⟩:=I.base.zP b ps e
  A7⟨m2,e2⟩:=zP b _ e1
  ~⟨m1++m2,by rw[e2,Array.append_assoc]⟩
 ·A7⟨m,hn,hl⟩:=I.loc
  &⟨m,ns m hn,fun i x v e1 e2 e3=>?_⟩
  A7⟨u,r,l⟩:=hl i x v e1 e2 e3
  &⟨u,r,?_⟩
  rcases l with l | ⟨k,c,e,z⟩
  ·~.inl l
  ·~.inr ⟨k,c,e,cellK x c e _ z⟩
 ·A7⟨v,z⟩:=I.cell x c e
  ~⟨v,cellK x c e v z⟩
 ·A7⟨m,⟨o,_,_,ho,_⟩,_⟩:=I.loc
  ~free _ o (fun z=>(hch _ z).2.1 rfl) ho I.free
 ·A7⟨v,o,ho,hd⟩:=I.cell x c e
  ~free c o (fun z=>(hch c z).2.2.1 x c e rfl) ho (I.lA x c e)
 ·A7⟨e,n,ne,nf,d⟩:=I.pin p hp
  have Yr:p.1∉ch:=fun z=>(hch p.1 z).2.2.2 p hp rfl
  ~⟨keep p.1 p.2 ne nf Yr e n,free p.1 p.2 Yr e n,ne,nf,d⟩
A9 Inv.un{t':Nat}(I:Inv X pins σ H s)(u:Un X.fs [] H H' s.heap h')(hok:qM X.prog X.w H' h'):Inv X pins σ H' {s with heap:=h',toks:=t'}:=by
 A7⟨m,⟨o,es,ep,ho,r⟩,_⟩:=id I.loc
 A7⟨sl,hL⟩:=u.any ho I.free (by simp)
 ~I.step (g':=s.gens) (d':=s.drawn) (ch:=[]) (fun _ z=>nomatch z) (fun b o _ hb _ e n=>u.keep b o e n hb (by simp)) (fun b o _ hb _ e n=>u.slot b o e n hb (by simp)) (fun b o _ e n=>u.free b o e n (by simp)) (fun b o _ e=>u.there b o e (by simp)) u.tups u.wM u.zP (fun m' hm=>by
  A7⟨o',es',ep',ho',r'⟩:=hm
  rw[ho]at ho';cases ho'
  ~⟨_,es',ep',hL,r'⟩) hok I.bare
A9 Inv.call{g':Array GenState}{t':Nat}{d':Drawn}{ch:List Addr}(I:Inv X pins σ H s)(u:Un (frs X.stack) ch H H' s.heap h')(hok:qM X.prog X.w H' h')(hg:AllBare g')
  (hch:∀b∈ch,(b∈X.ex∨X.s₀.heap.objs.size≤b)∧b≠X.env.locals∧(∀x c,X.env.cells.lookup x=some c→c≠b)∧∀p∈X.pn++pins,p.1≠b) :
  Inv X pins σ H' {s with heap:=h',gens:=g',drawn:=d',toks:=t'}:=by
 A7⟨m,⟨o,es,ep,ho,r⟩,_⟩:=id I.loc
 A7⟨sl,hL⟩:=u.any ho I.free fun z=>(hch _ z).2.1 rfl
 ~I.step (ch:=ch) hch (fun b o hL hb hc e n=>u.keep b o e n (fun z=>(E4.mp (I.wQ b z)).elim hL hb) hc) (fun b o _ _ hc e n=>u.any e n hc) (fun b o hc e n=>u.free b o e n hc) (fun b o hc e=>u.there b o e hc) u.tups u.wM u.zP (fun m' hm=>by
  A7⟨o',es',ep',ho',r'⟩:=hm
  rw[ho]at ho';cases ho'
  ~⟨_,es',ep',hL,r'⟩) hok hg
A9 Inv.turned{t':Nat}{it:Addr}(I:Inv X pins σ H s)(k:∀b o,b≠it→s.heap.get? b=some o→h'.get? b=some o)(hn:H it=none)(hL:it≠X.env.locals)
  (h1:it∈X.ex∨X.s₀.heap.objs.size≤it) (h2:∀x c,X.env.cells.lookup x=some c→c≠it) (h3:∀p∈X.pn++pins,p.1≠it):Inv X pins σ H {s with heap:=h',toks:=t'}:=by
 have LR:∀b u,H b=some u→b≠it:=fun b u e z=>by rw[z,hn]at e;cases e
 &I.step (g':=s.gens) (d':=s.drawn) (ch:=[it]) (fun b hb=>?_) (fun b o _ _ hc e _=>k b o (fun z=>hc (by simp[z])) e) (fun b o _ _ hc e _=>⟨o.slots,k b o (fun z=>hc (by simp[z])) e⟩) (fun _ _ _ _ n=>n)
  (fun b o hc e=>⟨o,k b o (fun z=>hc (by simp[z])) e⟩) (fun _ _ e=>e) (fun _ _ _ e=>e) (fun b ps e=>⟨#[],by rw[e];simp⟩) (fun m hm=>?_) (fun b u e=>?_) I.bare
 ·have e:b=it:=by simpa using hb
  subst e
  ~⟨h1,hL,h2,h3⟩
 ·A7⟨o,es,ep,ho,r⟩:=hm
  ~⟨o,es,ep,k _ o (Ne.symm hL) ho,r⟩
 ·&(I.hok b u e).stay (fun c v hc q=>k c v ?_ q) (fun _ q=>q) fun _ _ q=>q
  rcases hc with z | z
  ·rw[z];~LR b u e
  ·~LR c _ z
A9 Inv.tok(I:Inv X pins σ H s)(t:Nat):Inv X pins σ H {s with toks:=t}:=I.un (h':=s.heap) (t':=t) Un.refl I.hok
A9 Inv.kept{t':Nat}(I:Inv X pins σ H s)(k:∀b u,s.heap.get? b=some u→h'.get? b=some u):Inv X pins σ H {s with heap:=h',toks:=t'}:=I.un (Un.kept k) (I.hok.kept k)
A9 Inv.laid{a:Addr}{o:HO}{t':Nat}(I:Inv X pins σ H s)(k:∀b u,s.heap.get? b=some u→h'.get? b=some u)(hp:s.heap.objs.size≤a)(new:dO X.prog X.w (upd H a o) h' a o) :
  Inv X pins σ (upd H a o) {s with heap:=h',toks:=t'}:=I.un (Un.laid k hp (I.hok.fresh hp)) (I.hok.laid k hp new)
A9 Inv.write{x e:Addr}{o:HO}{t':Nat}(I:Inv X pins σ H s)(mu:DX (H x))(he:e=x∨H e=some (.own x))(k:∀b u,b≠e→s.heap.get? b=some u→h'.get? b=some u)(heo:∃u,h'.get? e=some u)
  (new:dO X.prog X.w (upd H x o) h' x o):Inv X pins σ (upd H x o) {s with heap:=h',toks:=t'}:=I.un (Un.write mu he k heo) (I.hok.write mu he k heo new)
A9 Inv.weak{σ':List (Option V)}(I:Inv X pins σ H s)(hl:σ'.length=σ.length)(w:∀(i:Nat) v,σ'[i]?=some (some v)→σ[i]?=some (some v)):Inv X pins σ' H s:=
 ⟨I.ok,I.os,I.bare,I.base,let ⟨m,hn,hl'⟩:=I.loc;⟨m,hn,fun i x v e1 e2 e3=>hl' i x v e1 (w i v e2) e3⟩,I.cell,I.free,I.lA,I.pin,I.hok,hl.trans I.len⟩
A9 Inv.Er{Th:List (Addr×Obj)}(I:Inv X pins σ H s)(h:∀p∈Th,s.heap.get? p.1=some p.2∧H p.1=none∧p.1≠X.env.locals∧p.1∉X.fs∧∀v,p.2.data≠.cell v):Inv X Th σ H s:=
 ⟨I.ok,I.os,I.bare,I.base,I.loc,I.cell,I.free,I.lA,fun p hp=>(F2.mp hp).elim (fun z=>I.pin p (K6 _ z)) (h p),I.hok,I.len⟩
A9 zQ{N:List Str}(hN:N.Nodup){i j:Nat}{x:Str}(a:N[i]?=some x)(b:N[j]?=some x):i=j:=by
 A7⟨h1,e1⟩:=B8.mp a
 A7⟨h2,e2⟩:=B8.mp b
 ~(List.getElem_inj hN).mp (e1.trans e2.symm)
A9 uX{M:Model}{A:Around}{E:Value→Shared→Prop}{i:Nat}{x:Str}{v:V}{u:Value}{Q:Unit→Shared→Prop}(I:Inv X pins σ H s)(hN:X.N.Nodup)(hi:X.N[i]?=some x)(hx:Loc X.env.scope x)(r:RelV v u)
  (h:∀s',Inv X pins (σ.set i (some v)) H s'→(∃a,Heap.SameBut a s.heap s'.heap∧(a=X.env.locals∨X.env.cells.lookup x=some a))→Q () s') (hf:X.fn x=true∨X.env.scope.names.lookup x=some .local:=by first | ~.inl rfl | ~.inr rfl | assumption):wpAny M A (storeName X.env x u) Q E s:=by
 A7⟨m,hn,hl⟩:=id I.loc
 have hcls:(X.env.scope.kind==.class||(X.env.scope.kind==.module&&X.env.locals != X.env.globals))=false:=by rw[I.ok.kind];rfl
 have MF:i<σ.length:=by rw[I.len];~(B8.mp hi).1
 have Oe:=I.Oe
 have tracked:∀{a:Addr} {h':Heap},(∃o,s.heap.get? a=some o∧H a=none)→Heap.SameBut a s.heap h'→qM X.prog X.w H h':=fun{a h'} ha hs b ob e=>by
  A7⟨_,_,hfree⟩:=ha
  &(I.hok b ob e).stay (fun c w' hc q=>(hs.2 c ?_).trans q) (fun _ q=>q) fun _ _ q=>q
  rintro rfl
  rcases hc with rfl | hc
  ·rw[hfree]at e;cases e
  ·rw[hfree]at hc;cases hc
 rcases hx with hk | hk
 ·&wpAny_storeName_local hk hn (fun h' hn' hs=>?_) hcls
  A7⟨oL,_,_,hoL,_⟩:=id hn
  &h _ ⟨I.ok,I.os,I.bare,⟨fun b o e n hb hx=>?_,fun b o e n hb hx=>?_,I.base.free,fun b o e hx=>?_,I.base.tups,I.base.wM,I.base.zP⟩,⟨_,hn',fun j y v' e1 e2 e3=>?_⟩,fun y c e=>?_,I.free,I.lA,fun p hp=>?_,tracked ⟨oL,hoL,I.free⟩ hs,by simpa using I.len⟩ ⟨_,hs,.inl rfl⟩
  ·~(hs.2 b (D8 (B5 (Heap.lt_size e) I.ok.above))).trans (I.base.keep b o e n hb hx)
  ·A7⟨sl,e1⟩:=I.base.slot b o e n hb hx
   ~⟨sl,(hs.2 b (D8 (B5 (Heap.lt_size e) I.ok.above))).trans e1⟩
  ·A7⟨o',e1⟩:=I.base.there b o e hx
   ~⟨o',(hs.2 b (D8 (B5 (Heap.lt_size e) I.ok.above))).trans e1⟩
  ·by_cases hj:j=i
   ·subst hj
    rw[hi]at e1;cases e1
    rw[N8 MF]at e2
    cases e2
    ~⟨u,r,.inl ⟨hk,by simp⟩⟩
   ·rw[K7 (Ne.symm hj)]at e2
    A7⟨u',r',q⟩:=hl j y v' e1 e2 e3
    &⟨u',r',?_⟩
    rcases q with ⟨k,e⟩ | ⟨k,c,e,z⟩
    ·&.inl ⟨k,?_⟩
     have:y≠x:=fun e=>hj (zQ hN e1 (e▸hi))
     simp[this,e]
    ·~.inr ⟨k,c,e,z.sameBut hs (Oe y c e)⟩
  ·A7⟨w',z⟩:=I.cell y c e
   ~⟨w',z.sameBut hs (Oe y c e)⟩
  ·A7⟨e,n,ne,nf,d⟩:=I.pin p hp
   ~⟨(hs.2 p.1 ne).trans e,n,ne,nf,d⟩
 ·have hfn:X.fn x=true:=by
   rcases hf with z | z
   ·~z
   ·rw[z]at hk;cases hk
  A7⟨c,hc⟩:=I.ok.has x (.inl hk)
  A7⟨w',z⟩:=I.cell x c hc
  &wpAny_storeName_cell I.ok.kind hk hc z (fun h' hc' hs=>?_)
  A7⟨oc,hoc,HH⟩:=id z
  &h {s with heap:=h'} ⟨I.ok,I.os,I.bare,⟨fun b o e n hb hx=>?_,fun b o e n hb hx=>?_,I.base.free,fun b o e hx=>?_,I.base.tups,I.base.wM,I.base.zP⟩,⟨m,hn.sameBut hs (Ne.symm (Oe x c hc)),fun j y v' e1 e2 e3=>?_⟩,fun y c' e=>?_,I.free,I.lA,fun p hp=>?_,tracked ⟨oc,hoc,I.lA x c hc⟩ hs,by simpa using I.len⟩ ⟨c,hs,.inr hc⟩
  ·~(hs.2 b (D8 (B5 (Heap.lt_size e) (I.ok.cab x c hfn hc)))).trans (I.base.keep b o e n hb hx)
  ·A7⟨sl,e1⟩:=I.base.slot b o e n hb hx
   ~⟨sl,(hs.2 b (D8 (B5 (Heap.lt_size e) (I.ok.cab x c hfn hc)))).trans e1⟩
  ·A7⟨o',e1⟩:=I.base.there b o e hx
   ~⟨o',(hs.2 b (D8 (B5 (Heap.lt_size e) (I.ok.cab x c hfn hc)))).trans e1⟩
  ·by_cases hj:j=i
   ·subst hj
    rw[hi]at e1;cases e1
    rw[N8 MF]at e2
    cases e2
    ~⟨u,r,.inr ⟨.inl hk,c,hc,hc'⟩⟩
   ·rw[K7 (Ne.symm hj)]at e2
    A7⟨u',r',q⟩:=hl j y v' e1 e2 e3
    &⟨u',r',?_⟩
    rcases q with q | ⟨k,c',e,z'⟩
    ·~.inl q
    ·&.inr ⟨k,c',e,z'.sameBut hs ?_⟩
     rintro rfl
     ~hj (zQ hN e1 (I.ok.inj _ _ _ e hc▸hi))
  ·by_cases hcc:c'=c
   ·subst hcc;~⟨_,hc'⟩
   ·A7⟨w2,z2⟩:=I.cell y c' e
    ~⟨w2,z2.sameBut hs hcc⟩
  ·A7⟨e,n,ne,nf,d⟩:=I.pin p hp
   &⟨(hs.2 p.1 ?_).trans e,n,ne,nf,d⟩
   intro q
   rw[q,hoc]at e
   have q':oc=p.2:=E1 e
   ~d w' (by rw[←q'];~HH)
A9 zR{M:Model}{A:Around}{E:Value→Shared→Prop}{i:Nat}{x:Str}{v:V}{u:Value}{Q:Unit→Shared→Prop}(I:Inv X pins σ H s)(hN:X.N.Nodup)(hi:X.N[i]?=some x)(hx:Loc X.env.scope x)(r:RelV v u)
  (h:∀s',Inv X pins (σ.set i (some v)) H s'→Q () s') (hf:X.fn x=true∨X.env.scope.names.lookup x=some .local:=by first | ~.inl rfl | ~.inr rfl | assumption):wpAny M A (storeName X.env x u) Q E s:=
 uX I hN hi hx r (fun s' I' _=>h s' I') hf
A9 Inv.call'{s':Shared}{ch:List Addr}(I:Inv X pins σ H s)(ho:s'.os=s.os)(u:Un (frs X.stack) ch H H' s.heap s'.heap)(hok:qM X.prog X.w H' s'.heap)(hg:AllBare s'.gens)
  (hch:∀b∈ch,(b∈X.ex∨X.s₀.heap.objs.size≤b)∧b≠X.env.locals∧(∀x c,X.env.cells.lookup x=some c→c≠b)∧∀p∈X.pn++pins,p.1≠b):Inv X pins σ H' s':=by
 A7⟨h',g',d',t',o'⟩:=s'
 have e:o'=s.os:=ho
 subst e
 ~I.call (g':=g') (t':=t') (d':=d') u hok hg hch
end
abbrev XK:=Value→Option Addr→Hp→Prop
abbrev St:=List (Option V)
abbrev VK:=V→Hp→Prop
abbrev TE:=St→Hp→VK→Prop
abbrev TT:=St→Hp→(Bool→Hp→Prop)→Prop
abbrev TA:=St→Hp→(List V→Hp→Prop)→Prop
structure Ends where
 nx:St→Hp→Prop
 rt:VK
 bk:St→Hp→Prop:=fun _ _=>False
 ct:St→Hp→Prop:=fun _ _=>False
abbrev TS:=Ends→St→Hp→Prop
def EP(X:Cx)(pins:List (Addr×Obj))(σ:St)(Q:VK)(u:Value)(s':Shared):Prop:=∃v H',Inv X pins σ H' s'∧RelV v u∧Q v H'
def TP(X:Cx)(pins:List (Addr×Obj))(σ:St)(Q:Bool→Hp→Prop)(b:Bool)(s':Shared):Prop:=∃H',Inv X pins σ H' s'∧Q b H'
def AP(X:Cx)(pins:List (Addr×Obj))(σ:St)(Q:List V→Hp→Prop)(us:List Value)(s':Shared):Prop:=∃vs H',Inv X pins σ H' s'∧Vals vs us∧Q vs H'
def SP(X:Cx)(pins:List (Addr×Obj))(D:Ends)(f:Flow)(s':Shared):Prop:=
 match f with
 | .next=>∃σ' H',Inv X pins σ' H' s'∧D.nx σ' H'
 | .brk=>∃σ' H',Inv X pins σ' H' s'∧D.bk σ' H'
 | .cont=>∃σ' H',Inv X pins σ' H' s'∧D.ct σ' H'
 | .ret u=>∃v σ' H',Inv X pins σ' H' s'∧RelV v u∧D.rt v H'
def PE(X:Cx)(e:Expr)(t:TE):Prop:=
 ∀(pins:List (Addr×Obj))(s:Shared)(σ:St)(H:Hp)(Q:VK),Inv X pins σ H s→t σ H Q→wpAny (model X.prog X.w) X.A (eval e X.env) (EP X pins σ Q) X.xe s
def PT(X:Cx)(e:Expr)(t:TT):Prop:=
 ∀(pins:List (Addr×Obj))(s:Shared)(σ:St)(H:Hp)(Q:Bool→Hp→Prop),Inv X pins σ H s→t σ H Q→wpAny (model X.prog X.w) X.A (isTrue e X.env (eval e X.env)) (TP X pins σ Q) X.xe s
def PW(X:Cx)(e:Expr)(t:TT):Prop:=
 ∀(whole:Sem Value)(pins:List (Addr×Obj))(s:Shared)(σ:St)(H:Hp)(Q:Bool→Hp→Prop),Inv X pins σ H s→t σ H Q→wpAny (model X.prog X.w) X.A (isTrue e X.env whole) (TP X pins σ Q) X.xe s
A9 PW.pt{X:Cx}{e:Expr}{t:TT}(h:PW X e t):PT X e t:=h _
def PA(X:Cx)(es:List Expr)(t:TA):Prop:=
 ∀(pos:Pos)(pins:List (Addr×Obj))(s:Shared)(σ:St)(H:Hp)(Q:List V→Hp→Prop),Inv X pins σ H s→t σ H Q→wpAny (model X.prog X.w) X.A (spliced (backTo pos (starEach es X.env))) (AP X pins σ Q) X.xe s
def PS(X:Cx)(st:Stmt)(t:TS):Prop:=
 ∀(pins:List (Addr×Obj))(s:Shared)(σ:St)(H:Hp)(D:Ends),Inv X pins σ H s→t D σ H→wpAny (model X.prog X.w) X.A (exec st X.env) (SP X pins D) X.xe s
def Es(X:Cx)(st:List Stmt)(t:TS):Prop:=
 ∀(pins:List (Addr×Obj))(s:Shared)(σ:St)(H:Hp)(D:Ends),Inv X pins σ H s→t D σ H→wpAny (model X.prog X.w) X.A (execs st X.env) (SP X pins D) X.xe s
A9 dW{α:Type}{t:Sem α}{Q Q':α→Shared→Prop}{M:Model}{A:Around}{E:Value→Shared→Prop}{s:Shared}(h:wpAny M A t Q E s)(hQ:∀a s,Q a s→Q' a s):wpAny M A t Q' E s:=wpAny_mono h hQ fun _ _ x=>x
end L2
namespace L2
open PySem PySem.Spec PyProof.Rows
section
variable{X:Cx}
def jA(i:Nat):TE:=fun σ H Q=>∃v,σ[i]?=some (some v)∧Q v H
def tC(v:V):TE:=fun _ H Q=>Q v H
A9 Uw{i:Nat}{x:Str}{pos:Pos}(hN:X.N[i]?=some x)(hv:EY X.env.scope x)(hd:(x==("__debug__" : Str))=false:=by decide) (hcd:(x==("__classdict__" : Str))=false:=by decide):PE X (.Name x pos) (jA i):=by
  intro pins s σ H Q I h
  A7⟨v,e,h⟩:=h
  A7⟨m,hn,hl⟩:=I.loc
  A7⟨u,r,l⟩:=hl i x v hN e hv
  have fin:EP X pins σ Q u s:=⟨v,H,I,r,h⟩
  rcases l with ⟨hk,hm⟩ | ⟨hk,c,hc,hcell⟩
  · ~wpAny_Name (wpAny_loadName_local I.ok.kind hk hn hm fin) hd
  · rcases hk with hk | hk
    · ~wpAny_Name (wpAny_loadName_cell I.ok.kind hk hc hcell fin) hd
    · ~wpAny_Name (wpAny_loadName_free I.ok.kind hk hc hcell fin hcd) hd
A9 Ux{i j pos}:PE X (.Constant (.int i) j pos) (tC (.int i)):=fun _ _ _ H _ I h=>wpAny_Constant_int ⟨.int i,H,I.tok _,⟨_,rfl⟩,h⟩
A9 Ys{b j pos}:PE X (.Constant (.bool b) j pos) (tC (.bl b)):=fun _ _ _ H _ I h=>Constant_bool ⟨.bl b,H,I,rfl,h⟩
A9 Uy{x j pos}:PE X (.Constant (.str x) j pos) (tC (.str x)):=fun _ _ _ H _ I h=>Calls.Constant_str ⟨.str x,H,I.tok _,⟨_,rfl⟩,h⟩
def Gl(X:Cx)(x:Str):Prop:=X.env.kindOf x=some .globalImplicit
A9 Et{E:Value→Shared→Prop}{pins:List (Addr×Obj)}{s:Shared}{σ:St}{H:Hp}{x:Str}{u:Value}{pos:Pos}{Q:Value→Shared→Prop}(I:Inv X pins σ H s)(hg:Gl X x)(hm:X.mg x=some u)(h:Q u s)
  (hd:(x==("__debug__" : Str))=false:=by decide):wpAny (model X.prog X.w) X.A (eval (.Name x pos) X.env) Q E s:=
 Calls.Name_function_global I.ok.kind hg (Calls.loadGlobal_global (by rw[I.ok.glob];~I.mod.glob.keeps I.bk) hm h) hd
A9 wR{E:Value→Shared→Prop}{pins:List (Addr×Obj)}{s:Shared}{σ:St}{H:Hp}{x:Str}{u:Value}{pos:Pos}{Q:Value→Shared→Prop}(I:Inv X pins σ H s)(hg:Gl X x)(hm:X.mg x=none)(hv:bootBuiltins x=some u)(h:Q u s)
  (hn:x ≠ "__name__" := by decide) (hd:(x==("__debug__" : Str))=false:=by decide):wpAny (model X.prog X.w) X.A (eval (.Name x pos) X.env) Q E s:=by
 A7⟨mb,h1,h2⟩:=I.mod.blt
 ~Calls.Name_function_global I.ok.kind hg (Calls.loadGlobal_builtin (by rw[I.ok.glob];~I.mod.glob.keeps I.bk) hm (by rw[I.ok.blt];~h1.keeps I.bk) ((h2 x hn).trans hv) h) hd
A9 wU{x:Str}{v:V}{u:Value}{pos:Pos}(hg:Gl X x)(hm:X.mg x=some u)(r:RelV v u)(hd:(x==("__debug__" : Str))=false:=by decide):PE X (.Name x pos) (tC v):=
 fun _ _ _ H _ I h=>Et I hg hm ⟨v,H,I,r,h⟩ hd
A9 fH{x:Str}{v:V}{u:Value}{pos:Pos}(hg:Gl X x)(hm:X.mg x=none)(hv:bootBuiltins x=some u)(r:RelV v u)(hn:x ≠ "__name__" := by decide) (hd:(x==("__debug__" : Str))=false:=by decide):PE X (.Name x pos) (tC v):=
 fun _ _ _ H _ I h=>wR I hg hm hv ⟨v,H,I,r,h⟩ hn hd
variable{a b:Expr}{ta tb:TE}{pos:Pos}
def tB(t:TE):TT:=fun σ H Q=>t σ H fun x H1=>∃c,x=.bl c∧Q c H1
A9 Uz{e:Expr}{t:TE}(h:PE X e t)(he:∀whole,isTrue e X.env whole=(do let v ←whole;standAt e.pos;holding [v] (truthy v)):=by intro _;rfl):PT X e (tB t):=by
 intro pins s σ H Q I hw
 &isTrue_plain (dW (h pins s σ H _ I hw) fun v s1 ⟨x,H1,I1,r1,q1⟩=>?_) (he _)
 A7⟨d,rfl,q⟩:=q1
 cases r1
 ~wpAny_truthy_bool ⟨H1,I1,q⟩
variable{tA MJ:TT}{rest:List Expr}
def HJ(t u:TT):TT:=fun σ H Q=>t σ H fun c H1=>if c=true then Q true H1 else u σ H1 Q
def Va(t:TT):TT:=fun σ H Q=>t σ H fun c H1=>Q (!c) H1
A9 Vb(ha:PT X a tA):PW X (.BoolOp .Or [a] pos) tA:=by
 intro wh pins s σ H Q I h
 &isTrue_or (dW (ha pins s σ H Q I h) fun c s1 e=>?_)
 cases c with
 | false=>~isTrue_or_nil e
 | true=>~e
A9 Yt(ha:PT X a tA)(hb:PW X (.BoolOp .Or (b::rest) pos) MJ):PW X (.BoolOp .Or (a::b::rest) pos) (HJ tA MJ):=by
 intro wh pins s σ H Q I h
 &isTrue_or (dW (ha pins s σ H _ I h) fun c s1 ⟨H1,I1,q1⟩=>?_)
 cases c with
 | true=>~⟨H1,I1,q1⟩
 | false=>~hb wh pins s1 σ H1 Q I1 q1
A9 Vc(ha:PT X a tA):PT X (.UnaryOp .Not a pos) (Va tA):=by
 intro pins s σ H Q I h
 ~isTrue_not (ha pins s σ H (fun c H1=>Q (!c) H1) I h)
def Ti(ta tb:TE):TE:=fun σ H Q=>ta σ H fun x H1=>∃c,x=.bl c∧if c=true then tb σ H1 Q else Q (.bl false) H1
def Yu(ta tb:TE):TE:=fun σ H Q=>ta σ H fun x H1=>∃c,x=.bl c∧if c=true then Q (.bl true) H1 else tb σ H1 Q
def Tj(ta:TE):TE:=fun σ H Q=>ta σ H fun x H1=>∃c,x=.bl c∧Q (.bl (!c)) H1
A9 Vd{op}{t:TE}(h:PE X a t):PE X (.BoolOp op [a] pos) t:=fun pins s σ H Q I hw=>BoolOp_one (h pins s σ H Q I hw)
A9 Ve(ha:PE X a ta)(hb:PE X (.BoolOp .And (b::rest) pos) tb):PE X (.BoolOp .And (a::b::rest) pos) (Ti ta tb):=by
 intro pins s σ H Q I h
 &BoolOp_and (dW (ha pins s σ H _ I h) fun v s1 ⟨x,H1,I1,r1,q1⟩=>?_)
 A7⟨c,rfl,q1⟩:=q1
 cases r1
 &wpAny_truthy_bool ?_
 cases c with
 | true=>~hb pins s1 σ H1 Q I1 q1
 | false=>~⟨.bl false,H1,I1,rfl,q1⟩
A9 Yv(ha:PE X a ta)(hb:PE X (.BoolOp .Or (b::rest) pos) tb):PE X (.BoolOp .Or (a::b::rest) pos) (Yu ta tb):=by
 intro pins s σ H Q I h
 &BoolOp_or (dW (ha pins s σ H _ I h) fun v s1 ⟨x,H1,I1,r1,q1⟩=>?_)
 A7⟨c,rfl,q1⟩:=q1
 cases r1
 &wpAny_truthy_bool ?_
 cases c with
 | false=>~hb pins s1 σ H1 Q I1 q1
 | true=>~⟨.bl true,H1,I1,rfl,q1⟩
A9 Vf(ha:PE X a ta):PE X (.UnaryOp .Not a pos) (Tj ta):=by
 intro pins s σ H Q I h
 &UnaryOp_ (dW (ha pins s σ H _ I h) fun v s1 ⟨x,H1,I1,r1,q1⟩=>?_)
 A7⟨c,rfl,q1⟩:=q1
 cases r1
 ~not_of (wpAny_truthy_bool ⟨.bl (!c),H1,I1,rfl,q1⟩)
def MK(t:TT)(ta tb:TE):TE:=fun σ H Q=>t σ H fun c H1=>if c=true then ta σ H1 Q else tb σ H1 Q
A9 Jh{c:Expr}(hc:PT X c tA)(ha:PE X a ta)(hb:PE X b tb):PE X (.IfExp c a b pos) (MK tA ta tb):=by
 intro pins s σ H Q I h
 &wpAny_IfExp (dW (hc pins s σ H _ I h) fun d s1 ⟨H1,I1,q1⟩=>?_)
 cases d with
 | true=>~ha pins s1 σ H1 Q I1 q1
 | false=>~hb pins s1 σ H1 Q I1 q1
end
end L2
namespace L2
open PySem PySem.Spec PyProof.Rows
def iH(K:aA)(H:Hp)(a:Addr)(xs:List V):Prop:=
 Rd H a (.lst xs) ∨
  ∃(o:Obj)(its:Array Value)(n:Nat),K.lookup a=some o∧o.cls=.type "list" ∧ o.dict=none∧o.data=.seq its n∧its.size≤sizeLine∧Vals xs its.toList
def lB(K:aA)(H:Hp)(a:Addr)(xs:List V):Prop:=
 Rd H a (.tup xs) ∨
  ∃(o:Obj)(its:Array Value)(n:Nat),K.lookup a=some o∧o.cls=.type "tuple" ∧ o.data=.seq its n∧its.size≤sizeLine∧Vals xs its.toList
def HN:Value→Option V
 | .none=>some .non
 | .bool b=>some (.bl b)
 | .int i _=>some (.int i)
 | .str x _=>some (.str x)
 | .bytes b _=>some (.byt b)
 | .float b _=>some (.flt b)
 | .ref a=>some (.ref a)
 | .type n=>some (.ty n)
 | _=>none
A9 RelV.abs{x:V}{u:Value}(r:RelV x u):HN u=some x:=by
 cases x with
 | non=>cases r;rfl
 | bl _=>cases r;rfl
 | int _=>A7⟨t,rfl⟩:=r;rfl
 | str _=>A7⟨t,rfl⟩:=r;rfl
 | byt _=>A7⟨t,rfl⟩:=r;rfl
 | flt _=>A7⟨t,rfl⟩:=r;rfl
 | ref _=>cases r;rfl
 | ty _=>cases r;rfl
A9 RelV.inj{x y:V}{u:Value}(r:RelV x u)(q:RelV y u):x=y:=E1 (r.abs.symm.trans q.abs)
A9 Vals.inj:∀{xs ys:List V} {us:List Value},Vals xs us→Vals ys us→xs=ys
 | _,_,_,.nil,.nil=>rfl
 | _,_,_,.cons r t,.cons r' t'=>by rw[r.inj r',Vals.inj t t']
section
variable{X:Cx}{pins:List (Addr×Obj)}{σ:St}{H:Hp}{s:Shared}{a:Addr}{xs ys:List V}
A9 iH.of{K:aA}(h:H a=some (.lst xs)):iH K H a xs:=.inl (.inl h)
A9 lB.of{K:aA}(h:H a=some (.tup xs)):lB K H a xs:=.inl (.inl h)
A9 Inv.list(I:Inv X pins σ H s)(h:iH X.K H a xs):∃its:List Value,Vals xs its∧PlainL s.heap a its.toArray∧xs.length≤sizeLine:=by
 rcases h with h | ⟨o,its,n,hk,hc,hd,hs,hz,r⟩
 ·A7⟨z,its,n,r,e⟩:=h.ok I.hok
  ~⟨its,r,⟨_,n,e,rfl,rfl,rfl⟩,z⟩
 ·&⟨its.toList,r,⟨o,n,I.wO a o hk,hc,hd,by simpa using hs⟩,?_⟩
  have e:=r.length
  simp only[G8]at e
  omega
A9 Inv.tuple(I:Inv X pins σ H s)(h:lB X.K H a xs):∃its:List Value,Vals xs its∧IsTup s.heap a its.toArray∧xs.length≤sizeLine:=by
 rcases h with h | ⟨o,its,n,hk,hc,hs,hz,r⟩
 ·A7⟨z,its,r,p⟩:=h.ok I.hok
  ~⟨its,r,p,z⟩
 ·&⟨its.toList,r,⟨o,I.wO a o hk,hc,n,by simpa using hs⟩,?_⟩
  have e:=r.length
  simp only[G8]at e
  omega
A9 Inv.zT(I:Inv X pins σ H s)(h:iH X.K H a xs)(h':iH X.K H a ys):xs=ys:=by
 A7⟨its,r,⟨o,n,e,_,_,d⟩,_⟩:=I.list h
 A7⟨its',r',⟨o',n',e',_,_,d'⟩,_⟩:=I.list h'
 rw[e]at e';cases e'
 rw[d]at d'
 injection d' with d1 _
 have:its=its':=by simpa using congrArg R9 d1
 subst this
 ~r.inj r'
A9 Inv.uY(I:Inv X pins σ H s)(h:lB X.K H a xs)(h':lB X.K H a ys):xs=ys:=by
 A7⟨its,r,⟨o,e,_,n,d⟩,_⟩:=I.tuple h
 A7⟨its',r',⟨o',e',_,n',d'⟩,_⟩:=I.tuple h'
 rw[e]at e';cases e'
 rw[d]at d'
 injection d' with d1 _
 have:its=its':=by simpa using congrArg R9 d1
 subst this
 ~r.inj r'
end
abbrev Cx.wish(X:Cx)(E:Value→Shared→Prop):Cx:={X with xe:=E}
abbrev Cx.Vg(X:Cx):Cx:=X.wish fun _ _=>False
A9 Cx.Ok.wish{X:Cx}(ok:X.Ok)(E:Value→Shared→Prop):(X.wish E).Ok:=
 ⟨ok.mod,ok.kind,ok.glob,ok.blt,ok.above,ok.inj,ok.has,ok.cab,ok.hd,ok.frames,ok.FJ,ok.LK,ok.bs,ok.Tg,ok.Jg,ok.Om,ok.rC,ok.Yi⟩
A9 Cx.Ok.lC{X:Cx}{E:Value→Shared→Prop}(ok:(X.wish E).Ok):X.Ok:=
 ⟨ok.mod,ok.kind,ok.glob,ok.blt,ok.above,ok.inj,ok.has,ok.cab,ok.hd,ok.frames,ok.FJ,ok.LK,ok.bs,ok.Tg,ok.Jg,ok.Om,ok.rC,ok.Yi⟩
section
variable{X:Cx}{pins:List (Addr×Obj)}{σ:St}{H:Hp}{s:Shared}{E:Value→Shared→Prop}
A9 Inv.wish(I:Inv X pins σ H s)(E:Value→Shared→Prop):Inv (X.wish E) pins σ H s:=⟨I.ok.wish E,I.os,I.bare,I.base,I.loc,I.cell,I.free,I.lA,I.pin,I.hok,I.len⟩
A9 Inv.lC(I:Inv (X.wish E) pins σ H s):Inv X pins σ H s:=⟨I.ok.lC,I.os,I.bare,I.base,I.loc,I.cell,I.free,I.lA,I.pin,I.hok,I.len⟩
A9 SP.lC{D:Ends}{f:Flow}{s':Shared}(h:SP (X.wish E) pins D f s'):SP X pins D f s':=by
 cases f with
 | next=>A7⟨σ',H',I,q⟩:=h;~⟨σ',H',I.lC,q⟩
 | brk=>A7⟨σ',H',I,q⟩:=h;~⟨σ',H',I.lC,q⟩
 | cont=>A7⟨σ',H',I,q⟩:=h;~⟨σ',H',I.lC,q⟩
 | ret u=>A7⟨v,σ',H',I,r,q⟩:=h;~⟨v,σ',H',I.lC,r,q⟩
A9 Es.Vg{st:List Stmt}{t:TS}(h:Es X.Vg st t):Es X st t:=fun pins s σ H D I hw=>
 wpAny_mono (h pins s σ H D (I.wish _) hw) (fun _ _ q=>q.lC) fun _ _ z=>False.elim z
end
section
variable{X:Cx}{st:Stmt}{rest:List Stmt}{t u:TS}{e:Expr}{te:TE}{pos:Pos}
def Tn:TS:=fun D σ H=>D.nx σ H
def Vh(t u:TS):TS:=fun D σ H=>t {D with nx:=u D} σ H
A9 Oo:Es X [] Tn:=fun _ _ σ H _ I h=>wpAny_execs_nil ⟨σ,H,I,h⟩
A9 Ji(h1:PS X st t)(h2:Es X rest u):Es X (st::rest) (Vh t u):=by
 intro pins s σ H D I h
 &wpAny_execs_cons (dW (h1 pins s σ H {D with nx:=u D} I h) fun f s1 q=>?_)
 cases f with
 | next=>
  A7⟨σ',H',I',q⟩:=q
  ~h2 pins s1 σ' H' D I' q
 | ret v=>~q
 | brk=>~q
 | cont=>~q
A9 Oq(h1:PS X st t):Es X [st] t:=by
 intro pins s σ H D I h
 &wpAny_execs_cons (dW (h1 pins s σ H D I h) fun f s1 q=>?_)
 cases f with
 | next=>~wpAny_execs_nil q
 | ret v=>~q
 | brk=>~q
 | cont=>~q
A9 Inv.quiet{pins:List (Addr×Obj)}{σ:St}{H:Hp}{s:Shared}(I:Inv X pins σ H s):interactive X.env=false:=by simp[interactive,I.ok.kind]
def mQ(te:TE):TS:=fun D σ H=>te σ H fun _ H1=>D.nx σ H1
A9 lZ(he:PE X e te)(hs:swapsWith e none pos.line X.env=pure false:=by rfl):PS X (.Expr e pos) (mQ te):=by
 intro pins s σ H D I h
 ~wpAny_Expr_any (dW (he pins s σ H _ I h) fun v s1 ⟨x,H1,I1,r1,q1⟩=>⟨σ,H1,I1,q1⟩) I.quiet hs
def Vi(te:TE):TS:=fun D σ H=>te σ H D.rt
A9 Jj(he:PE X e te):PS X (.Return (some e) pos) (Vi te):=by
 intro pins s σ H D I h
 ~wpAny_Return_some (dW (he pins s σ H _ I h) fun v s1 ⟨x,H1,I1,r1,q1⟩=>⟨x,σ,H1,I1,r1,q1⟩)
def Yw(c:TT)(t u:TS):TS:=fun D σ H=>c σ H fun b H1=>if b=true then t D σ H1 else u D σ H1
A9 Yx{c:Expr}{a b:List Stmt}{tc:TT}(hc:PT X c tc)(ha:Es X a t)(hb:Es X b u):PS X (.If c a b pos) (Yw tc t u):=by
 intro pins s σ H D I h
 &wpAny_If (dW (hc pins s σ H _ I h) fun d s1 ⟨H1,I1,q1⟩=>?_)
 cases d with
 | true=>~ha pins s1 σ H1 D I1 q1
 | false=>~hb pins s1 σ H1 D I1 q1
def Jk:TS:=fun _ _ _=>False
A9 Jl:PS X st Jk:=fun _ _ _ _ _ _ h=>h.elim
end
abbrev TG:=V→St→Hp→(St→Hp→Prop)→Prop
def PG(X:Cx)(target:Expr)(t:TG):Prop:=
 ∀(pins:List (Addr×Obj))(s:Shared)(σ:St)(H:Hp)(v:V)(u:Value)(Q:St→Hp→Prop),Inv X pins σ H s→RelV v u→t v σ H Q →
  wpAny (model X.prog X.w) X.A (assign target X.env u) (fun _ s'=>∃σ' H',Inv X pins σ' H' s'∧Q σ' H') X.xe s
section
variable{X:Cx}{pos:Pos}
def dR(i:Nat):TG:=fun v σ H Q=>Q (σ.set i (some v)) H
A9 gQ{i:Nat}{x:Str}(hN:X.N.Nodup)(hi:X.N[i]?=some x)(hx:Loc X.env.scope x)(hf:X.fn x=true∨X.env.scope.names.lookup x=some .local:=by first | ~.inl rfl | ~.inr rfl | assumption):PG X (.Name x pos) (dR i):=by
 intro pins s σ H v u Q I r h
 ~wpAny_assign_Name (zR I hN hi hx r (fun s' I'=>⟨_,H,I',h⟩) hf)
def Gy(te:TE)(g:TG):TS:=fun D σ H=>te σ H fun x H1=>g x σ H1 D.nx
A9 bO{i:Nat}{x:Str}{e:Expr}{te:TE}{pos':Pos}(hN:X.N.Nodup)(hi:X.N[i]?=some x)(hx:Loc X.env.scope x)(he:PE X e te)(hs:swapsWith e (some (.Name x pos')) pos.line X.env=pure false:=by rfl)(hf:X.fn x=true∨X.env.scope.names.lookup x=some .local:=by first | ~.inl rfl | ~.inr rfl | assumption) :
  PS X (.Assign [.Name x pos'] e pos) (Gy te (dR i)):=by
 intro pins s σ H D I h
 &wpAny_Assign_Name (dW (he pins s σ H _ I h) fun v s1 ⟨y,H1,I1,r1,q1⟩=>?_) hs
 ~zR I1 hN hi hx r1 (fun s2 I2=>⟨_,H1,I2,q1⟩) hf
end
section
variable{X:Cx}{pos:Pos}
end
structure It where
 go:Nat→Hp→Prop
 Yy:Nat→Hp→V→Hp→Prop
 stop:Nat→Hp→Prop
def uG(X:Cx)(pins:List (Addr×Obj))(H:Hp)(b:Addr):Prop:=
 H b=none∧b≠X.env.locals∧b∉X.fs∧(b∈X.ex∨X.s₀.heap.objs.size≤b)∧(∀x c,X.env.cells.lookup x=some c→c≠b)∧∀p∈X.pn++pins,p.1≠b
A9 Inv.Ot{X:Cx}{pins:List (Addr×Obj)}{σ:St}{H H':Hp}{s:Shared}{b:Addr}(I:Inv X pins σ H s)(hb:s.heap.objs.size≤b)(hn:H' b=none):uG X pins H' b:=by
 &⟨hn,J7 (B5 I.lt hb),I.HF hb,.inr (D9 I.sz hb),fun x c e z=>?_,fun p hp z=>?_⟩
 ·A7⟨v,q⟩:=I.cell x c e
  ~absurd (B5 q.lt (by rw[z];~hb)) (F0 _)
 ·~absurd (B5 (Heap.lt_size (I.pin p hp).1) (by rw[z];~hb)) (F0 _)
structure Turn(P:Program)(w:World)(K:aA)(tg:Expr)(J:It)(fp:List Addr)(it:Addr)(tn:Nat→Heap→Prop):Prop where
 mem:it∈fp
 obj:∀i h,tn i h→∀b∈fp,∃o,h.get? b=some o∧∀v,o.data≠.cell v
 keep:∀i h h',tn i h→(∀b∈fp,∀o,h.get? b=some o→h'.get? b=some o)→tn i h'
 item:∀(X:Cx),X.prog=P→X.w=w→X.K=K→X.calm=true→∀(i:Nat)(pins:List (Addr×Obj))(s:Shared)(σ:St)(H:Hp)(E:Value→Shared→Prop),Inv X pins σ H s→(∀b∈fp,uG X pins H b)→tn i s.heap→J.go i H →
  wpAny (model P w) X.A (pyNext (.ref it)) (fun r s1=>∃u,r=some u ∧
   wpAny (model P w) X.A (letOwnedTupleGo tg (.ref it) u) (fun _ s2=>∃x H',Inv X pins σ H' s2∧RelV x u∧J.Yy i H x H'∧tn (i+1) s2.heap∧∀b∈fp,H' b=none) E s1) E s
 done:∀(X:Cx),X.prog=P→X.w=w→X.K=K→X.calm=true→∀(i:Nat)(pins:List (Addr×Obj))(s:Shared)(σ:St)(H:Hp)(E:Value→Shared→Prop),Inv X pins σ H s→(∀b∈fp,uG X pins H b)→tn i s.heap→J.stop i H →
  wpAny (model P w) X.A (pyNext (.ref it)) (fun r s1=>r=none∧Inv X pins σ H s1) E s
 self:∀(A:Around)(i:Nat)(s:Shared)(Q:Value→Shared→Prop)(E:Value→Shared→Prop),tn i s.heap→Q (.ref it) s→wpAny (model P w) A (pyIter (.ref it)) Q E s
abbrev TI:=St→Hp→(It→Hp→Prop)→Prop
def PIE(X:Cx)(pins:List (Addr×Obj))(σ:St)(tg:Expr)(R:It→Hp→Prop)(itv:Value)(s2:Shared):Prop:=
 ∃(it:Addr)(fp:List Addr)(tn:Nat→Heap→Prop)(J:It)(H':Hp),itv=.ref it∧Inv X pins σ H' s2∧Turn X.prog X.w X.K tg J fp it tn∧tn 0 s2.heap∧(∀b∈fp,uG X pins H' b)∧R J H'
def PI(X:Cx)(tg iter:Expr)(wi:TI):Prop:=
 ∀(pins:List (Addr×Obj))(s:Shared)(σ:St)(H:Hp)(R:It→Hp→Prop),Inv X pins σ H s→wi σ H R →
  wpAny (model X.prog X.w) X.A (eval iter X.env) (fun v s1=>wpAny (model X.prog X.w) X.A (pyIter v) (PIE X pins σ tg R) X.xe s1) X.xe s
A9 Eu{M:Model}{A:Around}{E:Value→Shared→Prop}{s:Shared}{tg:Expr}{it:Addr}{u:Value}{o:Obj}{n:String}{vs:Array Value}{Q:Unit→Shared→Prop}(ho:s.heap.get? it=some o)(hc:o.cls=.type n)(hd:o.data=.fields vs)
    (hn:["enumerate", "zip", "dict_itemiterator", "dict_reverseitemiterator", "odict_iterator", "itertools.zip_longest", "itertools.pairwise"].contains n=false) (hQ:Q () s):wpAny M A (letOwnedTupleGo tg (.ref it) u) Q E s:=by
  A8 letOwnedTupleGo
  cases tg<;>first
    | ~wpAny_pure hQ
    | (cases u<;>first
        | ~wpAny_pure hQ
        | (&wpAny_bind (wpAny_load ho ?_)
           rw[hc,hd]
           show wpAny M A (if(["enumerate", "zip", "dict_itemiterator", "dict_reverseitemiterator", "odict_iterator", "itertools.zip_longest", "itertools.pairwise"].contains n&&vs[0]?==some (rawInt _))=true then _ else _) Q E s
           rw[if_neg (by intro h;rw[hn,Bool.false_and]at h;cases h)]
           ~wpAny_pure hQ))
def HQ(K:aA)(a:Addr):It:=
 ⟨fun i H=>∃xs x,iH K H a xs∧xs[i]?=some x,fun i H x H'=>H'=H∧∀xs,iH K H a xs→xs[i]?=some x,fun i H=>∃xs,iH K H a xs∧xs.length≤i⟩
def HR(K:aA)(a:Addr):It:=
 ⟨fun i H=>∃xs x,lB K H a xs∧xs[i]?=some x,fun i H x H'=>H'=H∧∀xs,lB K H a xs→xs[i]?=some x,fun i H=>∃xs,lB K H a xs∧xs.length≤i⟩
def FN(lo:Int)(n:Nat):It:=⟨fun i _=>i<n,fun i H x H'=>H'=H∧x=.int (lo+i),fun i _=>n≤i⟩
A9 Gz{P:Program}{w:World}{K:aA}{tg:Expr}(a it:Addr):Turn P w K tg (HQ K a) [it] it (fun i h=>h.IsListIter it a i) where
 mem:=by simp
 obj:=fun i h st b hb=>by
  have e:b=it:=by simpa using hb
  subst e
  A7⟨o,e,c,d⟩:=st
  ~⟨o,e,fun v z=>by rw[d]at z;cases z⟩
 keep:=fun i h h' st k=>st.at fun o e=>k it (by simp) o e
 item:=by
  intro X hP hw hK hc i pins s σ H E I hf st hg
  subst hP hw hK
  A7⟨xs,x,hq,hx⟩:=hg
  A7⟨its,rv,p,hz⟩:=I.list hq
  A7⟨u,hu,ru⟩:=rv.get hx
  A7⟨f0,f1,f2,f3,f4,f5⟩:=hf it (by simp)
  &wpAny_pyNext_list_item st p.isList (x:=u) (by simpa using hu) fun h' st' sb=>?_
  have I1:Inv X pins σ H {s with heap:=h'}:=I.turned (t':=s.toks) (fun b o hb e=>(sb.2 b hb).trans e) f0 f1 f3 f4 f5
  A7⟨o,e,c,d⟩:=id st'
  ~⟨u,rfl,Eu (s:={s with heap:=h'}) e c d A5 ⟨x,H,I1,ru,⟨rfl,fun ys hy=>by rw[I.zT hy hq];~hx⟩,st',fun b hb=>(hf b hb).1⟩⟩
 done:=by
  intro X hP hw hK hc i pins s σ H E I hf st hg
  subst hP hw hK
  A7⟨xs,hq,hx⟩:=hg
  A7⟨its,rv,p,hz⟩:=I.list hq
  A7⟨f0,f1,f2,f3,f4,f5⟩:=hf it (by simp)
  have hl:=rv.length
  ~wpAny_pyNext_list_end (I.ok.hd hc) st p.isList (by simp;omega) fun h' eb=>⟨rfl,I.turned (t':=s.toks) (fun b o hb e=>eb b o hb e) f0 f1 f3 f4 f5⟩
 self:=fun _ _ _ _ _ st h=>wpAny_pyIter_listiter st h
A9 Cj{P:Program}{w:World}{K:aA}{tg:Expr}(a it:Addr):Turn P w K tg (HR K a) [it] it (fun i h=>h.IsTupleIter it a i) where
 mem:=by simp
 obj:=fun i h st b hb=>by
  have e:b=it:=by simpa using hb
  subst e
  A7⟨o,e,c,d⟩:=st
  ~⟨o,e,fun v z=>by rw[d]at z;cases z⟩
 keep:=fun i h h' st k=>st.at fun o e=>k it (by simp) o e
 item:=by
  intro X hP hw hK hc i pins s σ H E I hf st hg
  subst hP hw hK
  A7⟨xs,x,hq,hx⟩:=hg
  A7⟨its,rv,p,hz⟩:=I.tuple hq
  A7⟨u,hu,ru⟩:=rv.get hx
  A7⟨f0,f1,f2,f3,f4,f5⟩:=hf it (by simp)
  &wpAny_pyNext_tuple_item st (show s.heap.IsTuple a its.toArray from p) (x:=u) (by simpa using hu) fun h' st' sb=>?_
  have I1:Inv X pins σ H {s with heap:=h'}:=I.turned (t':=s.toks) (fun b o hb e=>(sb.2 b hb).trans e) f0 f1 f3 f4 f5
  A7⟨o,e,c,d⟩:=id st'
  ~⟨u,rfl,Eu (s:={s with heap:=h'}) e c d A5 ⟨x,H,I1,ru,⟨rfl,fun ys hy=>by rw[I.uY hy hq];~hx⟩,st',fun b hb=>(hf b hb).1⟩⟩
 done:=by
  intro X hP hw hK hc i pins s σ H E I hf st hg
  subst hP hw hK
  A7⟨xs,hq,hx⟩:=hg
  A7⟨its,rv,p,hz⟩:=I.tuple hq
  A7⟨f0,f1,f2,f3,f4,f5⟩:=hf it (by simp)
  have hl:=rv.length
  ~wpAny_pyNext_tuple_end (I.ok.hd hc) st (show s.heap.IsTuple a its.toArray from p) (by simp;omega) fun h' eb=>⟨rfl,I.turned (t':=s.toks) (fun b o hb e=>eb b o hb e) f0 f1 f3 f4 f5⟩
 self:=fun _ _ _ _ _ st h=>wpAny_pyIter_tupleiter st h
A9 Ck{P:Program}{w:World}{K:aA}{tg:Expr}(it:Addr)(lo:Int)(n:Nat):Turn P w K tg (FN lo n) [it] it (fun i h=>IsRangeIter h it (lo+(i:Nat)*1) ((n:Int)-(i:Nat)) 1) where
 mem:=by simp
 obj:=fun i h st b hb=>by
  have e:b=it:=by simpa using hb
  subst e
  ~⟨_,st,fun v z=>by
   have z':Data.fields _=Data.cell v:=z
   cases z'⟩
 keep:=fun i h h' st k=>k it (by simp) _ st
 item:=by
  intro X hP hw hK hc i pins s σ H E I hf st hg
  subst hP hw hK
  A7⟨f0,f1,f2,f3,f4,f5⟩:=hf it (by simp)
  have W:=Walks.range (prog:=X.prog) (w:=X.w) (I.ok.hd hc) it lo 1 n
  &W.item i s _ _ hg st fun v h' tk hv st' kk=>?_
  A7⟨t,rfl⟩:=hv
  have I1:Inv X pins σ H {s with heap:=h',toks:=tk}:=I.turned (fun b o hb e=>kk b o (by simpa using hb) e) f0 f1 f3 f4 f5
  &⟨_,rfl,Eu (s:={s with heap:=h',toks:=tk}) (n := "range_iterator") st' rfl rfl A5 ⟨.int (lo+i),H,I1,⟨t,?_⟩,⟨rfl,rfl⟩,st',fun b hb=>(hf b hb).1⟩⟩
  rw[Int.mul_one]
 done:=by
  intro X hP hw hK hc i pins s σ H E I hf st hg
  subst hP hw hK
  A7⟨f0,f1,f2,f3,f4,f5⟩:=hf it (by simp)
  ~wpAny_pyNext_range_end (I.ok.hd hc) st (by have:n≤i:=hg;omega) fun h' eb=>⟨rfl,I.turned (t':=s.toks) (fun b o hb e=>eb b o hb e) f0 f1 f3 f4 f5⟩
 self:=fun _ _ _ _ _ st h=>wpAny_pyIter_rangeiter st h
end L2
namespace L2
open PySem PySem.Spec PyProof.Rows
section
variable{X:Cx}{tg:Expr}
def Tp(K:aA)(tl:TE):TI:=fun σ H R=>tl σ H fun x H1=>∃a,x=.ref a∧(∃xs,iH K H1 a xs)∧R (HQ K a) H1
def Yz(K:aA)(tl:TE):TI:=fun σ H R=>tl σ H fun x H1=>∃a,x=.ref a∧(∃xs,lB K H1 a xs)∧R (HR K a) H1
A9 Ou{l:Expr}{tl:TE}(hl:PE X l tl):PI X tg l (Tp X.K tl):=by
 intro pins s σ H R I h
 &dW (hl pins s σ H _ I h) fun v s1 ⟨x,H1,I1,r1,q1⟩=>?_
 A7⟨a,e,⟨xs,hq⟩,q⟩:=q1
 subst e
 cases r1
 A7⟨its,rv,p,hz⟩:=I1.list hq
 &wpAny_pyIter_list p.isList ?_
 &⟨s1.heap.objs.size,[s1.heap.objs.size],_,_,H1,rfl,I1.kept (t':=s1.toks) fun b o e=>Heap.get?_push_of_some _ e,Gz a _,⟨_,Heap.get?_push_size _ rfl,rfl,rfl⟩,fun b hb=>?_,q⟩
 have e:b=s1.heap.objs.size:=by simpa using hb
 subst e
 ~I1.Ot (B7 _) (I1.hok.fresh (B7 _))
A9 Vj{l:Expr}{tl:TE}(hl:PE X l tl):PI X tg l (Yz X.K tl):=by
 intro pins s σ H R I h
 &dW (hl pins s σ H _ I h) fun v s1 ⟨x,H1,I1,r1,q1⟩=>?_
 A7⟨a,e,⟨xs,hq⟩,q⟩:=q1
 subst e
 cases r1
 A7⟨its,rv,p,hz⟩:=I1.tuple hq
 &wpAny_pyIter_tuple (show s1.heap.IsTuple a its.toArray from p) ?_
 &⟨s1.heap.objs.size,[s1.heap.objs.size],_,_,H1,rfl,I1.kept (t':=s1.toks) fun b o e=>Heap.get?_push_of_some _ e,Cj a _,⟨_,Heap.get?_push_size _ rfl,rfl,rfl⟩,fun b hb=>?_,q⟩
 have e:b=s1.heap.objs.size:=by simpa using hb
 subst e
 ~I1.Ot (B7 _) (I1.hok.fresh (B7 _))
A9 Jm{pins:List (Addr×Obj)}{σ:St}{H:Hp}{s:Shared}{R:It→Hp→Prop}{E:Value→Shared→Prop}{lo hi:Int}{t u v:Tok}{tk:Nat}(I:Inv X pins σ H s)(h1:-(2 ^ 62)≤lo)(h2:lo<2 ^ 62)(h3:-(2 ^ 62)≤hi)(h4:hi<2 ^ 62)
  (q:R (FN lo (hi-lo).toNat) H):wpAny (model X.prog X.w) X.A (pyIter (.ref s.heap.objs.size)) (PIE X pins σ tg R) E {s with heap:=s.heap.push {cls:=.type "range", data:=.fields #[.int lo t,.int hi u,.int 1 v]},toks:=tk}:=by
 &wpAny_pyIter_range (IsRange.new ..) (small_one h1 h2 h3 h4) ?_
 have I1:Inv X pins σ H {s with heap:=s.heap.push {cls:=.type "range", data:=.fields #[.int lo t,.int hi u,.int 1 v]},toks:=tk}:=I.kept fun b o e=>Heap.get?_push_of_some _ e
 &⟨(s.heap.push {cls:=.type "range", data:=.fields #[.int lo t,.int hi u,.int 1 v]}).objs.size,[(s.heap.push {cls:=.type "range", data:=.fields #[.int lo t,.int hi u,.int 1 v]}).objs.size],_,_,H,rfl,
  I1.kept (t':=tk) fun b o e=>Heap.get?_push_of_some _ e,Ck _ lo (hi-lo).toNat,?_,fun b hb=>?_,q⟩
 ·have e1:lo+((0:Nat):Int)*1=lo:=by simp
  have e2:(((hi-lo).toNat:Nat):Int)-((0:Nat):Int)=Builtin.Range.rangeSize lo hi 1:=by rw[rangeSize_one];split<;>omega
  show IsRangeIter _ _ (lo+((0:Nat):Int)*1) ((((hi-lo).toNat:Nat):Int)-((0:Nat):Int)) 1
  rw[e1,e2]
  ~Heap.get?_push_size _ rfl
 ·have e:b=(s.heap.push {cls:=.type "range", data:=.fields #[.int lo t,.int hi u,.int 1 v]}).objs.size:=by simpa using hb
  subst e
  ~I1.Ot (B7 _) (I1.hok.fresh (B7 _))
def Jo(ta:TA):TI:=fun σ H R=>ta σ H fun vs H1=>∃j:Int,vs=[.int j]∧-(2 ^ 62)≤j∧j<2 ^ 62∧R (FN 0 j.toNat) H1
A9 uZ{a:Expr}{ta:TA}{p pos:Pos}(hg:Gl X "range") (hm:X.mg "range" = none) (ha:PA X [a] ta) (hs:starEach [a] X.env=[(false,eval a X.env)]:=by rfl):PI X tg (.Call (.Name "range" p) [a] [] pos) (Jo ta):=by
 intro pins s σ H R I h
 &Call_ (wR I hg hm boot_range (L5 (dW (ha pos pins s σ H _ I h) fun us s1 ⟨vs,H1,I1,r1,q1⟩=>?_) hs rfl))
 A7⟨j,e,q1,q2,q⟩:=q1
 subst e
 cases r1 with
 | cons r rr=>
  cases rr
  A7⟨t,rfl⟩:=r
  ~call_range_1 (Jm I1 A3 A3 q1 q2 (by simpa using q))
def Jp(wi:TI)(g:TG)(tb:TS):TS:=fun D σ H=>wi σ H fun J H1=>∃W:Nat→Nat→St→Hp→Prop,(∃m,W 0 m σ H1)∧∀i m σ H,W i m σ H →
 (J.stop i H∧D.nx σ H)∨(J.go i H∧∃N:St→Hp→Prop,(∀σ' H',N σ' H'→∃m',m'<m∧W (i+1) m' σ' H')∧∀x H',J.Yy i H x H'→g x σ H' fun σ2 H2=>tb {D with nx:=N,ct:=N,bk:=D.nx} σ2 H2)
def rD(fp:List Addr)(h:Heap):List (Addr×Obj):=fp.filterMap fun b=>(h.get? b).map fun o=>(b,o)
A9 jB{fp:List Addr}{h:Heap}{b:Addr}{o:Obj}(hb:b∈fp)(e:h.get? b=some o):(b,o)∈rD fp h:=P1.mpr ⟨b,hb,by rw[e];rfl⟩
A9 Hf{fp:List Addr}{h:Heap}{p:Addr×Obj}(hp:p∈rD fp h):p.1∈fp∧h.get? p.1=some p.2:=by
 A7⟨b,hb,e⟩:=P1.mp hp
 cases q:h.get? b with
 | none=>rw[q]at e;cases e
 | some o=>
  rw[q]at e
  have e':(b,o)=p:=E1 e
  subst e'
  ~⟨hb,q⟩
A9 Inv.pinned{pins:List (Addr×Obj)}{σ:St}{H:Hp}{s:Shared}{fp:List Addr}(I:Inv X pins σ H s)(hf:∀b∈fp,uG X pins H b)(ho:∀b∈fp,∃o,s.heap.get? b=some o∧∀v,o.data≠.cell v):Inv X (pins++rD fp s.heap) σ H s:=
 I.Er fun p hp=>(F2.mp hp).elim (fun z=>I.pin p (D4 _ z)) fun z=>by
  A7⟨hb,e⟩:=Hf z
  A7⟨f0,f1,f2,_⟩:=hf p.1 hb
  A7⟨o,e',d⟩:=ho p.1 hb
  rw[e]at e';cases e'
  ~⟨e,f0,f1,f2,d⟩
A9 Inv.nP{pins pl:List (Addr×Obj)}{σ:St}{H:Hp}{s:Shared}(I:Inv X (pins++pl) σ H s):Inv X pins σ H s:=I.Er fun p hp=>I.pin p (D4 _ (K6 _ hp))
A9 Jq{iter:Expr}{body:List Stmt}{wi:TI}{g:TG}{tb:TS}{pos:Pos}(hp:PassesOwn (model X.prog X.w) X.A X.env X.xe)(hc:X.calm=true)(hi:PI X tg iter wi)(hg:PG X tg g)(hb:Es X body tb)
  (hs:∀x,foldedSetIterable iter X.env x=pure x:=by intro _;rfl):PS X (.For tg iter body [] pos) (Jp wi g tb):=by
 intro pins s σ H D I h
 &wpAny_For (dW (hi pins s σ H _ I h) fun v s1 h1=>dW h1 fun itv s2 h2=>?_) hs
 A7⟨it,fp,tn,J,H2,e,I2,T,st2,f2,W,⟨m0,w0⟩,turn⟩:=h2
 subst e
 have stat:∀{H':Hp},(∀b∈fp,H' b=none)→∀b∈fp,uG X pins H' b:=fun hn b hb=>⟨hn b hb,(f2 b hb).2⟩
 &codeAny_forLoop_any (fun n s'=>∃i σ' H',Inv X pins σ' H' s'∧tn i s'.heap∧(∀b∈fp,H' b=none)∧W i n σ' H') ?_ m0 ⟨0,σ,H2,I2,st2,fun b hb=>(f2 b hb).1,w0⟩
 rintro n s3 ⟨i,σ3,H3,I3,st3,fr3,w3⟩
 rcases turn i n σ3 H3 w3 with ⟨stop,qn⟩ | ⟨go,N,hN,step⟩
 ·&wpAny_passesOwn hp (dW (T.done X rfl rfl rfl hc i pins s3 σ3 H3 X.xe I3 (stat fr3) st3 stop) fun r s4 ⟨hr,I4⟩=>?_)
  subst hr
  ~wpAny_execs_nil ⟨σ3,H3,I4,qn⟩
 ·&wpAny_passesOwn hp (dW (T.item X rfl rfl rfl hc i pins s3 σ3 H3 X.xe I3 (stat fr3) st3 go) fun r s4 ⟨u,hr,h4⟩=>?_)
  subst hr
  &wpAny_passesOwn hp (dW h4 fun _ s5 ⟨x,H5,I5,r5,y5,st5,fr5⟩=>?_)
  have PX:=I5.pinned (stat fr5) (T.obj _ _ st5)
  &wpAny_passesOwn hp (dW (hg _ s5 σ3 H5 x u _ PX r5 (step x H5 y5)) fun _ s6 ⟨σ6,H6,I6,q6⟩=>?_)
  &wpAny_passesOwn hp (dW (hb _ s6 σ6 H6 _ I6 q6) fun f s7 q7=>?_)
  have again:∀{σ7:St} {H7:Hp},Inv X (pins++rD fp s5.heap) σ7 H7 s7→N σ7 H7→∃m,m<n∧∃i σ' H',Inv X pins σ' H' s7∧tn i s7.heap∧(∀b∈fp,H' b=none)∧W i m σ' H':=fun{σ7 H7} I7 n7=>by
   A7⟨m',hm,w7⟩:=hN σ7 H7 n7
   &⟨m',hm,i+1,σ7,H7,I7.nP,T.keep _ _ _ st5 fun b hb o e=>(I7.pin (b,o) (D4 _ (D4 _ (jB hb e)))).1,fun b hb=>?_,w7⟩
   A7⟨o,e,d⟩:=T.obj _ _ st5 b hb
   ~(I7.pin (b,o) (D4 _ (D4 _ (jB hb e)))).2.1
  cases f with
  | next=>A7⟨σ7,H7,I7,n7⟩:=q7;~again I7 n7
  | cont=>A7⟨σ7,H7,I7,n7⟩:=q7;~again I7 n7
  | brk=>A7⟨σ7,H7,I7,q7⟩:=q7;~⟨σ7,H7,I7.nP,q7⟩
  | ret v=>A7⟨x7,σ7,H7,I7,r7,q7⟩:=q7;~⟨x7,σ7,H7,I7.nP,r7,q7⟩
end
end L2
namespace L2
open PySem PySem.Spec PyProof.Rows
abbrev R2:=V→V→Hp→VK→Prop
def jC(X:Cx)(f:Value→Value→Sem Value)(r:R2):Prop:=
 ∀(pins:List (Addr×Obj))(s:Shared)(σ:St)(H:Hp)(x y:V)(v u:Value)(Q:VK),Inv X pins σ H s→RelV x v→RelV y u→r x y H Q →
  wpAny (model X.prog X.w) X.A (f v u) (EP X pins σ Q) X.xe s
def HS(X:Cx)(f:Value→Sem Value)(r:V→Hp→VK→Prop):Prop:=
 ∀(pins:List (Addr×Obj))(s:Shared)(σ:St)(H:Hp)(x:V)(v:Value)(Q:VK),Inv X pins σ H s→RelV x v→r x H Q →
  wpAny (model X.prog X.w) X.A (f v) (EP X pins σ Q) X.xe s
def eO(X:Cx)(f:Value)(r:List V→Hp→VK→Prop):Prop:=
 ∀(pins:List (Addr×Obj))(s:Shared)(σ:St)(H:Hp)(xs:List V)(us:List Value)(Q:VK),Inv X pins σ H s→Vals xs us→r xs H Q →
  wpAny (model X.prog X.w) X.A (call f us) (EP X pins σ Q) X.xe s
def zM(r:R2)(ta tb:TE):TE:=fun σ H Q=>ta σ H fun x H1=>tb σ H1 fun y H2=>r x y H2 Q
def HW(r:V→Hp→VK→Prop)(ta:TE):TE:=fun σ H Q=>ta σ H fun x H1=>r x H1 Q
def rI(C:Int→Int→Prop)(g:Int→Int→V):R2:=fun x y H Q=>∃i j,x=.int i∧y=.int j∧C i j∧Q (g i j) H
def Jr(g:Int→Int→V):R2:=fun x y H Q=>∃i j,x=.int i∧y=.int j∧Q (g i j) H
def rU(g:Int→V):V→Hp→VK→Prop:=fun x H Q=>∃i,x=.int i∧Q (g i) H
section
variable{X:Cx}{a b c:Expr}{ta tb tc:TE}{pos:Pos}
A9 Vk(ha:PE X a ta)(hb:PE X b tb){pins:List (Addr×Obj)}{s:Shared}{σ:St}{H:Hp}{R:V→V→Hp→Prop}(I:Inv X pins σ H s)
  (h:ta σ H fun x H1=>tb σ H1 fun y H2=>R x y H2) {Q:Value→Shared→Prop} {f:Value→Value→Sem Value}
  (hf:∀v u s2 x y H2,Inv X pins σ H2 s2→RelV x v→RelV y u→R x y H2→wpAny (model X.prog X.w) X.A (f v u) Q X.xe s2) :
  wpAny (model X.prog X.w) X.A (eval a X.env) (fun v s₁=>wpAny (model X.prog X.w) X.A (eval b X.env) (fun u s₂=>wpAny (model X.prog X.w) X.A (f v u) Q X.xe s₂) X.xe s₁) X.xe s:=by
 &dW (ha pins s σ H _ I h) fun v s1 ⟨x,H1,I1,r1,q1⟩=>?_
 &dW (hb pins s1 σ H1 _ I1 q1) fun u s2 ⟨y,H2,I2,r2,q2⟩=>?_
 ~hf v u s2 x y H2 I2 r1 r2 q2
A9 Za{op:Operator}{r:R2}(ho:jC X (binaryOp op) r)(ha:PE X a ta)(hb:PE X b tb):PE X (.BinOp a op b pos) (zM r ta tb):=by
 intro pins s σ H Q I h
 ~wpAny_BinOp (Vk ha hb I h fun v u s2 x y H2 I2 rx ry q=>ho pins s2 σ H2 x y v u Q I2 rx ry q)
A9 Zb{op:UnaryOp}{r:V→Hp→VK→Prop}(ho:HS X (unaryOp op) r)(ha:PE X a ta):PE X (.UnaryOp op a pos) (HW r ta):=by
 intro pins s σ H Q I h
 ~UnaryOp_ (dW (ha pins s σ H _ I h) fun v s1 ⟨x,H1,I1,r1,q1⟩=>ho pins s1 σ H1 x v Q I1 r1 q1)
A9 FQ{f:Value→Value→Sem Value}{C:Int→Int→Prop}{g:Int→Int→Int}
  (rule:∀(i j:Int)(t u:Tok)(s:Shared)(Q:Value→Shared→Prop)(E:Value→Shared→Prop),C i j→Q (.int (g i j) s.toks) {s with toks:=s.toks+1}→wpAny (model X.prog X.w) X.A (f (.int i t) (.int j u)) Q E s) :
  jC X f (rI C fun i j=>.int (g i j)):=by
 intro pins s σ H x y v u Q I rx ry h
 A7⟨i,j,rfl,rfl,hc,q⟩:=h
 A7⟨t,rfl⟩:=rx
 A7⟨t',rfl⟩:=ry
 ~rule i j t t' s _ _ hc ⟨.int (g i j),H,I.tok _,⟨_,rfl⟩,q⟩
A9 Zc{f:Value→Value→Sem Value}{g:Int→Int→Int}
  (rule:∀(i j:Int)(t u:Tok)(s:Shared)(Q:Value→Shared→Prop)(E:Value→Shared→Prop),Q (.int (g i j) s.toks) {s with toks:=s.toks+1}→wpAny (model X.prog X.w) X.A (f (.int i t) (.int j u)) Q E s) :
  jC X f (Jr fun i j=>.int (g i j)):=by
 intro pins s σ H x y v u Q I rx ry h
 A7⟨i,j,rfl,rfl,q⟩:=h
 A7⟨t,rfl⟩:=rx
 A7⟨t',rfl⟩:=ry
 ~rule i j t t' s _ _ ⟨.int (g i j),H,I.tok _,⟨_,rfl⟩,q⟩
A9 Zd{f:Value→Value→Sem Value}{g:Int→Int→Bool}
  (rule:∀(i j:Int)(t u:Tok)(s:Shared)(Q:Value→Shared→Prop)(E:Value→Shared→Prop),Q (.bool (g i j)) s→wpAny (model X.prog X.w) X.A (f (.int i t) (.int j u)) Q E s) :
  jC X f (Jr fun i j=>.bl (g i j)):=by
 intro pins s σ H x y v u Q I rx ry h
 A7⟨i,j,rfl,rfl,q⟩:=h
 A7⟨t,rfl⟩:=rx
 A7⟨t',rfl⟩:=ry
 ~rule i j t t' s _ _ ⟨.bl (g i j),H,I,rfl,q⟩
def Hg(i j:Int):Prop:=0<j∧j<1073741824
def Hh(i j:Int):Prop:=0≤j∧j≤1000000∧i.natAbs<2 ^ 64
def uH(i j:Int):Prop:=(-(2 ^ 64)<i∧i<2 ^ 64)∨(-(2 ^ 64)<j∧j<2 ^ 64)
A9 uH.ok{i j:Int}(h:uH i j):IntMulOk i j:=by
 rcases h with ⟨h1,h2⟩ | ⟨h1,h2⟩
 ·~.of_left (intBits_le_64 h1 h2)
 ·~.of_right (intBits_le_64 h1 h2)
A9 Vl:jC X (binaryOp .Add) (Jr fun i j=>.int (i+j)):=Zc fun _ _ _ _ _ _ _ q=>add_int q
A9 Vm:jC X (binaryOp .Sub) (Jr fun i j=>.int (i-j)):=Zc fun _ _ _ _ _ _ _ q=>sub_int q
A9 Vn:jC X (binaryOp .Mult) (rI uH fun i j=>.int (i*j)):=FQ fun _ _ _ _ _ _ _ hc q=>mul_int q hc.ok
A9 Ov:jC X (binaryOp .FloorDiv) (rI Hg fun i j=>.int (i/j)):=FQ fun i j _ _ _ _ _ hc q=>by
 have h1:(0:Int)<j:=hc.1
 have h2:j<1073741824:=hc.2
 ~floordiv_int A3 (by rw[Int.fdiv_eq_ediv_of_nonneg i A3];~q) (.inl (PyProof.noPylong_small A3))
A9 Vo:jC X (binaryOp .Mod) (rI (fun _ j=>0<j) fun i j=>.int (i%j)):=FQ fun i j _ _ _ _ _ hc q=>by
 have h1:(0:Int)<j:=hc
 ~mod_int' A3 (by rw[Int.fmod_eq_emod_of_nonneg i A3];~q)
A9 Vp:jC X (binaryOp .Pow) (rI Hh fun i j=>.int (i ^ j.toNat)):=FQ fun _ _ _ _ _ _ _ hc q=>pow_int_small hc.1 hc.2.1 hc.2.2 q
A9 QB{f:Value→Sem Value}{g:Int→Int}
  (rule:∀(i:Int)(t:Tok)(s:Shared)(Q:Value→Shared→Prop)(E:Value→Shared→Prop),Q (.int (g i) s.toks) {s with toks:=s.toks+1}→wpAny (model X.prog X.w) X.A (f (.int i t)) Q E s) :
  HS X f (rU fun i=>.int (g i)):=by
 intro pins s σ H x v Q I rx h
 A7⟨i,rfl,q⟩:=h
 A7⟨t,rfl⟩:=rx
 ~rule i t s _ _ ⟨.int (g i),H,I.tok _,⟨_,rfl⟩,q⟩
A9 Vq:HS X (unaryOp .USub) (rU fun i=>.int (-i)):=QB fun _ _ _ _ _ q=>neg_int q
end
def zU:V→V→Bool
  | .non,.non=>true | .non,.int _=>true | .int _,.non=>true | .non,.bl _=>true | .bl _,.non=>true | .non,.str _=>true | .str _,.non=>true
  | .int _,.int _=>true | .bl _,.bl _=>true | .str _,.str _=>true | .byt _,.byt _=>true
  | .int _,.str _=>true | .str _,.int _=>true | .bl _,.str _=>true | .str _,.bl _=>true
  | _,_=>false
def HX:R2:=fun x y H Q=>zU x y=true∧Q (.bl (decide (x=y))) H
def MN:R2:=fun x y H Q=>zU x y=true∧Q (.bl (!decide (x=y))) H
A9 Ew{i j:Int}:decide (V.int i=V.int j)=(i==j):=by
 rw[G0]
 simp
A9 Js{i j:Bool}:decide (V.bl i=V.bl j)=(i==j):=by
 rw[G0]
 simp
A9 qU{i j:Str}:decide (V.str i=V.str j)=(i==j):=by
 rw[G0]
 simp
A9 Ex{i j:Array UInt8}:decide (V.byt i=V.byt j)=(i.toList==j.toList):=by
 rw[G0]
 cases i
 cases j
 simp
section
variable{X:Cx}{a b c:Expr}{ta tb tc:TE}{pos:Pos}
A9 aY{pins:List (Addr×Obj)}{σ:St}{H:Hp}{s:Shared}{Q:VK}{k k':Bool}(I:Inv X pins σ H s)(q:Q (.bl k) H)(e:k=k'):EP X pins σ Q (.bool k') s:=by
 subst e
 ~⟨.bl k,H,I,rfl,q⟩
A9 Ze:jC X (compareOp .Eq) HX:=by
 intro pins s σ H x y v u Q I rx ry h
 A7⟨hs,q⟩:=h
 cases x with
 | non=>
  cases rx
  cases y with
  | non=>cases ry;~PySem.EqNone.eq_none_none (aY I q (by simp))
  | bl j=>cases ry;~PySem.EqNone.eq_none_bool (aY I q (by simp))
  | int j=>A7⟨t',rfl⟩:=ry;~PySem.EqNone.eq_none_int (aY I q (by simp))
  | str j=>A7⟨t',rfl⟩:=ry;~PySem.EqNone.eq_none_str (aY I q (by simp))
  | _=>~absurd (show false=true from hs) C7
 | bl i=>
  cases rx
  cases y with
  | non=>cases ry;~PySem.EqNone.eq_bool_none (aY I q (by simp))
  | bl j=>cases ry;~eq_bool (aY I q Js)
  | str j=>A7⟨t',rfl⟩:=ry;~PySem.EqMixed.eq_bool_str (aY I q (by simp))
  | _=>~absurd (show false=true from hs) C7
 | int i=>
  A7⟨t,rfl⟩:=rx
  cases y with
  | non=>cases ry;~PySem.EqNone.eq_int_none (aY I q (by simp))
  | int j=>A7⟨t',rfl⟩:=ry;~eq_int (aY I q Ew)
  | str j=>A7⟨t',rfl⟩:=ry;~PySem.EqMixed.eq_int_str (aY I q (by simp))
  | _=>~absurd (show false=true from hs) C7
 | str i=>
  A7⟨t,rfl⟩:=rx
  cases y with
  | non=>cases ry;~PySem.EqNone.eq_str_none (aY I q (by simp))
  | bl j=>cases ry;~PySem.EqMixed.eq_str_bool (aY I q (by simp))
  | int j=>A7⟨t',rfl⟩:=ry;~PySem.EqMixed.eq_str_int (aY I q (by simp))
  | str j=>A7⟨t',rfl⟩:=ry;~eq_str (aY I q qU)
  | _=>~absurd (show false=true from hs) C7
 | byt i=>
  A7⟨t,rfl⟩:=rx
  cases y with
  | byt j=>A7⟨t',rfl⟩:=ry;~PySem.W.eq_bytes (aY I q Ex)
  | _=>~absurd (show false=true from hs) C7
 | _=>cases y<;>~absurd (show false=true from hs) C7
A9 Zf:jC X (compareOp .NotEq) MN:=by
 intro pins s σ H x y v u Q I rx ry h
 A7⟨hs,q⟩:=h
 cases x with
 | non=>
  cases rx
  cases y with
  | non=>cases ry;~PySem.EqNone.ne_none_none (aY I q (by simp))
  | bl j=>cases ry;~PySem.EqNone.ne_none_bool (aY I q (by simp))
  | int j=>A7⟨t',rfl⟩:=ry;~PySem.EqNone.ne_none_int (aY I q (by simp))
  | str j=>A7⟨t',rfl⟩:=ry;~PySem.EqNone.ne_none_str (aY I q (by simp))
  | _=>~absurd (show false=true from hs) C7
 | bl i=>
  cases rx
  cases y with
  | non=>cases ry;~PySem.EqNone.ne_bool_none (aY I q (by simp))
  | bl j=>cases ry;~ne_bool (aY I q (congrArg not Js))
  | str j=>A7⟨t',rfl⟩:=ry;~PySem.EqMixed.ne_bool_str (aY I q (by simp))
  | _=>~absurd (show false=true from hs) C7
 | int i=>
  A7⟨t,rfl⟩:=rx
  cases y with
  | non=>cases ry;~PySem.EqNone.ne_int_none (aY I q (by simp))
  | int j=>A7⟨t',rfl⟩:=ry;~ne_int (aY I q (congrArg not Ew))
  | str j=>A7⟨t',rfl⟩:=ry;~PySem.EqMixed.ne_int_str (aY I q (by simp))
  | _=>~absurd (show false=true from hs) C7
 | str i=>
  A7⟨t,rfl⟩:=rx
  cases y with
  | non=>cases ry;~PySem.EqNone.ne_str_none (aY I q (by simp))
  | bl j=>cases ry;~PySem.EqMixed.ne_str_bool (aY I q (by simp))
  | int j=>A7⟨t',rfl⟩:=ry;~PySem.EqMixed.ne_str_int (aY I q (by simp))
  | str j=>A7⟨t',rfl⟩:=ry;~ne_str (aY I q (congrArg not qU))
  | _=>~absurd (show false=true from hs) C7
 | byt i=>
  A7⟨t,rfl⟩:=rx
  cases y with
  | byt j=>A7⟨t',rfl⟩:=ry;~PySem.W.ne_bytes (aY I q (congrArg not Ex))
  | _=>~absurd (show false=true from hs) C7
 | _=>cases y<;>~absurd (show false=true from hs) C7
A9 vA:jC X (compareOp .LtE) (Jr fun i j=>.bl (decide (i≤j))):=Zd fun _ _ _ _ _ _ _ q=>le_int q
A9 Zg:jC X (compareOp .Gt) (Jr fun i j=>.bl (decide (j<i))):=Zd fun _ _ _ _ _ _ _ q=>gt_int q
A9 Hi:jC X (compareOp .In) (fun x y H Q=>∃i j,x=.str i∧y=.str j∧Q (.bl (!(Builtin.Str.occurrences j i 0 j.length 1).isEmpty)) H):=by
 intro pins s σ H x y v u Q I rx ry h
 A7⟨i,j,rfl,rfl,q⟩:=h
 A7⟨t,rfl⟩:=rx
 A7⟨t',rfl⟩:=ry
 ~in_str (aY I q rfl)
A9 jC.or{f:Value→Value→Sem Value}{r r':R2}(h:jC X f r)(h':jC X f r'):jC X f (fun x y H Q=>r x y H Q∨r' x y H Q):=by
 intro pins s σ H x y v u Q I rx ry q
 rcases q with q | q
 ·~h pins s σ H x y v u Q I rx ry q
 ·~h' pins s σ H x y v u Q I rx ry q
A9 dX(b:Expr){op:CmpOp}(h:op≠.In:=by decide)(h2:op≠.NotIn:=by decide):behindInMarks op b=false:=by
 have e1:(op==CmpOp.In)=false:=by cases op<;>first | rfl | ~absurd rfl h
 have e2:(op==CmpOp.NotIn)=false:=by cases op<;>first | rfl | ~absurd rfl h2
 cases b<;>simp[behindInMarks,e1,e2]
A9 Ox{op:CmpOp}{r:R2}(ho:jC X (compareOp op) r)(ha:PE X a ta)(hb:PE X b tb)(hm:behindInMarks op b=false):PE X (.Compare a [op] [b] pos) (zM r ta tb):=by
 intro pins s σ H Q I h
 ~wpAny_Compare1 (Vk ha hb I h fun v u s2 x y H2 I2 rx ry q=>ho pins s2 σ H2 x y v u Q I2 rx ry q) hm
def zV(t:TE):TT:=fun σ H Q=>t σ H fun x H'=>∃k,x=.bl k∧Q k H'
A9 Oz{op:CmpOp}{r:R2}(ho:jC X (compareOp op) r)(ha:PE X a ta)(hb:PE X b tb)(hm:behindInMarks op b=false):PT X (.Compare a [op] [b] pos) (zV (zM r ta tb)):=by
 intro pins s σ H Q I h
 &wpAny_isTrue_Compare1 (dW (ha pins s σ H _ I h) fun v s1 ⟨x,H1,I1,r1,q1⟩=>dW (hb pins s1 σ H1 _ I1 q1) fun u s2 ⟨y,H2,I2,r2,q2⟩=>
  dW (ho pins s2 σ H2 x y v u _ I2 r1 r2 q2) fun c s3 ⟨z,H3,I3,r3,k,e,q3⟩=>?_) hm
 subst e
 cases r3
 ~wpAny_truthy_bool ⟨H3,I3,q3⟩
def wV(r r':R2)(ta tb tc:TE):TE:=fun σ H Q=>ta σ H fun x H1=>tb σ H1 fun y H2=>r x y H2 fun z H3=>∃k,z=.bl k ∧
 (if k=true then tc σ H3 fun w' H4=>r' y w' H4 Q else Q (.bl false) H3)
A9 Jt{op op':CmpOp}{r r':R2}(ho:jC X (compareOp op) r)(ho':jC X (compareOp op') r')(ha:PE X a ta)(hb:PE X b tb)(hc:PE X c tc)
  (hm:lastMarks [op,op'] [b,c]=false:=by with_unfolding_all rfl):PE X (.Compare a [op,op'] [b,c] pos) (wV r r' ta tb tc):=by
 intro pins s σ H Q I h
 &Compare_chain (dW (ha pins s σ H _ I h) fun v s1 ⟨x,H1,I1,r1,q1⟩=>chain_link (dW (hb pins s1 σ H1 _ I1 q1) fun u s2 ⟨y,H2,I2,r2,q2⟩=>
  dW (ho pins s2 σ H2 x y v u _ I2 r1 r2 q2) fun d s3 ⟨z,H3,I3,r3,k,e,q3⟩=>?_)) hm
 subst e
 cases r3
 &wpAny_truthy_bool ?_
 cases k with
 | false=>~ite_ff ⟨.bl false,H3,I3,rfl,q3⟩
 | true=>~ite_tt (chain_last (dW (hc pins s3 σ H3 _ I3 q3) fun w' s4 ⟨z',H4,I4,r4,q4⟩=>ho' pins s4 σ H4 y z' u w' Q I4 r2 r4 q4))
A9 Ju{op op':CmpOp}{r r':R2}(ho:jC X (compareOp op) r)(ho':jC X (compareOp op') r')(ha:PE X a ta)(hb:PE X b tb)(hc:PE X c tc)
  (hm:lastMarks [op,op'] [b,c]=false:=by with_unfolding_all rfl):PT X (.Compare a [op,op'] [b,c] pos) (zV (wV r r' ta tb tc)):=by
 intro pins s σ H Q I h
 &isTrue_chain (dW (ha pins s σ H _ I h) fun v s1 ⟨x,H1,I1,r1,q1⟩=>test_link (dW (hb pins s1 σ H1 _ I1 q1) fun u s2 ⟨y,H2,I2,r2,q2⟩=>
  dW (ho pins s2 σ H2 x y v u _ I2 r1 r2 q2) fun d s3 ⟨z,H3,I3,r3,k,e,q3⟩=>?_)) hm
 subst e
 cases r3
 &wpAny_truthy_bool ?_
 cases k with
 | false=>
  A7⟨k',e',q'⟩:=q3
  cases e'
  ~ite_ff ⟨H3,I3,q'⟩
 | true=>
  &ite_tt (test_last (dW (hc pins s3 σ H3 _ I3 q3) fun w' s4 ⟨z',H4,I4,r4,q4⟩=>dW (ho' pins s4 σ H4 y z' u w' _ I4 r2 r4 q4) fun d' s5 ⟨z2,H5,I5,r5,k2,e2,q5⟩=>?_))
  subst e2
  cases r5
  ~wpAny_truthy_bool ⟨H5,I5,q5⟩
A9 rF:(sizeLine:Nat)<2 ^ 63:=by rw[sizeLine_eq];decide
A9 vals1{x:V}{us:List Value}(r:Vals [x] us):∃u,us=[u]∧RelV x u:=by
 cases r with
 | cons r1 r2=>cases r2;~⟨_,rfl,r1⟩
A9 vals2{x y:V}{us:List Value}(r:Vals [x,y] us):∃u w',us=[u,w']∧RelV x u∧RelV y w':=by
 cases r with
 | cons r1 r2=>
  cases r2 with
  | cons r3 r4=>cases r4;~⟨_,_,rfl,r1,r3⟩
A9 nQ:eO X (.type "str") (fun xs H Q=>∃i,xs=[.int i]∧i.natAbs.log2<1920∧Q (.str (toString i)) H):=by
 intro pins s σ H xs us Q I r h
 A7⟨i,rfl,hz,q⟩:=h
 A7⟨u,rfl,t,rfl⟩:=vals1 r
 ~PySem.P.str_of_int hz ⟨.str _,H,I.tok _,⟨_,rfl⟩,q⟩
end
end L2
namespace L2
open PySem PySem.Spec PyProof.Rows
structure Vr(h:Heap)(x dx C:Addr)(mA:Str→Option Value):Prop where
 obj:h.get? x=some (N5 C dx)
 ns:h.Ns1 dx mA
 ne:dx≠x
A9 Hj{h:Heap}{dx:Addr}{mA:Str→Option Value}(n:h.Ns1 dx mA):∃od,h.get? dx=some od∧∀name,O0 name od=some (mA name):=by
 A7⟨o,es,ep,ho,hd,hk,_,hm⟩:=n
 &⟨o,ho,fun name=>?_⟩
 have e:=hm name
 A8 nsFind findBy at e
 rw[←Array.find?_toList]at e
 A8 O0
 rw[hd]
 dsimp only
 split
 ·rename_i y q
  rw[q]at e
  ~congrArg some e
 ·rename_i q
  rw[q]at e
  have a:es.toList.any (·.refKey)=false:=by
   rw[List.any_eq_false]
   intro y hy
   A7⟨z,t,hkey⟩:=hk y (Array.mem_toList_iff.mp hy)
   simp[DictEntry.refKey,hkey]
  have a':¬es.toList.any (·.refKey)=true:=by rw[a];~C7
  rw[if_neg a']
  ~congrArg some e
A9 Vr.look{h:Heap}{x dx C:Addr}{mA:Str→Option Value}(I:Vr h x dx C mA):∃od,PySem.W.InstAt h x (N5 C dx) C (some od)∧∀name,O0 name od=some (mA name):=
 let ⟨od,ho,hl⟩:=Hj I.ns
 ⟨od,⟨I.obj,rfl,rfl,ho⟩,hl⟩
section
variable{prog:Program}{w:World}{A:Around}{E:Value→Shared→Prop}{s:Shared}{K:aA}{x dx C f:Addr}{mA:Str→Option Value}{name:Str}{v:Value}
end
section
variable{P:Program}{w:World}{H H':Hp}{h h':Heap}{a C dx:Addr}{fs fs':List (Str×V)}
A9 Pa(hok:qM P w H h)(e:H a=some (.ins C dx fs)):∃mA,Vr h a dx C mA∧(∀f,Uv (fs.lookup f) (mA f))∧R8 mA (fs.map (·.1))∧fs.length≤1000∧H dx=some (.own a):=by
 A7⟨d,z,ne,ob,mA,n,r,q⟩:=(show dO P w H h a (.ins C dx fs)from hok a _ e)
 ~⟨mA,⟨ob,n,ne⟩,r,q,z,d⟩
end
structure FW(K:aA)(C:Addr):Prop where
 pg:Q1 K C Str.empty=true
 hd:PySem.W.hasDictIn K C=true
 po:PySem.W.plainOver K C=true
 sa:J0 K (.ref C) "__setattr__" = some (some (.builtin "object.__setattr__"))
A9 FW.get{K:aA}{C:Addr}(c:FW K C)(f:Str):Q1 K C f=true:=c.pg
def Vs(K:aA)(C:Addr)(f:Str):Prop:=J0 K (.ref C) f=some none
structure SQ(K:aA)(C:Addr)(f:Str)(v:V)(u:Value):Prop where
 at_:J0 K (.ref C) f=some (some u)
 rel:RelV v u
 get:P7 K u "__get__" = some none
 cp:PySem.W.copiedNames.contains f=false
structure Meth(K:aA)(C:Addr)(m:Str)(f:Addr):Prop where
 at_:J0 K (.ref C) m=some (some (.ref f))
 fn:S0 K (.ref f)=true
 kp:F6 K (.ref f)=true
section
variable{X:Cx}{pins:List (Addr×Obj)}{σ:St}{H:Hp}{s:Shared}{a C dx:Addr}{fs:List (Str×V)}{f:Str}{v:V}{A:Around}{E:Value→Shared→Prop}
end
section
variable{X:Cx}{o e value:Expr}{f:Str}{pos pos' tpos:Pos}{ta tv:TE}
end
section
variable{X:Cx}{pins:List (Addr×Obj)}{σ:St}{H:Hp}{s:Shared}{A:Around}{E:Value→Shared→Prop}{Q:Value→Shared→Prop}{c:Value}{b:Bool}
inductive qN(K:aA)(H:Hp):V→Value→Prop where
 | non:qN K H .non (.type "NoneType")
 | bl (x:Bool):qN K H (.bl x) (.type "bool")
 | int (i:Int):qN K H (.int i) (.type "int")
 | str (x:Str):qN K H (.str x) (.type "str")
 | flt (x:UInt64):qN K H (.flt x) (.type "float")
 | lst {a:Addr} {xs:List V} (e:H a=some (.lst xs)):qN K H (.ref a) (.type "list")
 | oX {a:Addr} {o:Obj} {xs:List V} (e:H a=some (.oX o (.lst xs))):qN K H (.ref a) (.type "list")
 | tup {a:Addr} {xs:List V} (e:H a=some (.tup xs)):qN K H (.ref a) (.type "tuple")
 | dK {a:Addr} {kvs:List (Key×V)} (e:H a=some (.dK kvs)):qN K H (.ref a) (.type "dict")
 | dT {a:Addr} {kvs:List (List Key×V)} (e:H a=some (.dT kvs)):qN K H (.ref a) (.type "dict")
 | ins {a C dx:Addr} {fs:List (Str×V)} (e:H a=some (.ins C dx fs)) (cl:FW K C) (ha:J0 K (.ref C) "__class__" = some (some (.builtin "object.__class__")))
   (hn:P7 K (.builtin "object.__class__") "__get__" = some (some (.builtin "getset_descriptor.__get__"))) (htk:PySem.W.takesIn K (.builtin "object.__class__")=some true)
   (hm:PySem.W.mroIn K C (.type "object")=some true):qN K H (.ref a) (.ref C)
A9 oY{x:V}{u t:Value}(I:Inv X pins σ H s)(rx:RelV x u)(ty:qN X.K H x t)(e:C8 X.K t c=some b)(h:∀tk,Q (.bool b) {s with toks:=tk}) :
  wpAny (model X.prog X.w) A (call (.builtin "isinstance") [u,c]) Q E s:=by
 cases ty with
 | non=>cases(show u=Value.none from rx);~D6 PySem.W.kitx_none I.wO True.intro e (fun z=>nomatch z) h
 | bl y=>cases(show u=Value.bool y from rx);~D6 PySem.W.kitx_bool I.wO True.intro e (fun z=>nomatch z) h
 | int i=>A7⟨t,q⟩:=(show ∃t,u=Value.int i t from rx);cases q;~D6 PySem.W.kitx_int I.wO True.intro e (fun z=>nomatch z) h
 | str y=>A7⟨t,q⟩:=(show ∃t,u=Value.str y t from rx);cases q;~D6 PySem.W.kitx_str I.wO True.intro e (fun z=>nomatch z) h
 | flt y=>A7⟨t,q⟩:=(show ∃t,u=Value.float y t from rx);cases q;~D6 PySem.W.kitx_float I.wO True.intro e (fun z=>nomatch z) h
 | @lst a xs ea=>
  cases(show u=Value.ref a from rx)
  A7⟨_,_,n,_,h1⟩:=(show dO X.prog X.w H s.heap a (.lst xs)from I.hok a _ ea)
  ~D6 M0 I.wO ⟨_,h1,rfl⟩ e (fun z=>nomatch z) h
 | @oX a ob xs ea=>
  cases(show u=Value.ref a from rx)
  A7⟨_,_,_,n,_,h1⟩:=(show dO X.prog X.w H s.heap a (.oX ob (.lst xs))from I.hok a _ ea)
  ~D6 M0 I.wO ⟨_,h1,rfl⟩ e (fun z=>nomatch z) h
 | @tup a xs ea=>
  cases(show u=Value.ref a from rx)
  A7⟨_,_,_,p⟩:=(show dO X.prog X.w H s.heap a (.tup xs)from I.hok a _ ea)
  A7⟨o,h1,h2,_⟩:=p
  ~D6 P2 I.wO ⟨o,h1,h2⟩ e (fun z=>nomatch z) h
 | @dK a kvs ea=>
  cases(show u=Value.ref a from rx)
  A7⟨_,_,vs,_,p⟩:=(show dO X.prog X.w H s.heap a (.dK kvs)from I.hok a _ ea)
  A7⟨o,es,ep,h1,h2,_⟩:=p
  ~D6 P8 I.wO ⟨o,h1,h2.1⟩ e (fun z=>nomatch z) h
 | @dT a kvs ea=>
  cases(show u=Value.ref a from rx)
  A7⟨_,_,xs,_,o,es,ep,h1,h2,_⟩:=(show dO X.prog X.w H s.heap a (.dT kvs)from I.hok a _ ea)
  ~D6 P8 I.wO ⟨o,h1,h2.1⟩ e (fun z=>nomatch z) h
 | @ins a C dx fs ea cl ha hn htk hm=>
  cases(show u=Value.ref a from rx)
  A7⟨mA,O,_⟩:=Pa I.hok ea
  A7⟨od,J,_⟩:=O.look
  ~D6 (PySem.W.kitx_own (cl.get _) cl.hd ha hn htk hm) I.wO J e (fun z=>nomatch z) h
end
end L2
namespace L2
open PySem PySem.Spec PyProof.Rows
structure gF(k:Nat)(A:Around):Prop where
 hd:A.handled=none
 dp:A.depth+3*k+5<recursionLimit
 un:A.units+16*k+200<cLine
A9 gF.mono{j k:Nat}{A:Around}(r:gF k A)(h:j≤k):gF j A:=⟨r.hd,by have:=r.dp;omega,by have:=r.un;omega⟩
A9 gF.deeper{k:Nat}{A:Around}(r:gF (k+1) A)(env:Env):gF k (A.deeper env):=
 ⟨r.hd,by have:=r.dp;show A.depth+1+3*k+5<_;omega,by have:=r.un;show A.units+3+16*k+200<_;omega⟩
A9 gF.depth{k:Nat}{A:Around}(r:gF k A):A.depth<recursionLimit:=by have:=r.dp;omega
A9 gF.units{k:Nat}{A:Around}(r:gF k A):A.units+64<cLine:=by have:=r.un;omega
def jD:TA:=fun _ H Q=>Q [] H
def dD(ta:TE)(tr:TA):TA:=fun σ H Q=>ta σ H fun x H1=>tr σ H1 fun xs H2=>Q (x::xs) H2
section
variable{X:Cx}{e:Expr}{es:List Expr}{te:TE}{t:TA}{pos:Pos}
A9 cB:PA X [] jD:=fun _ _ _ _ H Q I h=>Calls.spliced_nil ⟨[],H,I,.nil,h⟩
A9 bD(ha:PE X e te)(hr:PA X es t)(hs:starEach (e::es) X.env=(false,eval e X.env)::starEach es X.env:=by rfl):PA X (e::es) (dD te t):=by
 intro pos pins s σ H Q I h
 rw[hs]
 show wpAny _ _ (spliced ((false,eval e X.env)::backTo pos (starEach es X.env))) _ _ s
 &Calls.spliced_cons (dW (ha pins s σ H _ I h) fun u s1 ⟨x,H1,I1,r1,q1⟩=>?_)
 ~dW (hr pos pins s1 σ H1 _ I1 q1) fun us s2 ⟨xs,H2,I2,r2,q2⟩=>⟨x::xs,H2,I2,.cons r1 r2,q2⟩
def Vt(t:TA):TE:=fun σ H Q=>t σ H fun xs H1=>xs.length≤sizeLine∧∀p,H1 p=none→Q (.ref p) (upd H1 p (.tup xs))
def Jv(t:TA):TE:=fun σ H Q=>t σ H fun xs H1=>xs.length≤sizeLine∧∀p,H1 p=none→Q (.ref p) (upd H1 p (.lst xs))
A9 Vu{x1}(h:PA X es t):PE X (.Tuple es x1 pos) (Vt t):=by
 intro pins s σ H Q I hq
 &wpAny_Tuple_spliced (dW (h pos pins s σ H _ I hq) fun us s1 ⟨xs,H1,I1,r,z,q⟩=>⟨by rw[←r.length];~z,?_⟩)
 have hf:H1 s1.heap.objs.size=none:=I1.hok.fresh (B7 _)
 &⟨.ref s1.heap.objs.size,upd H1 s1.heap.objs.size (.tup xs),I1.laid (t':=s1.toks) (fun b u e=>Heap.get?_push_of_some _ e) (B7 _) ?_,rfl,q _ hf⟩
 ~⟨z,us,r,⟨_,Heap.get?_push_size _ rfl,rfl,_,rfl⟩⟩
A9 Jw(h:PA X es t):PE X (.List es pos) (Jv t):=by
 intro pins s σ H Q I hq
 &wpAny_List_spliced (dW (h pos pins s σ H _ I hq) fun us s1 ⟨xs,H1,I1,r,z,q⟩=>⟨by rw[←r.length];~z,?_⟩)
 have hf:H1 s1.heap.objs.size=none:=I1.hok.fresh (B7 _)
 &⟨.ref s1.heap.objs.size,upd H1 s1.heap.objs.size (.lst xs),I1.laid (t':=s1.toks) (fun b u e=>Heap.get?_push_of_some _ e) (B7 _) ?_,rfl,q _ hf⟩
 ~⟨z,us,0,r,Heap.get?_push_size _ rfl⟩
end
abbrev Sp:=List V→Hp→VK→XK→Prop
abbrev Jx:=List Env→Hp→Shared→XK→Value→Shared→Prop
structure Pb(P:Program)(w:World)(K:aA)(mg:Str→Option Value)(base:Heap)(A:Around)(outer:List Env)(s:Shared)(H:Hp):Prop where
 frames:A.frames=some outer
 mod:Mod K mg base
 bs:∀b o,base.get? b=some o→s.heap.get? b=some o∧H b=none
 Tg:base.objs.size≤s.heap.objs.size
 rC:s.heap.FunFrames base outer
 Yi:∀b∈frs outer,H b=none
 hok:qM P w H s.heap
 bare:AllBare s.gens
def CE(outer:List Env)(P:Program)(w:World)(H:Hp)(s:Shared)(Q:VK)(u:Value)(s':Shared):Prop:=
 ∃v H',s'.os=s.os∧AllBare s'.gens∧Un (frs outer) [] H H' s.heap s'.heap∧qM P w H' s'.heap∧RelV v u∧Q v H'
def CR(CX:Jx)(outer:List Env)(P:Program)(w:World)(H:Hp)(s:Shared)(Q:VK)(E:XK)(r:Result)(s':Shared):Prop:=
 match r with
 | .ok (.ret u)=>CE outer P w H s Q u s'
 | .ok _=>False
 | .error e=>CX outer H s E e s'
structure rG(P:Program)(w:World)(K:aA)(mg:Str→Option Value)(base:Heap)(CX:Jx)(k:Nat)(f:Addr)(fd:FuncData)(ps:List Str)(sp:Sp):Prop where
 len:∀vs H Q E,sp vs H Q E→vs.length=ps.length
 run:∀(A:Around)(outer:List Env)(s:Shared)(H:Hp)(args:Args)(us:List Value)(vs:List V)(Q:VK)(E:XK),gF k A→Pb P w K mg base A outer s H→BindsTo s fd args (ps.zip us)→Vals vs us→sp vs H Q E →
  codeAny (model P w) A (.call (.ref f) args) (CR CX outer P w H s Q E) s
section
variable{X:Cx}{pins:List (Addr×Obj)}{σ:St}{H:Hp}{s s':Shared}
A9 Inv.env0(I:Inv X pins σ H s):Pb X.prog X.w X.K X.mg X.base X.A X.stack s H:=
 ⟨I.ok.frames,I.ok.mod,I.bs,D9 I.ok.Tg I.sz,I.stack,I.Ep,I.hok,I.bare⟩
A9 Inv.after{Q:VK}{u:Value}(I:Inv X pins σ H s)(h:CE X.stack X.prog X.w H s Q u s'):EP X pins σ Q u s':=by
 A7⟨v,H',os,bare,un,hok,r,q⟩:=h
 A7⟨hh,g,d,t,os'⟩:=s'
 A7 rfl:os'=s.os:=os
 ~⟨v,H',I.call (h':=hh) (g':=g) (d':=d) (t':=t) (ch:=[]) un hok bare (fun b z=>absurd z (by simp)),r,q⟩
end
def zW(sp:Sp)(Tq:List V)(E:XK)(t:TA):TE:=fun σ H Q=>t σ H fun vs H1=>sp (vs++Tq) H1 Q E
def Binds(K:aA)(fd:FuncData)(ps:List Str)(ds:List Value):Prop:=
 ∀(s:Shared)(us:List Value),K.In s.heap→(us++ds).length=ps.length→BindsTo s fd ⟨us,[]⟩ (ps.zip (us++ds))
A9 Binds.all{K:aA}{fd:FuncData}{ps:List Str}(h:∀us:List Value,us.length=ps.length→bindArgs fd ⟨us,[]⟩=pure (ps.zip us)):Binds K fd ps []:=fun s us _ hl=>by
 rw[J5]at hl ⊢
 ~.of_eq (h us hl)
def Passes(CX:Jx)(X:Cx)(E:XK):Prop:=∀(pins:List (Addr×Obj))(σ:St)(H:Hp)(s:Shared)(e:Value)(s':Shared),Inv X pins σ H s→CX X.stack H s E e s'→X.xe e s'
section
variable{X:Cx}{CX:Jx}{k:Nat}{f C:Addr}{fd:FuncData}{ps:List Str}{sp:Sp}{Tq:List V}{ds:List Value}{E:XK}{x m:Str}{p pos apos:Pos}{e o:Expr}{es:List Expr}{ta:TE}{t:TA}
A9 Vv{pins:List (Addr×Obj)}{σ:St}{H:Hp}{s:Shared}{Q:VK}{us:List Value}{vs:List V}(F:rG X.prog X.w X.K X.mg X.base CX k f fd ps sp)(hr:gF k X.A)(hb:Binds X.K fd ps ds)(hd:Vals Tq ds)(hx:Passes CX X E)
  (I:Inv X pins σ H s) (r:Vals vs us) (h:sp (vs++Tq) H Q E):wpAny (model X.prog X.w) X.A (call (.ref f) us) (EP X pins σ Q) X.xe s:=by
 have r2:Vals (vs++Tq) (us++ds):=r.append hd
 have hl:(us++ds).length=ps.length:=by rw[←r2.length];~F.len _ _ _ _ h
 &wpAny_call (codeAny_mono (F.run X.A X.stack s H ⟨us,[]⟩ (us++ds) (vs++Tq) Q E hr I.env0 (hb s us I.wO hl) r2 h) fun r s' hq=>?_)
 cases r with
 | error e=>~hx pins σ H s e s' I hq
 | ok fl=>
  cases fl with
  | ret u=>~I.after hq
  | next=>~False.elim hq
  | brk=>~False.elim hq
  | cont=>~False.elim hq
A9 Pg(F:rG X.prog X.w X.K X.mg X.base CX k f fd ps sp)(hr:gF k X.A)(hg:Gl X x)(hm:X.mg x=some (.ref f))(hk:F6 X.K (.ref f)=true)(hb:Binds X.K fd ps ds)(hd:Vals Tq ds)(hx:Passes CX X E)
  (ha:PA X (e::es) t) (hdb:(x==("__debug__" : Str))=false:=by decide) (he:starEach (e::es) X.env=(false,eval e X.env)::starEach es X.env:=by rfl) (hpl:(backTo pos (starEach es X.env)).any (·.1)=false:=by rfl) :
  PE X (.Call (.Name x p) (e::es) [] pos) (zW sp Tq E t):=by
 intro pins s σ H Q I h
 &wpAny_Call_Name_kw (Et I hg hm ?_ hdb)
 &PySem.W.callWith_K (h₀:=X.base) I.ok.mod.GZ hk (dW (ha pos pins s σ H _ I h) fun us s1 ⟨vs,H1,I1,r,q⟩=>⟨I1.wO,?_⟩) he hpl
 ~Vv F hr hb hd hx I1 r q
structure Mk(K:aA)(C f:Addr):Prop where
 makes:PySem.W.makesIn K C=true
 init:J0 K (.ref C) "__init__" = some (some (.ref f))
 fn:S0 K (.ref f)=true
 kp:F6 K (.ref C)=true
end
section
variable{X:Cx}{CX:Jx}{k:Nat}{f C:Addr}{fd:FuncData}{ps ks:List Str}{sp:Sp}{E:XK}{x m:Str}{p pos apos kpos:Pos}{e o:Expr}{es:List Expr}{kws:List Keyword}{te ta:TE}{t tk:TA}{nm:Option Str}
structure HY(K:aA)(fd:FuncData)(ps ks:List Str)(g:List Value→List Value→List Value)(gV:List V→List V→List V):Prop where
 to:∀(s:Shared)(us ws:List Value),K.In s.heap→(g us ws).length=ps.length→BindsTo s fd ⟨us,ks.zip ws⟩ (ps.zip (g us ws))
 rel:∀{vs:List V} {us:List Value} {zs:List V} {ws:List Value},Vals vs us→Vals zs ws→Vals (gV vs zs) (g us ws)
variable{g:List Value→List Value→List Value}{gV:List V→List V→List V}
end
structure bA(N P:List Str)(sc:Scope):Prop where
 kind:sc.kind=.function
 co:sc.isCoroutine=false
 gen:sc.isGenerator=false
 nd:N.Nodup
 pre:N.take P.length=P
 par:∀x∈P,sc.names.lookup x=some .local∨sc.names.lookup x=some .cell
 Vw:∀y∈sc.names,y.2≠.free
A9 vB{kindOf:Str→Option NameKind}{x:Str}:∀{binds:List (Str×Value)} {m:Str→Option Value},(∀v,(x,v)∉binds)→bindL kindOf binds m x=m x
 | [],_,_=>rfl
 | (n,v)::r,m,h=>by
  A8 bindL
  rw[vB fun w hw=>h w (B9 _ hw)]
  split
  ·have:x≠n:=by rintro rfl;~h v C6
   simp[this]
  ·rfl
A9 vC{kindOf:Str→Option NameKind}{x:Str}:∀{binds:List (Str×Value)} {m:Str→Option Value},(∀v,(x,v)∉binds)→bindC kindOf binds m x=m x
 | [],_,_=>rfl
 | (n,v)::r,m,h=>by
  A8 bindC
  rw[vC fun w hw=>h w (B9 _ hw)]
  split
  ·rfl
  ·have:x≠n:=by rintro rfl;~h v C6
   simp[this]
A9 vD{kindOf:Str→Option NameKind}{x:Str}{v:Value}:∀{P:List Str} {vs:List Value} {i:Nat} {m:Str→Option Value},P.Nodup→P[i]?=some x→vs[i]?=some v→kindOf x=some .local →
  bindL kindOf (P.zip vs) m x=some v
 | [],_,_,_,_,h,_,_=>by simp at h
 | _::_,[],_,_,_,_,h,_=>by simp at h
 | p::P,w::vs,0,m,nd,h1,h2,hk=>by
  simp at h1 h2;subst h1;subst h2
  show bindL kindOf ((p,w)::P.zip vs) m p=_
  A8 bindL
  rw[vB fun v hv=>(K8.mp nd).1 (N6 hv).1,if_pos hk]
  simp
 | p::P,w::vs,i+1,m,nd,h1,h2,hk=>by
  show bindL kindOf ((p,w)::P.zip vs) m x=_
  A8 bindL
  ~vD (i:=i) (K8.mp nd).2 (by simpa using h1) (by simpa using h2) hk
A9 vG{kindOf:Str→Option NameKind}{x:Str}{v:Value}:∀{P:List Str} {vs:List Value} {i:Nat} {m:Str→Option Value},P.Nodup→P[i]?=some x→vs[i]?=some v→kindOf x≠some .local →
  bindC kindOf (P.zip vs) m x=some v
 | [],_,_,_,_,h,_,_=>by simp at h
 | _::_,[],_,_,_,_,h,_=>by simp at h
 | p::P,w::vs,0,m,nd,h1,h2,hk=>by
  simp at h1 h2;subst h1;subst h2
  show bindC kindOf ((p,w)::P.zip vs) m p=_
  A8 bindC
  rw[vC fun v hv=>(K8.mp nd).1 (N6 hv).1,if_neg hk]
  simp
 | p::P,w::vs,i+1,m,nd,h1,h2,hk=>by
  show bindC kindOf ((p,w)::P.zip vs) m x=_
  A8 bindC
  ~vG (i:=i) (K8.mp nd).2 (by simpa using h1) (by simpa using h2) hk
def start(N:List Str)(vs:List V):St:=vs.map some++D7 (N.length-vs.length) none
def wW(CX:Jx)(P:Program)(w:World)(K:aA)(mg:Str→Option Value)(base:Heap)(N:List Str)(qual:Str)(scope:Scope)(f:Addr)(cd:Value)(A:Around)(outer:List Env)(s:Shared)(H:Hp)(E:XK):Cx where
 prog:=P
 w:=w
 K:=K
 mg:=mg
 base:=base
 A:=A.deeper (envOfC qual scope s.heap.objs.size f cd)
 N:=N
 s₀:=s
 H₀:=H
 env:=envOfC qual scope s.heap.objs.size f cd
 outer:=outer
 stack:=envOfC qual scope s.heap.objs.size f cd::outer
 ex:=[]
 calm:=true
 fn:=fun _=>true
 pn:=[]
 xe:=fun e s'=>wpAny (model P w) (A.deeper (envOfC qual scope s.heap.objs.size f cd)) (leaving (envOfC qual scope s.heap.objs.size f cd) e) (fun _ s''=>CX outer H s E e s'') (fun e' s''=>CX outer H s E e' s'') s'
A9 zX{sc:Scope}{n:Nat}{x:Str}(h:sc.names.lookup x=some .cell):∃c,(cellsFrom n sc.names []).lookup x=some c:=by
 have q:=N9 sc.names n [] (.inl h)
 ~Option.isSome_iff_exists.mp q
A9 Hl{CX:Jx}{P:Program}{w:World}{K:aA}{mg:Str→Option Value}{base:Heap}{N ps:List Str}{qual:Str}{scope:Scope}{f:Addr}{cd:Value}{A:Around}{outer:List Env}{s s1:Shared}{H:Hp}{E:XK}{us:List Value}{vs:List V}
  (S:bA N ps scope) (hd:A.handled=none) (e0:Pb P w K mg base A outer s H) (hl:vs.length=ps.length) (r:Vals vs us)
  (x:InCallC s s.heap.objs.size (bindL (envOfC qual scope s.heap.objs.size f cd).kindOf (ps.zip us) fun _=>none) (cellsFrom (s.heap.objs.size+1) scope.names []) (bindC (envOfC qual scope s.heap.objs.size f cd).kindOf (ps.zip us) fun _=>none) s1) :
  Inv (wW CX P w K mg base N qual scope f cd A outer s H E) [] (start N vs) H s1:=by
 have hpl:ps.length≤N.length:=by have:=congrArg List.length S.pre;rw[K2]at this;omega
 A7⟨h1,tk,rfl,hk⟩:=x.done
 have Zh:∀b:Addr,b∉(wW CX P w K mg base N qual scope f cd A outer s H E).ex:=fun b z=>absurd (show b∈([]:List Addr)from z) (by simp)
 &⟨⟨e0.mod,S.kind,rfl,rfl,B7 _,fun y z c h1 h2=>?_,fun y hy=>?_,fun y c _ h=>?_,fun _=>hd,Around.frames_deeper e0.frames,.inr ⟨rfl,rfl⟩,fun b z=>absurd z (Zh b),e0.bs,e0.Tg,fun b _ _=>Zh b,fun b z=>absurd z (Zh b),e0.rC,e0.Yi⟩,
  rfl,e0.bare,Un.kept hk,⟨_,x.toInCall.ns,fun i y v h1 h2 h3=>?_⟩,fun y c h=>⟨_,x.cell y c h⟩,e0.hok.fresh (B7 _),fun y c h=>?_,fun p hp=>absurd (show p∈([]:List (Addr×Obj))from hp) (by simp),e0.hok.kept hk,?_⟩
 ·~name_of_addr x.apart (F4 h1) (F4 h2)
 ·have hy:scope.names.lookup y=some .cell∨scope.names.lookup y=some .free:=hy
  rcases hy with hy | hy
  ·~zX hy
  ·~absurd rfl (S.Vw _ (F4 hy))
 ·~P0 (x.above y c (F4 h))
 ·have hi:i<vs.length:=by
   A8 start at h2
   by_cases hi:i<vs.length
   ·~hi
   ·rw[L6 (by simpa using hi)]at h2
    rw[N3]at h2
    split at h2<;>cases h2
  have ha:vs[i]?=some v:=by
   A8 start at h2
   rw[M5 (by simpa using hi),C3]at h2
   cases e:vs[i]? with
   | none=>rw[e]at h2;cases h2
   | some a=>rw[e]at h2;cases h2;rfl
  A7⟨u,hu,rv⟩:=r.get ha
  have hp:ps[i]?=some y:=by
   rw[←S.pre,List.getElem?_take_of_lt A3];~h1
  have MP:ps.Nodup:=by rw[←S.pre];~S.nd.sublist (List.take_sublist _ _)
  &⟨u,rv,?_⟩
  rcases S.par y (J3 hp)with k | k
  ·~.inl ⟨k,vD MP hp hu k⟩
  ·A7⟨c,e⟩:=zX (n:=s.heap.objs.size+1) k
   &.inr ⟨.inl k,c,e,?_⟩
   have q:=x.cell y c e
   rw[vG MP hp hu (by show scope.names.lookup y≠_;rw[k];decide)]at q
   ~q
 ·~e0.hok.fresh (P0 (x.above y c (F4 h)))
 ·A8 start
  show _=N.length
  rw[D2,B6,O1]
  omega
A9 Zi{CX:Jx}{P:Program}{w:World}{K:aA}{mg:Str→Option Value}{base:Heap}{k:Nat}{f:Addr}{name qual:Str}{params:Arguments}{body:List Stmt}{scope:Scope}{dV kV doc pm cdv ct oc:Value}{an od:Option Addr}
  {osl:Array (Option Value)} {N ps:List Str} {sp:Sp} (lk:K.lookup f=some ⟨oc,od,.func (E2 name qual params body scope dV kV doc pm an cdv ct),osl⟩) (hcd:J1 K cdv qual=true) (S:bA N ps scope)
  (len:∀vs H Q E,sp vs H Q E→vs.length=ps.length)
  (hbody:∀(A:Around)(outer:List Env)(s:Shared)(H:Hp)(vs:List V)(Q:VK)(E:XK),gF k (A.deeper (envOfC qual scope s.heap.objs.size f cdv))→sp vs H Q E →
   ∃t,Es (wW CX P w K mg base N qual scope f cdv A outer s H E) body t∧t {nx:=fun _ H'=>Q .non H',rt:=Q} (start N vs) H) :
  rG P w K mg base CX (k+1) f (E2 name qual params body scope dV kV doc pm an cdv ct) ps sp:=by
 &⟨len,fun A outer s H args us vs Q E hr e0 hb r hsp=>?_⟩
 have hl:=len _ _ _ _ hsp
 have KX:K.In s.heap:=e0.mod.GZ.keeps fun b o e=>(e0.bs b o e).1
 have lim:s.heap.NoLimit:=e0.mod.nolimit.keeps fun b o e=>(e0.bs b o e).1
 have hkind:∀y∈ps.zip us,scope.names.lookup y.1=some .local∨(scope.names.lookup y.1=some .cell∧((cellsFrom (s.heap.objs.size+1) scope.names []).lookup y.1).isSome=true):=fun⟨n,v⟩ hy=>by
  rcases S.par n (N6 hy).1 with q | q
  ·~.inl q
  ·~.inr ⟨q,N9 _ _ _ (.inl q)⟩
 &codeAny_call_function hr.depth (KX _ _ lk) rfl S.co S.gen rfl (PySem.W.codeRec_of KX hcd) (hb _ _ _ _ ?_)
 &wpAny_newFunctionEnv_cells S.kind hkind fun env he s1 x=>?_
 subst he
 &⟨lim.keeps x.toInCall.keep,codeAny_func ?_⟩
 A7⟨t,ht,hq⟩:=hbody A outer s H vs Q E (hr.deeper _) hsp
 have I:Inv (wW CX P w K mg base N qual scope f cdv A outer s H E) [] (start N vs) H s1:=Hl S hr.hd e0 hl r x
 &wpAny_mono (ht [] s1 (start N vs) H _ I hq) (fun fl s' hs=>?_) fun e s' hs=>hs
 have fin:∀{σ':St} {H':Hp} {v:V} {u:Value},Inv (wW CX P w K mg base N qual scope f cdv A outer s H E) [] σ' H' s'→RelV v u→Q v H'→CE outer P w H s Q u s':=
  fun{σ' H' v u} J rv q=>⟨v,H',J.os,J.bare,J.base,J.hok,rv,q⟩
 cases fl with
 | ret u=>
  A7⟨v,σ',H',J,rv,q⟩:=hs
  ~fin J rv q
 | next=>
  A7⟨σ',H',J,q⟩:=hs
  ~fin (v:=V.non) (u:=Value.none) J rfl q
 | brk=>
  A7⟨_,_,_,q⟩:=hs
  ~False.elim q
 | cont=>
  A7⟨_,_,_,q⟩:=hs
  ~False.elim q
end L2
namespace L2
open PySem PySem.Spec PyProof.Rows
section
variable{X:Cx}{x:Str}{p pos:Pos}{e:Expr}{es:List Expr}{t:TA}{id T:String}{r:List V→Hp→VK→Prop}
def Vx(r:List V→Hp→VK→Prop)(t:TA):TE:=fun σ H Q=>t σ H fun vs H1=>r vs H1 Q
A9 rH(hc:eO X (.builtin id) r)(hg:Gl X x)(hm:X.mg x=none)(hv:bootBuiltins x=some (.builtin id))(ha:PA X (e::es) t)(hn:x ≠ "__name__" := by decide) (hdb:(x==("__debug__" : Str))=false:=by decide)
  (he:starEach (e::es) X.env=(false,eval e X.env)::starEach es X.env:=by rfl) (hpl:(backTo pos (starEach es X.env)).any (·.1)=false:=by rfl):PE X (.Call (.Name x p) (e::es) [] pos) (Vx r t):=by
 intro pins s σ H Q I h
 &wpAny_Call_Name_kw (wR I hg hm hv ?_ hn hdb)
 ~PyProof.Rows.callWith_builtin1 (dW (ha pos pins s σ H _ I h) fun us s1 ⟨vs,H1,I1,r1,q1⟩=>hc pins s1 σ H1 vs us Q I1 r1 q1) he hpl
A9 Ho(hc:eO X (.type T) r)(hg:Gl X x)(hm:X.mg x=none)(hv:bootBuiltins x=some (.type T))(ha:PA X (e::es) t)(hn:x ≠ "__name__" := by decide) (hdb:(x==("__debug__" : Str))=false:=by decide)
  (he:starEach (e::es) X.env=(false,eval e X.env)::starEach es X.env:=by rfl) (hpl:(backTo pos (starEach es X.env)).any (·.1)=false:=by rfl):PE X (.Call (.Name x p) (e::es) [] pos) (Vx r t):=by
 intro pins s σ H Q I h
 &wpAny_Call_Name_kw (wR I hg hm hv ?_ hn hdb)
 ~L5 (dW (ha pos pins s σ H _ I h) fun us s1 ⟨vs,H1,I1,r1,q1⟩=>hc pins s1 σ H1 vs us Q I1 r1 q1) he hpl
end
end L2
namespace HT
open PySem PyProof.Rows
section
open PySem.SeqAt
open PySem.AutoSeq1 (wpAny_loadPart')
open PySem.MeetsSeq PySem.MeetsSeq2 PySem.MeetsSeq3
end
section
variable{prog:Program}{w:World}{A:Around}{E:Value→Shared→Prop}{s:Shared}
def vH(n d:Nat):Option Int→Nat
 | none=>d
 | some v=>if v<0 then(v+(n:Int)).toNat else min v.toNat n
end
end HT
namespace L2
open PySem PySem.Spec PyProof.Rows
abbrev TO:=St→Hp→(Option Int→Hp→Prop)→Prop
def PO(X:Cx)(e:Option Expr)(t:TO):Prop:=
 ∀(pins:List (Addr×Obj))(s:Shared)(σ:St)(H:Hp)(Q:Option Int→Hp→Prop),Inv X pins σ H s→t σ H Q →
  wpAny (model X.prog X.w) X.A (evalPart e X.env) (fun u s'=>∃o H',Inv X pins σ H' s'∧IsPart u o∧Q o H') X.xe s
def Ey:TO:=fun _ H Q=>Q none H
def Tr(t:TE):TO:=fun σ H Q=>t σ H fun x H1=>∃i,x=.int i∧Q (some i) H1
section
variable{X:Cx}{e:Expr}{te:TE}{lo hi:Option Expr}{tl th:TO}{pos p2:Pos}
A9 Ph:PO X none Ey:=by
 intro pins s σ H Q I h
 rw[evalPart_none]
 ~wpAny_pure ⟨none,H,I,.none,h⟩
A9 Pj(h:PE X e te):PO X (some e) (Tr te):=by
 intro pins s σ H Q I hw
 rw[evalPart_some]
 &dW (h pins s σ H _ I hw) fun u s1 ⟨x,H1,I1,r1,q1⟩=>?_
 A7⟨i,rfl,q⟩:=q1
 A7⟨t,rfl⟩:=r1
 ~⟨some i,H1,I1,.int i t,q⟩
def FZ(X:Cx)(r:V→Option Int→Option Int→Hp→VK→Prop):Prop:=
 ∀(pins:List (Addr×Obj))(s:Shared)(σ:St)(H:Hp)(x:V)(v vl vu:Value)(lo hi:Option Int)(sl:Addr)(Q:VK),Inv X pins σ H s→RelV x v→s.heap.IsSliceOf sl vl vu .none→IsPart vl lo→IsPart vu hi→r x lo hi H Q →
  ∃T id,typeLookup (.type T) "__getitem__" = pure (some (.builtin id))∧s.TypeIs v T∧wpAny (model X.prog X.w) X.A (getItem v (.ref sl)) (EP X pins σ Q) X.xe s
def IK(r:V→Option Int→Option Int→Hp→VK→Prop)(te:TE)(tl th:TO):TE:=fun σ H Q=>te σ H fun x H1=>tl σ H1 fun l H2=>th σ H2 fun u H3=>r x l u H3 Q
A9 zY{r:V→Option Int→Option Int→Hp→VK→Prop}(hr:FZ X r)(he:PE X e te)(hl:PO X lo tl)(hu:PO X hi th):PE X (.Subscript e (.Slice lo hi none p2) pos) (IK r te tl th):=by
 intro pins s σ H Q I h
 &Subscript_ (dW (he pins s σ H _ I h) fun v s1 ⟨x,H1,I1,r1,q1⟩=>?_)
 &wpAny_Slice (dW (hl pins s1 σ H1 _ I1 q1) fun vl s2 ⟨l,H2,I2,pl,q2⟩=>dW (hu pins s2 σ H2 _ I2 q2) fun vu s3 ⟨u,H3,I3,pu,q3⟩=>?_)
 rw[evalPart_none]
 &wpAny_pure ?_
 have I4:Inv X pins σ H3 {s3 with heap:=s3.heap.push {cls:=.type "slice", data:=.fields #[vl,vu,.none]}}:=I3.kept (t':=s3.toks) fun b ob q=>Heap.get?_push_of_some _ q
 A7⟨T,id,hT,ht,hg⟩:=hr pins {s3 with heap:=s3.heap.push {cls:=.type "slice", data:=.fields #[vl,vu,.none]}} σ H3 x v vl vu l u s3.heap.objs.size Q I4 r1 (Heap.IsSliceOf.new ..) pl pu q3
 show wpAny (model X.prog X.w) X.A (subscriptTail e (.Slice lo hi none p2) v (.ref s3.heap.objs.size)) (EP X pins σ Q) X.xe {s3 with heap:=s3.heap.push {cls:=.type "slice", data:=.fields #[vl,vu,.none]}}
 ~tail_any (ops:=[.ref s3.heap.objs.size,v]) ht hT hg (by with_unfolding_all rfl)
def Cm(xs:List V)(lo hi:Option Int):List V:=(xs.drop (HT.vH xs.length 0 lo)).take (HT.vH xs.length xs.length hi-HT.vH xs.length 0 lo)
A9 zZ(xs:List V)(lo hi:Option Int):(Cm xs lo hi).length≤xs.length:=by
 A8 Cm
 rw[K2,M8]
 omega
end
end L2
namespace L2
open PySem PySem.Spec PyProof.Rows
def Tt(n:Nat)(i:Int):Option Nat:=if 0≤i then(if i<n then some i.toNat else none)else if -(n:Int)≤i then some (i+n).toNat else none
def Aa{α:Type}(xs:List α)(i:Int):Option α:=(Tt xs.length i).bind fun j=>xs[j]?
A9 Pk{n:Nat}{i:Int}{j:Nat}(h:Tt n i=some j):seqIndex? i n=some j∧j<n∧-(n:Int)≤i∧i<n:=by
 A8 Tt at h
 by_cases h0:0≤i
 ·rw[if_pos h0]at h
  by_cases h1:i<n
  ·rw[if_pos h1]at h
   have e:i.toNat=j:=E1 h
   ~⟨by rw[seqIndex_of h0 h1,e],by omega,by omega,h1⟩
  ·rw[if_neg h1]at h;cases h
 ·rw[if_neg h0]at h
  by_cases h1:-(n:Int)≤i
  ·rw[if_pos h1]at h
   have e:(i+n).toNat=j:=E1 h
   ~⟨by rw[seqIndex_neg A3 h1,e],by omega,h1,by omega⟩
  ·rw[if_neg h1]at h;cases h
A9 wX{α:Type}{xs:List α}{i:Int}{v:α}(h:Aa xs i=some v):∃j,seqIndex? i xs.length=some j∧xs[j]?=some v∧j<xs.length∧-(xs.length:Int)≤i∧i<xs.length:=by
 A8 Aa at h
 cases e:Tt xs.length i with
 | none=>rw[e]at h;cases h
 | some j=>
  rw[e]at h
  A7⟨h1,h2,h3,h4⟩:=Pk e
  ~⟨j,h1,h,h2,h3,h4⟩
A9 Pn{α:Type}{xs:List α}{j:Nat}{v:α}(h:xs[j]?=some v):Aa xs (j:Int)=some v:=by
 have hj:j<xs.length:=(B8.mp h).1
 have e:Tt xs.length (j:Int)=some j:=by
  A8 Tt
  rw[if_pos A3,if_pos A3];simp
 A8 Aa;rw[e];~h
def qW(b:Expr):Prop:=∀o i,subscripted b false o i=operate [o,i] (getItem o i)
def Og(X:Cx)(r:R2):Prop:=
 ∀(value slice:Expr)(pins:List (Addr×Obj))(s:Shared)(σ:St)(H:Hp)(x y:V)(v u:Value)(Q:VK),Inv X pins σ H s→RelV x v→RelV y u→r x y H Q →
  subscripted slice false v u=operate [v,u] (getItem v u)→wpAny (model X.prog X.w) X.A (subscriptTail value slice v u) (EP X pins σ Q) X.xe s
def Zj(X:Cx)(id:String)(r:V→List V→Hp→VK→Prop):Prop:=
 ∀(pins:List (Addr×Obj))(s:Shared)(σ:St)(H:Hp)(x:V)(xs:List V)(v:Value)(us:List Value)(Q:VK),Inv X pins σ H s→RelV x v→Vals xs us→r x xs H Q →
  wpAny (model X.prog X.w) X.A (call (.builtin id) (v::us)) (EP X pins σ Q) X.xe s
section
variable{X:Cx}{a b:Expr}{ta tb:TE}{pos:Pos}
A9 Og.or{r r':R2}(h:Og X r)(h':Og X r'):Og X (fun x y H Q=>r x y H Q∨r' x y H Q):=by
 intro value slice pins s σ H x y v u Q I rx ry q hs
 rcases q with q | q
 ·~h value slice pins s σ H x y v u Q I rx ry q hs
 ·~h' value slice pins s σ H x y v u Q I rx ry q hs
A9 Jy{r:R2}(hr:Og X r)(ha:PE X a ta)(hb:PE X b tb)(hs:qW b):PE X (.Subscript a b pos) (zM r ta tb):=by
 intro pins s σ H Q I h
 ~Subscript_ (Vk ha hb I h fun v u s2 x y H2 I2 rx ry q=>hr a b pins s2 σ H2 x y v u Q I2 rx ry q (hs _ _))
def Zk(K:aA):R2:=fun x y H Q=>∃p xs i v,x=.ref p∧y=.int i∧iH K H p xs∧Aa xs i=some v∧Q v H
def Zm(K:aA):R2:=fun x y H Q=>∃p xs i v,x=.ref p∧y=.int i∧lB K H p xs∧Aa xs i=some v∧Q v H
def Vy:R2:=fun x y H Q=>∃z i c,x=.str z∧y=.int i∧z.length≤sizeLine∧Aa z.cps.toList i=some c∧Q (.str ⟨#[c]⟩) H
A9 Pq:Og X (Zk X.K):=by
 intro value slice pins s σ H x y v u Q I rx ry h hs
 A7⟨p,xs,i,z,rfl,rfl,hq,he,q⟩:=h
 cases rx
 A7⟨t,rfl⟩:=ry
 A7⟨its,r,pl,hz⟩:=I.list hq
 A7⟨j,h1,h2,h3,h4,h5⟩:=wX he
 A7⟨w,ew,Vz⟩:=r.get h2
 have hl:=r.length
 have hn:=rF
 have fin:EP X pins σ Q w s:=⟨z,H,I,Vz,q⟩
 by_cases h0:0≤i
 ·have hj:i.toNat=j:=by
   rw[seqIndex_of h0 h5]at h1
   ~E1 h1
  ~item_listR pl.isList h0 A3 (by rw[hj];simpa using ew) fin hs
 ·have hj:(i+(its.toArray.size:Int)).toNat=j:=by
   rw[seqIndex_neg A3 h4]at h1
   rw[B3,←hl]
   ~E1 h1
  ~subscriptTail_builtinR (x:=w) pl.isList.typeIs slot_list_getitem.lookup
   (wpAny_getItem_list_neg (Q:=fun r s'=>r=w∧EP X pins σ Q r s') pl.isList A3 (by rw[B3]<;>omega) A3 (by rw[hj];simpa using ew) ⟨rfl,fin⟩) hs
A9 Wa:Og X (Zm X.K):=by
 intro value slice pins s σ H x y v u Q I rx ry h hs
 A7⟨p,xs,i,z,rfl,rfl,hq,he,q⟩:=h
 cases rx
 A7⟨t,rfl⟩:=ry
 A7⟨its,r,pl,hz⟩:=I.tuple hq
 A7⟨j,h1,h2,h3,h4,h5⟩:=wX he
 A7⟨w,ew,Vz⟩:=r.get h2
 have hl:=r.length
 have hn:=rF
 have fin:EP X pins σ Q w s:=⟨z,H,I,Vz,q⟩
 ~subscriptTail_builtinR (x:=w) pl.typeIs slot_tuple_getitem.lookup
  (getItem_tuple (j:=j) (Q:=fun r s'=>r=w∧EP X pins σ Q r s') pl A3 A3 (by rw[B3,←hl];~h1) (by simpa using ew) ⟨rfl,fin⟩) hs
A9 Jz:Og X Vy:=by
 intro value slice pins s σ H x y v u Q I rx ry h hs
 A7⟨z,i,c,rfl,rfl,hz,he,q⟩:=h
 A7⟨t,rfl⟩:=rx
 A7⟨t',rfl⟩:=ry
 A7⟨j,h1,h2,h3,h4,h5⟩:=wX he
 have hl:z.cps.toList.length=z.length:=by simp[Str.length]
 rw[hl]at h1 h4 h5
 have hn:=rF
 ~tail_any (typeIs_str s z t) slot_str_getitem.lookup (getItem_str (c:=c) (by
  have e1:decide (i < -(2 ^ 63:Int))=false:=decide_eq_false A3
  have e2:decide (i≥2 ^ 63)=false:=decide_eq_false A3
  rw[e1,e2,Bool.or_false]) (by rw[h1];simpa using h2) ⟨.str ⟨#[c]⟩,H,I.tok _,⟨_,rfl⟩,q⟩) hs
def GC(K:aA):R2:=fun x y H Q=>Zk K x y H Q∨Zm K x y H Q∨Vy x y H Q
A9 Wb:Og X (GC X.K):=Pq.or (Wa.or Jz)
A9 wY(lo hi:Option Int)(n:Nat):(sliceBounds lo hi none n).1=((HT.vH n 0 lo:Nat):Int)∧(sliceBounds lo hi none n).2.1=((HT.vH n n hi:Nat):Int)∧(sliceBounds lo hi none n).2.2=1:=by
 &⟨?_,?_,rfl⟩
 ·cases lo with
  | none=>simp[sliceBounds,HT.vH]
  | some i=>
   simp only[sliceBounds,HT.vH,Q2,show (1:Int) > 0 by decide,if_true]
   by_cases h:i<0
   ·simp only[h,if_true]<;>omega
   ·simp only[h,if_false]<;>omega
 ·cases hi with
  | none=>simp[sliceBounds,HT.vH]
  | some i=>
   simp only[sliceBounds,HT.vH,Q2,show (1:Int) > 0 by decide,if_true]
   by_cases h:i<0
   ·simp only[h,if_true]<;>omega
   ·simp only[h,if_false]<;>omega
A9 uI(its:List Value)(lo hi:Option Int):slicePick its.toArray lo hi none=((its.drop (HT.vH its.length 0 lo)).take (HT.vH its.length its.length hi-HT.vH its.length 0 lo)).toArray:=by
 A7⟨h1,h2,h3⟩:=wY lo hi its.toArray.size
 A8 slicePick
 rw[h1,h2,h3]
 simp only[sliceRange_one,pick_run,B3]<;>rfl
def Wc(K:aA):V→Option Int→Option Int→Hp→VK→Prop:=fun x lo hi H Q=>∃a xs,x=.ref a∧iH K H a xs∧∀p,H p=none→Q (.ref p) (upd H p (.lst (Cm xs lo hi)))
A9 Pu:FZ X (Wc X.K):=by
 intro pins s σ H x v vl vu lo hi sl Q I rx hs pl pu h
 A7⟨a,xs,rfl,hx,q⟩:=h
 cases rx
 A7⟨its,r,ht,hz⟩:=I.list hx
 have hlen:=r.length
 &⟨"list", _,slot_list_getitem.lookup,ht.isList.typeIs,?_⟩
 &wpAny_getItem_list_slice ht.isList hs pl pu .none (by simp) ?_ (by rw[B3]<;>omega)
 rw[uI,←hlen]
 &⟨.ref s.heap.objs.size,_,I.laid (t':=s.toks) (o:=.lst (Cm xs lo hi)) (fun b ob q=>Heap.get?_push_of_some _ q) (B7 _) ?_,rfl,q _ (I.hok.fresh (B7 _))⟩
 ~⟨D9 (zZ xs lo hi) hz,_,0,(r.drop (HT.vH xs.length 0 lo)).take (HT.vH xs.length xs.length hi-HT.vH xs.length 0 lo),Heap.get?_push_size _ rfl⟩
A9 wZ:eO X (.builtin "len") (fun xs H Q=>∃p ys,xs=[.ref p]∧(iH X.K H p ys∨lB X.K H p ys)∧Q (.int ys.length) H):=by
 intro pins s σ H xs us Q I r h
 A7⟨p,ys,rfl,hq,q⟩:=h
 A7⟨u,rfl,rx⟩:=vals1 r
 cases rx
 have hn:=rF
 rcases hq with hq | hq
 ·A7⟨its,r',pl,hz⟩:=I.list hq
  have hlen:=r'.length
  ~Calls.call_len_list pl.isList (by simp only[B3]<;>omega) ⟨.int ys.length,H,I.tok _,⟨s.toks+1,by rw[B3,hlen]⟩,q⟩
 ·A7⟨its,r',pl,hz⟩:=I.tuple hq
  have hlen:=r'.length
  ~len_tuple pl (by simp only[B3]<;>omega) ⟨.int ys.length,H,I.tok _,⟨s.toks+1,by rw[B3,hlen]⟩,q⟩
A9 xF:eO X (.builtin "len") (fun xs H Q=>∃z,xs=[.str z]∧z.length≤sizeLine∧Q (.int z.length) H):=by
 intro pins s σ H xs us Q I r h
 A7⟨z,rfl,hz,q⟩:=h
 A7⟨u,rfl,t,rfl⟩:=vals1 r
 have hn:=rF
 ~len_str A3 ⟨.int z.length,H,I.tok _,⟨_,rfl⟩,q⟩
A9 xG:eO X (.type "list") (fun xs H Q=>∃p ys,xs=[.ref p]∧(iH X.K H p ys∨lB X.K H p ys)∧∀l,H l=none→Q (.ref l) (upd H l (.lst ys))):=by
 intro pins s σ H xs us Q I r h
 A7⟨p,ys,rfl,hq,q⟩:=h
 A7⟨u,rfl,rx⟩:=vals1 r
 cases rx
 have fin:∀(its:List Value),Vals ys its→ys.length≤sizeLine→∀(h':Heap)(c':Nat),(∀b o',s.heap.get? b=some o'→h'.get? b=some o') →
   h'.get? s.heap.objs.size=some {cls:=.type "list", dict:=none,data:=.seq its.toArray c',slots:=#[]}→EP X pins σ Q (.ref s.heap.objs.size) {s with heap:=h'}:=fun its r' hz h' c' kp e=>
  ⟨.ref s.heap.objs.size,_,I.laid (t':=s.toks) kp (B7 _) (show dO X.prog X.w _ h' _ (.lst ys)from⟨hz,its,c',r',e⟩),rfl,q _ (I.hok.fresh (B7 _))⟩
 rcases hq with hq | hq
 ·A7⟨its,r',pl,hz⟩:=I.list hq
  have hlen:=r'.length
  A7⟨o,ho,hc,n,hd⟩:=pl.isList
  ~call_list_seq p (.inl rfl) ho hc hd (fun h' c' kp e=>fin its r' hz h' c' kp e) (by simp only[B3]<;>omega)
 ·A7⟨its,r',pl,hz⟩:=I.tuple hq
  have hlen:=r'.length
  A7⟨o,ho,hc,n,hd⟩:=pl
  ~call_list_seq p (.inr rfl) ho hc hd (fun h' c' kp e=>fin its r' hz h' c' kp e) (by simp only[B3]<;>omega)
A9 uJ:eO X (.type "tuple") (fun xs H Q=>∃p ys,xs=[.ref p]∧((iH X.K H p ys∧∀l,H l=none→Q (.ref l) (upd H l (.tup ys)))∨(lB X.K H p ys∧Q (.ref p) H))):=by
 intro pins s σ H xs us Q I r h
 A7⟨p,ys,rfl,h⟩:=h
 A7⟨u,rfl,rx⟩:=vals1 r
 cases rx
 rcases h with ⟨hq,q⟩ | ⟨hq,q⟩
 ·A7⟨its,r',pl,hz⟩:=I.list hq
  have hlen:=r'.length
  &call_tuple_list pl.isList (fun h' kp=>?_) (by simp only[B3]<;>omega)
  have I1:Inv X pins σ H {s with heap:=h'}:=I.kept (t':=s.toks) kp
  have I2:Inv X pins σ (upd H h'.objs.size (.tup ys)) {s with heap:=h'.push {cls:=.type "tuple", data:=.seq its.toArray}}:=
   I1.laid (t':=s.toks) (fun b o e=>Heap.get?_push_of_some _ e) (B7 _) (show dO X.prog X.w _ _ _ (.tup ys)from⟨hz,its,r',IsTup.new _ _⟩)
  ~⟨.ref h'.objs.size,_,I2,rfl,q _ (I1.hok.fresh (B7 _))⟩
 ·A7⟨its,r',pl,hz⟩:=I.tuple hq
  ~call_tuple_same pl ⟨.ref p,H,I,rfl,q⟩
def IV(K:aA)(T:String)(x:V)(H:Hp):Prop:=match x with
 | .str _=>T = "str"
 | .int _=>T = "int"
 | .ref p=>(T = "list" ∧ ∃xs,iH K H p xs)∨(T = "tuple" ∧ ∃o,K.lookup p=some o∧o.cls=.type "tuple" ∧ o.dict=none) ∨
   (T = "dict" ∧ ((∃kvs,H p=some (.dK kvs))∨∃kvs,H p=some (.dT kvs)))∨(T = "set" ∧ ∃S n,H p=some (.set S n))
 | _=>False
A9 Ka{pins:List (Addr×Obj)}{σ:St}{H:Hp}{s:Shared}{T:String}{x:V}{v:Value}(I:Inv X pins σ H s)(r:RelV x v)(ty:IV X.K T x H) :
  s.TypeIs v T∧∀a,v=.ref a→∃ob,s.heap.get? a=some ob∧ob.dict=none:=by
 cases x with
 | str z=>
  A7⟨t,rfl⟩:=r
  cases(show T = "str" from ty)
  ~⟨typeIs_str s z t,fun _ e=>nomatch e⟩
 | int i=>
  A7⟨t,rfl⟩:=r
  cases(show T = "int" from ty)
  ~⟨typeIs_int s i t,fun _ e=>nomatch e⟩
 | ref p=>
  cases r
  rcases ty with ⟨rfl,xs,hq⟩ | ⟨rfl,o,hk,hc,hd⟩ | ⟨rfl,hk⟩ | ⟨rfl,S,n,hk⟩
  ·A7⟨its,_,pl,_⟩:=I.list hq
   &⟨pl.isList.typeIs,fun a e=>?_⟩
   cases e
   A7⟨o,n,e,c,hd,_⟩:=pl
   ~⟨o,e,hd⟩
  ·&⟨⟨o,I.wO p o hk,hc⟩,fun a e=>?_⟩
   cases e
   ~⟨o,I.wO _ o hk,hd⟩
  ·have z:∃o,s.heap.get? p=some o∧o.ExactDict:=by
    rcases hk with ⟨kvs,hk⟩ | ⟨kvs,hk⟩
    ·A7⟨_,_,_,_,o,_,_,e,ex,_⟩:=I.hok p _ hk
     ~⟨o,e,ex⟩
    ·A7⟨_,_,_,_,o,_,_,e,ex,_⟩:=I.hok p _ hk
     ~⟨o,e,ex⟩
   A7⟨o,e,ex⟩:=z
   &⟨⟨o,e,ex.1⟩,fun a e2=>?_⟩
   cases e2
   ~⟨o,e,ex.2.1⟩
  ·A7⟨o,_,_,_,e,ex,_⟩:=I.hok p _ hk
   &⟨⟨o,e,ex.1⟩,fun a e2=>?_⟩
   cases e2
   ~⟨o,e,ex.2.1⟩
 | _=>~False.elim ty
def Px(K:aA)(T:String)(r:V→List V→Hp→VK→Prop)(to:TE):TE:=fun σ H Q=>to σ H fun x H1=>IV K T x H1∧r x [] H1 Q
def Hq(K:aA)(T:String)(r:V→List V→Hp→VK→Prop)(to:TE)(t:TA):TE:=fun σ H Q=>to σ H fun x H1=>IV K T x H1∧t σ H1 fun xs H2=>r x xs H2 Q
variable{o e:Expr}{es:List Expr}{to:TE}{t:TA}{name:Str}{apos cpos:Pos}{T id:String}{r:V→List V→Hp→VK→Prop}
A9 Wd(pa:PlainAttrs T)(slot:Slot T name id)(hty:typeOf (.builtin id)=pure (.type "method_descriptor")) (hm:Zj X id r) (ho:PE X o to)
  (hbase:attributeBase o name X.env (eval o X.env)=eval o X.env:=by rfl) (hline:(apos.endLine==cpos.line)=true:=by rfl):PE X (.Call (.Attribute o name apos) [] [] cpos) (Px X.K T r to):=by
 intro pins s σ H Q I h
 &wpAny_Call_method0_late hbase hline (dW (ho pins s σ H _ I h) fun v s1 ⟨x,H1,I1,r1,ty,q1⟩=>?_)
 A7⟨h1,h2⟩:=Ka I1 r1 ty
 ~⟨T,id,pa,slot,hty,h1,h2,Calls.callWith_builtin rfl (PySem.evalArgs_none (hm pins s1 σ H1 x [] v [] Q I1 r1 .nil q1))⟩
A9 gG(pa:PlainAttrs T)(slot:Slot T name id)(hty:typeOf (.builtin id)=pure (.type "method_descriptor")) (hm:Zj X id r) (ho:PE X o to) (ha:PA X (e::es) t)
  (hbase:attributeBase o name X.env (eval o X.env)=eval o X.env:=by rfl)
  (hfew:((backTo cpos (starEach (e::es) X.env)).all (fun x=>!x.1)&&(backToKw cpos (keywordEach [] X.env)).all (fun x=>x.1.isSome)
   && decide ((e::es).length+([]:List Keyword).length+(if([]:List Keyword).isEmpty then 0 else 1)<30))=true:=by rfl)
  (hline:(apos.endLine==cpos.line)=true:=by rfl) (hs:starEach (e::es) X.env=(false,eval e X.env)::starEach es X.env:=by rfl) (hplain:(backTo cpos (starEach es X.env)).any (·.1)=false:=by rfl) :
  PE X (.Call (.Attribute o name apos) (e::es) [] cpos) (Hq X.K T r to t):=by
 intro pins s σ H Q I h
 &wpAny_Call_method_late hbase hfew hline rfl (dW (ho pins s σ H _ I h) fun v s1 ⟨x,H1,I1,r1,ty,q1⟩=>?_)
 A7⟨h1,h2⟩:=Ka I1 r1 ty
 &⟨T,id,pa,slot,hty,h1,h2,?_⟩
 have hA:=ha cpos pins s1 σ H1 _ I1 q1
 rw[hs]at hA ⊢
 &Calls.callWith_builtin (by show (false||(backTo cpos (starEach es X.env)).any (·.1))=false;rw[hplain]<;>rfl) (Calls.evalArgs_plain ?_)
 ~dW hA fun us s2 ⟨vs,H2,I2,r2,q2⟩=>hm pins s2 σ H2 x vs v us Q I2 r1 r2 q2
end
end L2
namespace L2
open PySem PySem.Spec PyProof.Rows
def MT(X:Cx)(id:String)(r:V→List V→Hp→VK→Prop):Prop:=
 ∀(pins:List (Addr×Obj))(s:Shared)(σ:St)(H:Hp)(x:V)(xs:List V)(v:Value)(us:List Value)(Q:VK),Inv X pins σ H s→RelV x v→Vals xs us→r x xs H Q →
  wpAny (model X.prog X.w) X.A (call (.builtin id) (v::us)) (EP X pins σ Q) X.xe s
A9 Vals.one:∀{x:V} {us:List Value},Vals [x] us→∃u,us=[u]∧RelV x u
 | _,_,.cons r .nil=>⟨_,rfl,r⟩
A9 Vals.zero:∀{us:List Value},Vals [] us→us=[]
 | _,.nil=>rfl
section
variable{X:Cx}{pins:List (Addr×Obj)}{σ:St}{H:Hp}{s:Shared}{l b:Addr}{xs ys zs:List V}
A9 Inv.Zo{its its':List Value}{n:Nat}{f:Array Value→Array Value}{t':Nat}(I:Inv X pins σ H s)(hH:H l=some (.lst xs))
  (e:s.heap.get? l=some {cls:=.type "list", data:=.seq its.toArray n}) (hf:f its.toArray=its'.toArray) (hv:Vals ys its') (hz:ys.length≤sizeLine) :
  Inv X pins σ (upd H l (.lst ys)) {s with heap:=s.heap.update l (Obj.mapSeq f),toks:=t'}:=by
 have q:=PySem.IsL.update e f
 rw[hf]at q
 &I.write (x:=l) (e:=l) (by rw[hH];~trivial) (.inl rfl) (fun b' u hb hu=>(Heap.get?_update_other s.heap (Obj.mapSeq f) (Ne.symm hb)).trans hu) ⟨_,q⟩ ?_
 ~⟨hz,its',_,hv,q⟩
A9 Inv.Kc{its:List Value}{t':Nat}(I:Inv X pins σ H s)(hv:Vals ys its)(hz:ys.length≤sizeLine) :
  Inv X pins σ (upd H s.heap.objs.size (.lst ys)) {s with heap:=s.heap.push {cls:=.type "list", data:=.seq its.toArray},toks:=t'}:=
 I.laid (fun _ _ q=>Heap.get?_push_of_some _ q) (B7 _) ⟨hz,its,0,hv,Heap.get?_push_size _ rfl⟩
A9 Inv.fresh(I:Inv X pins σ H s):H s.heap.objs.size=none:=I.hok.fresh (B7 _)
A9 Inv.Zq(I:Inv X pins σ H s)(hH:H l=some (.lst xs)):xs.length≤sizeLine∧∃(its:List Value)(n:Nat),Vals xs its∧xs.length=its.length∧s.heap.get? l=some {cls:=.type "list", data:=.seq its.toArray n}:=by
 A7⟨z,its,n,r,e⟩:=I.hok l _ hH
 ~⟨z,its,n,r,r.length,e⟩
end
section
variable{X:Cx}
def jE:V→List V→Hp→VK→Prop:=fun x vs H Q=>∃l xs y,x=.ref l∧vs=[y]∧H l=some (.lst xs)∧xs.length<sizeLine∧Q .non (upd H l (.lst (xs++[y])))
A9 gA:MT X "list.append" jE:=by
 intro pins s σ H x vs v us Q I rx rv h
 A7⟨l,xs,y,rfl,rfl,hH,hz,q⟩:=h
 cases rx
 A7⟨u,rfl,ru⟩:=rv.one
 A7⟨z,its,n,r,hl,e⟩:=I.Zq hH
 &call_meets F.slot_list_append ⟨_,e,rfl⟩ F.entry_list_append (F.args_list_append_2 _ _) (PySem.list_append l its.toArray n u (by rw[B3];omega)) ⟨e,?_⟩
 &⟨.non,_,I.Zo (its':=its++[u]) hH e (by simp) (r.append (.cons ru .nil)) ?_,rfl,q⟩
 rw[D2,F7]
 omega
def xH:V→List V→Hp→VK→Prop:=fun x vs H Q=>∃l xs,x=.ref l∧vs=[]∧H l=some (.lst xs)∧Q .non (upd H l (.lst []))
A9 Kd:MT X "list.clear" xH:=by
 intro pins s σ H x vs v us Q I rx rv h
 A7⟨l,xs,rfl,rfl,hH,q⟩:=h
 cases rx
 have hus:=rv.zero
 subst hus
 A7⟨z,its,n,r,hl,e⟩:=I.Zq hH
 &call_meets F.slot_list_clear ⟨_,e,rfl⟩ F.entry_list_clear (F.args_list_clear_1 _) (AutoSeq1.list_clear_list_0 l its.toArray n (by rw[B3];omega)) ⟨e,?_⟩
 ~⟨.non,_,I.Zo (its':=[]) (ys:=[]) hH e rfl .nil (L4 _),rfl,q⟩
end
section
variable{prog:Program}{w:World}{A:Around}{E:Value→Shared→Prop}{s:Shared}
end
section
variable{X:Cx}
end
end L2
namespace L2
open PySem PySem.Spec PyProof.Rows
section
variable{κ:Type} [DecidableEq κ]
def Hr(kvs:List (κ×V))(k:κ):Option V:=(kvs.find? fun kv=>decide (kv.1=k)).map (·.2)
def putK(kvs:List (κ×V))(k:κ)(v:V):List (κ×V):=
 if(kvs.any fun kv=>decide (kv.1=k))=true then kvs.map (fun kv=>if kv.1=k then(kv.1,v)else kv)else kvs++[(k,v)]
def NB(kvs:List (κ×V))(k:κ):List (κ×V):=kvs.filter fun kv=>decide (kv.1≠k)
end
abbrev KT(H:Hp):List (List Key×V)→List (List Key×Addr×Value)→Prop:=Paired fun p q=>p.1=q.1∧H q.2.1=some (.tup (p.1.map kV))∧RelV p.2 q.2.2
section
variable{P:Program}{w:World}{H:Hp}{h:Heap}{a:Addr}
end
def QC(H:Hp)(a:Addr)(y:V)(r:Option V):Prop:=
 (∃kvs k,Rd H a (.dK kvs)∧y=kV k∧r=Hr kvs k)∨∃kvs k b,Rd H a (.dT kvs)∧y=.ref b∧H b=some (.tup (k.map kV))∧r=Hr kvs k
def QD(H:Hp)(a:Addr)(y v:V)(H':Hp):Prop:=
 (∃kvs k,H a=some (.dK kvs)∧y=kV k∧kvs.length<sizeLine∧H'=upd H a (.dK (putK kvs k v))) ∨
 ∃kvs k b,H a=some (.dT kvs)∧y=.ref b∧H b=some (.tup (k.map kV))∧kvs.length<sizeLine∧H'=upd H a (.dT (putK kvs k v))
section
variable{X:Cx}{pins:List (Addr×Obj)}{σ:St}{H:Hp}{s:Shared}{a:Addr}{y v:V}{u r:Value}{o:Option V}{A:Around}{E:Value→Shared→Prop}
end
section
variable{X:Cx}{pins:List (Addr×Obj)}{σ:St}{H:Hp}{s:Shared}{a:Addr}{kvs:List (Key×V)}{k:Key}{u:Value}{A:Around}{E:Value→Shared→Prop}
end
section
variable{X:Cx}{o i e value:Expr}{pos pos' tpos:Pos}{td ty tv:TE}
end
section
variable{X:Cx}{pos:Pos}
end
def Cp:List (TE×TE)→St→Hp→(List (V×V)→Hp→Prop)→Prop
 | [],_,H,Q=>Q [] H
 | (tk,tv)::r,σ,H,Q=>tk σ H fun x H1=>tv σ H1 fun y H2=>Cp r σ H2 fun ps H3=>Q ((x,y)::ps) H3
abbrev VV:List (V×V)→List (Value×Value)→Prop:=Paired fun p q=>RelV p.1 q.1∧RelV p.2 q.2
def QF(X:Cx)(pos:Pos)(keys:List (Option Expr))(values:List Expr)(QG:List (TE×TE)):Prop:=
 ∀(pins:List (Addr×Obj))(s:Shared)(σ:St)(H:Hp)(Q:List (V×V)→Hp→Prop),Inv X pins σ H s→Cp QG σ H Q →
  wpAny (model X.prog X.w) X.A (evalPairs (pairTrees keys values X.env pos)) (fun vs s'=>∃ps H',Inv X pins σ H' s'∧VV ps vs∧Q ps H') X.xe s
structure M1(X:Cx)(o:Expr)(m:Str)(apos:Pos)(e:Expr)(cpos:Pos):Prop where
 base:attributeBase o m X.env (eval o X.env)=eval o X.env
 few:((backTo cpos (starEach [e] X.env)).all (fun x=>!x.1)&&(backToKw cpos (keywordEach [] X.env)).all (fun x=>x.1.isSome)
  && decide (([e]:List Expr).length+([]:List Keyword).length+(if([]:List Keyword).isEmpty then 0 else 1)<30))=true
 line:(apos.endLine==cpos.line)=true
 trees:backTo cpos (starEach [e] X.env)=[(false,eval e X.env)]
structure M2(X:Cx)(o:Expr)(m:Str)(apos:Pos)(e f:Expr)(cpos:Pos):Prop where
 base:attributeBase o m X.env (eval o X.env)=eval o X.env
 few:((backTo cpos (starEach [e,f] X.env)).all (fun x=>!x.1)&&(backToKw cpos (keywordEach [] X.env)).all (fun x=>x.1.isSome)
  && decide (([e,f]:List Expr).length+([]:List Keyword).length+(if([]:List Keyword).isEmpty then 0 else 1)<30))=true
 line:(apos.endLine==cpos.line)=true
 trees:backTo cpos (starEach [e,f] X.env)=[(false,eval e X.env),(false,eval f X.env)]
section
variable{X:Cx}{pins:List (Addr×Obj)}{σ:St}{H:Hp}{s:Shared}{a:Addr}{y d:V}{u r:Value}{o:Option V}{A:Around}{E:Value→Shared→Prop}
end
section
variable{X:Cx}{o e f:Expr}{apos cpos:Pos}{td ty tx:TE}
end
section
variable{X:Cx}{pins:List (Addr×Obj)}{σ:St}{H:Hp}{s:Shared}{a:Addr}{kvs:List (Key×V)}{A:Around}{E:Value→Shared→Prop}
end
section
variable{X:Cx}{pins:List (Addr×Obj)}{σ:St}{H:Hp}{s:Shared}{a:Addr}{y:V}{u:Value}{A:Around}{E:Value→Shared→Prop}
end
end L2
namespace Att
open PySem PySem.W PySem.Calls PyProof.Rows
A9 qO{P:Params}{h:Heap}:∀(ns:List Int)(vs:List Value),WellAll P h vs (ns.map WData.int)→IntsAre vs ns:=by
 intro ns
 induction ns with
 | nil=>
  intro vs w
  rw[G1]at w
  cases w
  ~.nil
 | cons n ns ih=>
  intro vs w
  rw[C9]at w
  cases w with
  | cons a b=>
   cases a
   ~.cons _ _ (ih _ b)
A9 Hs{l:OpenLaw}{n:Nat}(hn:l.most=some n){P:Params}{h:Heap}{args:List WData}{vals:List Value}
  (hpre:l.row.toRowW.claim.pre args=true) (hwl:WellAll P h vals args) :
  ∃a vs ns,vals=[Value.ref a]∧args=[WData.list (ns.map WData.int)]∧h.get? a=some {cls:=.type "list", data:=.seq vs.toArray}∧IntsAre vs ns∧ns.length≤n:=by
 have hsh:WShape.hasAll [] args [.list .int]=true:=(pre_splitW hpre).1
 have hc:l.pre.holds [] {args:=args}=true:=(pre_splitW hpre).2
 A7⟨d,r,rfl,h1,h2⟩:=hasAllW_cons hsh
 A7 rfl:=hasAllW_nil h2
 A7⟨xs,rfl,h3⟩:=hasW_list h1
 A7⟨ns,rfl⟩:=items_int h3
 have hlen:ns.length≤n:=by
  A8 OpenLaw.pre at hc
  have h4:(WTm.not (.lt (.lit (.int (n:Int))) (.len (.arg 0)))).holds [] {args:=[.list (ns.map .int)]}=true:=by
   have h4:=(holds_andW hc).1
   rw[hn]at h4
   ~h4
  have h5:=condW_of h4 (w_not (w_lt w_lit (w_len_list (w_arg rfl))))
  rw[B6]at h5
  &Nat.le_of_not_lt fun q=>?_
  have q':(n:Int)<((ns.length:Nat):Int):=by omega
  first
   | (rw[decide_eq_true q']at h5;~absurd h5 A5)
   | (simp at h5;omega)
 cases hwl with
 | cons w1 w2=>
  cases w2
  cases w1 with
  | list ho hall=>~⟨_,_,ns,rfl,rfl,ho,qO ns _ hall,hlen⟩
A9 Ht(l:OpenLaw)(args:List WData):l.row.toRowW.claim.post args (.bool true) args=true:=
 postW_of (r:=l.row.toRowW) (X:=(true==true))
  (show WShape.has [] (.bool true) .bool=true by first | rfl | decide | simp[WShape.has,WShape.arms,WShape.armsAll])
  (show (WTm.eq .res (.lit (.bool true))).value [] {args:=args,res:=some (.bool true),after:=args}=some (.bool (true==true))from w_eq_bool (w_res rfl) w_lit) rfl
A9 Ab{l:OpenLaw}{n:Nat}{q:Program}{loose:List Str}{XP:(Str→Option Value)→Heap→Prop}{YP:World→Heap→Prop}{d:DefRec}
  (hn:l.most=some n) (hdf:d.params.defaults=[])
  (call:∀(w:World)(s₀ s₁:Shared)(mg mb:Str→Option Value)(fa:Addr)(o:Obj)(pm cd doc:Value)(a:Addr)(vs:List Value)(ns:List Int),
   Ground q loose [] XP w s₀ mg mb s₁.heap→YP w s₁.heap →
   s₁.heap.get? fa=some o→o.data=.func (docDef d.name d.params d.body d.scope pm cd doc)→s₁.heap.CodeRec cd d.name→mg d.name=some (.ref fa) →
   s₁.heap.get? a=some {cls:=.type "list", data:=.seq vs.toArray}→IntsAre vs ns→ns.length≤n→s₁.gens=#[] →
   codeAny (model l.prog w) callerA (.call (.ref fa) ⟨[.ref a],[]⟩) (fun r s'=>r=.ok (.ret (.bool true))∧OldK s₁.heap s'.heap∧s'.os=s₁.os∧AllBare s'.gens) s₁) :
  WalkO q loose XP YP l.row.toRowW d [] (fun f vs=>R1 f vs):=by
 intro w s₀ s₁ mg mb G Y fa o pm cd doc dV kV ho hd hcd hD hmg hg args vals as hpre hlay hrd hwl hlo
 A7 rfl:dV=.none:=Dflts.none hD hdf
 A7 rfl:kV=.none:=Dflts.noKw hD
 A7⟨a,vs,ns,rfl,rfl,hobj,hints,hlen⟩:=Hs hn hpre hwl
 &enter_call (codeAny_mono (call w s₀ s₁ mg mb fa o pm cd doc a vs ns G Y ho (fd_plain hd) hcd hmg hobj hints hlen hg) fun r s' hq=>?_)
 A7⟨rfl,h2,h3,h4⟩:=hq
 ~⟨.inl ⟨.bool true,.bool true,[],rfl,fun _=>rfl,.bool true,Ht l _,fun _=>⟨List.Pairwise.nil,fun _ hm=>(nomatch hm)⟩⟩,h2,h3,h4⟩
section
variable{prog:Program}{w:World}{A:Around}{E:Value→Shared→Prop}{s:Shared}{K:Frag}
end
end Att
namespace L2
open PySem PySem.Spec PyProof.Rows
A9 vI:∀{vs:List Value} {ns:List Int},IntsAre vs ns→Vals (ns.map V.int) vs
 | _,_,.nil=>.nil
 | _,_,.cons n t h=>.cons ⟨t,rfl⟩ (vI h)
def Only(H:Hp):Prop:=∀b,H b=none∨∃o xs,H b=some (.oX o (.lst xs))
A9 Ke{P:Program}{w:World}{K:aA}{mg mb:Str→Option Value}{CX:Jx}{k:Nat}{fa a:Addr}{fd:FuncData}{x:Str}{sp:Sp}{s₁:Shared}{vs:List Value}{ns:List Int}
  (KX:K.In s₁.heap) (hns:s₁.heap.Ns mainGlobals mg) (hb:s₁.heap.Ns builtinsNs mb) (hbb:∀x:Str,x ≠ "__name__" → mb x=bootBuiltins x) (hlim:s₁.heap.NoLimit) (hg:s₁.gens=#[])
  (ha:s₁.heap.get? a=some {cls:=.type "list", data:=.seq vs.toArray}) (hi:IntsAre vs ns) (hl:ns.length≤sizeLine) (hr:gF k callerA)
  (F:∀base:Heap,K.In base→base.Ns mainGlobals mg→rG P w K mg base CX k fa fd [x] sp) (hbind:∀(s:Shared)(u:Value),BindsTo s fd ⟨[u],[]⟩ [(x,u)])
  (hsp:∀H:Hp,Only H→iH K H a (ns.map V.int)→sp [.ref a] H (fun v _=>v=.bl true) fun _ _ _=>False)
  (IW:∀H e s',CX [] H s₁ (fun _ _ _=>False) e s'→False) :
  codeAny (model P w) callerA (.call (.ref fa) ⟨[.ref a],[]⟩) (fun r s'=>r=.ok (.ret (.bool true))∧OldK s₁.heap s'.heap∧s'.os=s₁.os∧AllBare s'.gens) s₁:=by
 have rv:=vI hi
 have lenV:=hi.length
 have core:∀H:Hp,Only H→iH K H a (ns.map V.int)→qM P w H s₁.heap→(∀b,H b≠none→b=a)→(H a≠none→K.lookup a=none) →
   codeAny (model P w) callerA (.call (.ref fa) ⟨[.ref a],[]⟩) (fun r s'=>r=.ok (.ret (.bool true))∧OldK s₁.heap s'.heap∧s'.os=s₁.os∧AllBare s'.gens) s₁:=by
  intro H hO hS hok hA hK
  have Ez:∀{b:Addr} {o:Obj},s₁.heap.get? b=some o→H b=none→(wN s₁.heap H).get? b=some o:=fun e n=>Jf e n
  have Zh:∀{b:Addr} {o:Obj} {es:Array DictEntry} {ep:Nat},s₁.heap.get? b=some o→o.data=.dict es ep→H b=none:=fun{b o es ep} e d=>by
   cases q:H b with
   | none=>rfl
   | some u=>
    have e':b=a:=hA b (by rw[q];simp)
    subst e'
    rw[ha]at e;cases e
    have d':Data.seq vs.toArray _=Data.dict es ep:=d
    cases d'
  have GD:∀{b:Addr} {m:Str→Option Value},s₁.heap.Ns b m→(wN s₁.heap H).Ns b m:=fun{b m} ⟨o,es,ep,e,d,r⟩=>⟨o,es,ep,Ez e (Zh e d),d,r⟩
  have NK:K.In (wN s₁.heap H):=fun b o e=>Ez (KX b o e) (by
   cases q:H b with
   | none=>rfl
   | some u=>
    have e':b=a:=hA b (by rw[q];simp)
    subst e'
    rw[hK (by rw[q];simp)]at e;cases e)
  have hM:Mod K mg (wN s₁.heap H):=⟨NK,GD hns,⟨mb,GD hb,hbb⟩,let ⟨mc,h1,h2⟩:=hlim;⟨mc,GD h1,h2⟩⟩
  have e0:Pb P w K mg (wN s₁.heap H) callerA [] s₁ H:=⟨rfl,hM,fun b o e=>Oj e,Nat.le_of_eq (Gx _ _),trivial,fun b hb=>absurd (show b∈([]:List Addr)from hb) (by simp),hok,.of_eq hg⟩
  &codeAny_mono ((F _ NK (GD hns)).run callerA [] s₁ H ⟨[.ref a],[]⟩ [.ref a] [.ref a] _ _ hr e0 (hbind s₁ (.ref a)) (.cons rfl .nil) (hsp H hO hS)) fun r s' h=>?_
  cases r with
  | error e=>~(IW H e s' h).elim
  | ok fl=>
   cases fl with
   | next=>~False.elim h
   | brk=>~False.elim h
   | cont=>~False.elim h
   | ret u=>
    A7⟨v,H',os,bare,un,hok',r',q⟩:=h
    have q':v=.bl true:=q
    subst q'
    A7 rfl:u=Value.bool true:=r'
    &⟨rfl,OldK.of_keep fun b o e=>?_,os,bare⟩
    cases q:H b with
    | none=>~un.keep b o e q (by intro z;~absurd (show b∈([]:List Addr)from z) (by simp)) (by simp)
    | some u=>
     rcases hO b with z | ⟨ob,xs,z⟩
     ·rw[q]at z;cases z
     ·have z2:=un.wM b ob _ z
      A7⟨e1,_⟩:=hok b _ z
      A7⟨e2,_⟩:=hok' b _ z2
      rw[e]at e1;cases e1
      ~e2
 cases hk:K.lookup a with
 | some o=>
  have e:=KX a o hk
  rw[ha]at e
  cases e
  &core (fun _=>none) (fun _=>.inl rfl) (.inr ⟨_,vs.toArray,_,hk,rfl,rfl,rfl,by rw[B3,lenV];~hl,by simpa using rv⟩) (fun b u z=>by have z':(none:Option HO)=some u:=z;cases z') (fun b z=>absurd rfl z) fun z=>absurd rfl z
 | none=>
  &core (fun b=>if b=a then some (.oX {cls:=.type "list", data:=.seq vs.toArray} (.lst (ns.map V.int)))else none) (fun b=>?_) (.inl (.inr ⟨{cls:=.type "list", data:=.seq vs.toArray},if_pos rfl⟩)) (fun b u z=>?_) (fun b z=>?_) fun _=>hk
  ·by_cases hb:b=a
   ·~.inr ⟨_,_,if_pos hb⟩
   ·~.inl (if_neg hb)
  ·by_cases hb:b=a
   ·have z':=(if_pos hb).symm.trans z
    cases z'
    subst hb
    ~⟨ha,by rw[B6];~hl,vs,_,rv,ha⟩
   ·have z':=(if_neg hb).symm.trans z
    cases z'
  ·by_cases hb:b=a
   ·~hb
   ·~absurd (if_neg hb) z
end L2
namespace L2
open PySem PySem.Spec PyProof.Rows
A9 Py{l:R3}{n k:Nat}{q:Program}{loose:List Str}{XP:(Str→Option Value)→Heap→Prop}{YP:World→Heap→Prop}{d:DefRec}{K:Params→aA}{CX:World→Jx}{sp:World→Sp}{x:Str}
  (hn:l.most=some n) (hn2:n≤sizeLine) (hdf:d.params.defaults=[]) (hr:gF k callerA)
  (hY:∀(w:World)(h:Heap),YP w h→(K w.params).In h)
  (F:∀(w:World)(mg:Str→Option Value)(fa:Addr)(h:Heap),(K w.params).In h→h.Ns mainGlobals mg→mg d.name=some (.ref fa) →
   ∃fd:FuncData,(∀(s:Shared)(u:Value),BindsTo s fd ⟨[u],[]⟩ [(x,u)]) ∧
    ∀base:Heap,(K w.params).In base→base.Ns mainGlobals mg→rG l.prog w (K w.params) mg base (CX w) k fa fd [x] (sp w))
  (hsp:∀(w:World)(H:Hp)(a:Addr)(ns:List Int),ns.length≤n→Only H→iH (K w.params) H a (ns.map V.int)→sp w [.ref a] H (fun v _=>v=.bl true) fun _ _ _=>False)
  (IW:∀(w:World)(H:Hp)(s:Shared)(e:Value)(s':Shared),CX w [] H s (fun _ _ _=>False) e s'→False) :
  R7 q loose XP YP l.row.toRowW d [] (fun f vs=>R1 f vs):=by
 &Att.Ab hn hdf fun w s₀ s₁ mg mb fa o pm cd doc a vs ns G Y ho hd hcd hmg hobj hints hlen hg=>?_
 have KX:=hY w _ Y
 A7⟨fd,hb,hF⟩:=F w mg fa _ KX G.T.g hmg
 ~Ke KX G.T.g G.T.b G.T.builtins G.T.nolimit hg hobj hints (D9 hlen hn2) hr hF hb (fun H hO hS=>hsp w H a ns hlen hO hS) fun H e s'=>IW w H s₁ e s'
end L2
namespace L2
open PySem PySem.Spec PyProof.Rows
def cW(s:Stmt):Arguments:=match s with
 | .FunctionDef _ a _ _ _ _ _ _ _ _=>a
 | _=>{posonlyargs:=[],args:=[],vararg:=none,kwonlyargs:=[],kw_defaults:=[],kwarg:=none,defaults:=[]}
def bN(s:Stmt):List Stmt:=match s with
 | .FunctionDef _ _ b _ _ _ _ _ _ _=>b
 | _=>[]
def aF(s:Stmt):Scope:=match s with
 | .FunctionDef _ _ _ _ _ _ sc _ _ _=>sc
 | _=>{kind:=.function,names:=[],isGenerator:=false,isCoroutine:=false}
abbrev Jd:Jx:=fun _ _ _ _ _ _=>False
abbrev E0:XK:=fun _ _ _=>False
A9 Zr{X:Cx}:Passes Jd X E0:=fun _ _ _ _ _ _ _ h=>h.elim
structure Oh(K:aA)(x qual:Str)(st:Stmt)(f:Addr)(fd:FuncData):Prop where
 ex:∃(oc:Value)(od:Option Addr)(kV doc pm:Value)(an:Option Addr)(cdv ct:Value)(osl:Array (Option Value)),
  fd=E2 x qual (cW st) (bN st) (aF st) .none kV doc pm an cdv ct∧K.lookup f=some ⟨oc,od,.func fd,osl⟩∧J1 K cdv qual=true
 kp:F6 K (.ref f)=true
section
variable{P:Program}{w:World}{K:aA}{mg:Str→Option Value}{base:Heap}
A9 Oh.ok{x qual:Str}{st:Stmt}{f:Addr}{fd:FuncData}{N ps:List Str}{k:Nat}{sp:Sp}(F:Oh K x qual st f fd)(S:bA N ps (aF st))(len:∀vs H Q E,sp vs H Q E→vs.length=ps.length)
  (hbody:∀(cdv:Value)(A:Around)(outer:List Env)(s:Shared)(H:Hp)(vs:List V)(Q:VK)(E:XK),gF k (A.deeper (envOfC qual (aF st) s.heap.objs.size f cdv))→sp vs H Q E →
   ∃t,Es (wW Jd P w K mg base N qual (aF st) f cdv A outer s H E).Vg (bN st) t∧t {nx:=fun _ H'=>Q .non H',rt:=Q} (start N vs) H):rG P w K mg base Jd (k+1) f fd ps sp:=by
 A7⟨oc,od,kV,doc,pm,an,cdv,ct,osl,rfl,lk,hcd⟩:=F.ex
 &Zi lk hcd S len fun A outer s H vs Q E hr hsp=>?_
 A7⟨t,h,q⟩:=hbody cdv A outer s H vs Q E hr hsp
 ~⟨t,h.Vg,q⟩
A9 Oh.binds{x qual:Str}{st:Stmt}{f:Addr}{fd:FuncData}{ps:List Str}(F:Oh K x qual st f fd)
  (h:∀(kV doc pm:Value)(an:Option Addr)(cdv ct:Value)(us:List Value),us.length=ps.length→bindArgs (E2 x qual (cW st) (bN st) (aF st) .none kV doc pm an cdv ct) ⟨us,[]⟩=pure (ps.zip us)):Binds K fd ps []:=by
 A7⟨oc,od,kV,doc,pm,an,cdv,ct,osl,rfl,lk,hcd⟩:=F.ex
 ~.all (h kV doc pm an cdv ct)
A9 We{x qual:Str}{st:Stmt}{f:Addr}{oc:Value}{od an:Option Addr}{osl:Array (Option Value)}{kV doc pm cdv ct:Value}(l:K.lookup f=some ⟨oc,od,.func (E2 x qual (cW st) (bN st) (aF st) .none kV doc pm an cdv ct),osl⟩)
  (c:J1 K cdv qual=true) (k:F6 K (.ref f)=true):Oh K x qual st f (E2 x qual (cW st) (bN st) (aF st) .none kV doc pm an cdv ct):=⟨⟨oc,od,kV,doc,pm,an,cdv,ct,osl,rfl,l,c⟩,k⟩
end
A9 eQ{A:Around}{k:Nat}(hr:gF k A):A.units+1<cLine:=Nat.lt_of_le_of_lt (Nat.add_le_add_left (by decide:1≤64) _) hr.units
section
variable{X:Cx}
A9 pv(i:Nat){x:Str}{pos:Pos}(hN:X.N[i]?=some x:=by rfl)(hv:EY X.env.scope x:=by first | ~D5 rfl | ~D3 (D5 rfl) | ~D3 (D3 rfl))(hd:(x==("__debug__" : Str))=false:=by decide)
  (hcd:(x==("__classdict__" : Str))=false:=by decide):PE X (.Name x pos) (jA i):=Uw hN hv hd hcd
end
def aH(H H':Hp):Prop:=∀b o,H b=some o→H' b=some o
A9 aH.refl(H:Hp):aH H H:=fun _ _ h=>h
A9 aH.trans{H H1 H2:Hp}(a:aH H H1)(b:aH H1 H2):aH H H2:=fun c o h=>b c o (a c o h)
A9 aH.free{H H':Hp}(e:aH H H'){l:Addr}(h:H' l=S1):H l=S1:=by
 cases q:H l with
 | none=>rfl
 | some o=>
  rw[e l o q]at h
  cases h
A9 aH.seq{K:aA}{H H':Hp}{a:Addr}{xs:List V}(e:aH H H')(h:iH K H a xs):iH K H' a xs:=by
 rcases h with (h | ⟨o,h⟩) | h
 ·~.inl (.inl (e _ _ h))
 ·~.inl (.inr ⟨o,e _ _ h⟩)
 ·~.inr h
section
variable{κ:Type} [DecidableEq κ]
end
end L2


namespace L2
open PySem PySem.Spec PyProof.Rows
A9 mY(env:Env):∀(names:List (Str×NameKind))(acc:List (Str×Addr)),(∀x∈names,x.2=.free→∃c,env.cells.lookup x.1=some c) →
    ∃cl:List (Str×Addr),(forIn names acc (fun(x:Str×NameKind) (r:List (Str×Addr))=>(match x with
      | (name,kind)=>if(kind==.free)=true then do let c ←cellOf env name;pure (ForInStep.yield ((name,c)::r))else pure (ForInStep.yield r):Sem (ForInStep (List (Str×Addr))))))=pure cl ∧
      (∀x c,cl.lookup x=some c→(∃k,(x,k)∈names∧k=.free∧env.cells.lookup x=some c)∨acc.lookup x=some c) ∧
      (∀x,(x,NameKind.free)∈names→∃c,cl.lookup x=some c)∧(∀x c,acc.lookup x=some c→∃c',cl.lookup x=some c')
  | [],acc,_=>⟨acc,rfl,fun x c h=>.inr h,fun x h=>by simp at h,fun x c h=>⟨c,h⟩⟩
  | (n,k)::r,acc,h=>by
    rw[List.forIn_cons]
    by_cases hk:k=.free
    · subst hk
      A7⟨c,hc⟩:=h (n,.free) C6 rfl
      A7⟨cl,e,h1,h2,h3⟩:=mY env r ((n,c)::acc) fun x hx=>h x (B9 _ hx)
      &⟨cl,?_,fun x d hd=>?_,fun x hx=>?_,fun x d hd=>?_⟩
      · have e0:cellOf env n=pure c:=by A8 cellOf;rw[hc]
        simp only[beq_self_eq_true,if_true,e0,pure_bind]
        ~e
      · rcases h1 x d hd with ⟨k',m,q⟩ | q
        · ~.inl ⟨k',B9 _ m,q⟩
        · rw[K3]at q
          by_cases e:x==n
          · rw[e]at q
            have e':=eq_of_beq e
            subst e'
            cases q
            ~.inl ⟨.free,C6,rfl,hc⟩
          · have e':(x==n)=false:=by simpa using e
            rw[e']at q
            ~.inr q
      · rcases E4.mp hx with q | q
        · cases q
          ~h3 n c (by simp)
        · ~h2 x q
      · by_cases e:x==n
        · ~h3 x c (by rw[K3,e])
        · have e':(x==n)=false:=by simpa using e
          ~h3 x d (by rw[K3,e'];~hd)
    · A7⟨cl,e,h1,h2,h3⟩:=mY env r acc fun x hx=>h x (B9 _ hx)
      have hb:(k==NameKind.free)=false:=by simpa using hk
      &⟨cl,?_,fun x d hd=>?_,fun x hx=>?_,h3⟩
      · simp only[hb,Bool.false_eq_true,if_false,pure_bind]
        ~e
      · rcases h1 x d hd with ⟨k',m,q⟩ | q
        · ~.inl ⟨k',B9 _ m,q⟩
        · ~.inr q
      · rcases E4.mp hx with q | q
        · cases q
          ~absurd rfl hk
        · ~h2 x q
A9 mR(scope:Scope)(env:Env)(h:∀x∈scope.names,x.2=.free→∃c,env.cells.lookup x.1=some c) :
    ∃cl,closureFor scope env=pure cl∧(∀x c,cl.lookup x=some c→(x,NameKind.free)∈scope.names∧env.cells.lookup x=some c)∧∀x,(x,NameKind.free)∈scope.names→∃c,cl.lookup x=some c:=by
  A7⟨cl,e,h1,h2,_⟩:=mY env scope.names [] h
  &⟨cl,?_,fun x c hx=>?_,h2⟩
  · A8 closureFor
    ~(congrArg (fun t=>t >>= pure) e).trans (pure_bind _ _)
  · rcases h1 x c hx with ⟨k,m,rfl,q⟩ | q
    · ~⟨m,q⟩
    · simp at q
A9 xJ{scope:Scope}{env:Env}(hcell:∀y∈scope.names,y.2≠.cell){x:Str}(h:(relabel scope env).names.lookup x=some .cell∨(relabel scope env).names.lookup x=some .free):(x,NameKind.free)∈scope.names:=by
 have m:(x,NameKind.cell)∈(relabel scope env).names∨(x,NameKind.free)∈(relabel scope env).names:=by
  rcases h with h | h
  ·~.inl (F4 h)
  ·~.inr (F4 h)
 A8 relabel at m
 rcases m with m | m
 all_goals
  A7⟨⟨n,k⟩,hm,e⟩:=G6.mp m
  dsimp only at e
  split at e
  ·rename_i hc
   simp only[K4,beq_iff_eq]at hc
   cases e
   first
    | (rw[hc.1.1]at hm;~hm)
    | skip
  ·cases e
   first
    | ~hm
    | ~absurd rfl (hcell _ hm)
def cL(X:Cx)(scope:Scope)(N:List Str)(cl:List (Str×Addr))(fp:List Addr)(s:Shared)(H:Hp)(C:Addr):Cx where
 prog:=X.prog
 w:=X.w
 K:=X.K
 mg:=X.mg
 base:=X.base
 A:=X.A
 N:=N
 s₀:=s
 H₀:=H
 env:=compEnvC scope cl C X.env
 outer:=X.stack
 stack:=X.stack
 ex:=fp
 calm:=X.calm
 fn:=fun _=>false
 pn:=[]
 xe:=fun _ _=>False
def Cq(σ:St)(fr:List Nat):St:=fr.map fun i=>σ.getD i none
def blk(k:Nat)(σ:St)(fr:List Nat):St:=D7 k none++Cq σ fr
def Kp(k:Nat)(σ:St)(fr:List Nat)(σ2:St):Prop:=σ2.length=(blk k σ fr).length∧∀(j:Nat) v,(blk k σ fr)[j]?=some (some v)→σ2[j]?=some (some v)
def Yk(X:Cx)(ifs:List Expr)(t:TT):Prop:=
 ∀(pins:List (Addr×Obj))(s:Shared)(σ:St)(H:Hp)(Q:Bool→Hp→Prop),Inv X pins σ H s→t σ H Q →
  wpAny (model X.prog X.w) X.A (forIn ifs true fun c r=>if r=true then do let ok ←isTrue c X.env (eval c X.env);pure (ForInStep.yield ok)else pure (ForInStep.yield r)) (TP X pins σ Q) X.xe s
def Zt:TT:=fun _ H Q=>Q true H
A9 Pz{X:Cx}:Yk X [] Zt:=fun _ _ _ H _ I h=>wpAny_tests_nil ⟨H,I,h⟩
A9 mL{prog:Program}{w:World}{A:Around}{R:Result→Shared→Prop}{s:Shared}{elt target iter:Expr}{ifs:List Expr}{scope:Scope}{pos:Pos}{it acc:Value}{env:Env}(I:Nat→Shared→Prop)
  (turn:∀n s,I n s→wpAny (model prog w) A (pyNext it) (fun r s₁=>match r with
   | none=>R (.ok .next) s₁
   | some v=>wpAny (model prog w) A (letOwnedTupleGo target it v) (fun _ s₀=>wpAny (model prog w) A (assign target env v) (fun _ s₂=>
     wpAny (model prog w) A (forIn ifs true fun c r=>if r=true then do let ok ←isTrue c env (eval c env);pure (ForInStep.yield ok)else pure (ForInStep.yield r)) (fun ok s₃=>
      if ok=true then wpAny (model prog w) A (eval elt env) (fun x s₄=>
       wpAny (model prog w) A (call (.builtin "list.append") [acc,x]) (fun _ s₅=>∃m,m<n∧I m s₅) (fun _ _=>False) s₄) (fun _ _=>False) s₃
      else ∃m,m<n∧I m s₃) (fun _ _=>False) s₂) (fun _ _=>False) s₀) (fun _ _=>False) s₁) (fun _ _=>False) s)
  (n:Nat) (h:I n s) :
  codeAny (model prog w) A (.compLoop (.ListComp elt [⟨target,iter,ifs,0⟩] scope pos) 0 it acc env) R s:=by
 &codeAny_loop rfl I (fun n s hI=>?_) n h
 show wpAny _ A ((compTurn (.ListComp elt [⟨target,iter,ifs,0⟩] scope pos) 0 it acc env).onRaise (fun x=>do noteFrame x env;theTreesLotGoes x)) _ _ s
 &wpAny_noted ?_
 rw[compTurn_list]
 &wpAny_mono (E:=fun _ _=>False) ?_ (fun _ _ q=>q) fun _ _ x=>x.elim
 &wpAny_bind (wpAny_standAt (wpAny_bind (wpAny_mono (turn n s hI) (fun r s₁ h₁=>?_) fun _ _ h'=>h')))
 cases r with
 | none=>~wpAny_pure h₁
 | some v=>
  &wpAny_bind (wpAny_mono h₁ (fun _ s₀ h₀=>?_) fun _ _ h'=>h')
  &wpAny_bind (wpAny_mono h₀ (fun _ s₂ h₂=>wpAny_bind (wpAny_mono h₂ (fun ok s₃ h₃=>?_) fun _ _ h'=>h')) fun _ _ h'=>h')
  cases ok with
  | false=>~wpAny_pure ⟨rfl,h₃⟩
  | true=>
   ~wpAny_bind (wpAny_bind (wpAny_mono h₃ (fun x s₄ h₄=>wpAny_bind (wpAny_mono h₄ (fun _ s₅ h₅=>wpAny_pure (wpAny_pure ⟨rfl,h₅⟩)) fun _ _ h'=>h')) fun _ _ h'=>h'))
def Tu(J:It)(k:Nat)(fr:List Nat)(g:TG)(tc:TT)(te:TE)(σ:St)(H1:Hp)(Q:VK)(D:Addr):Prop:=∃W:Nat→Nat→List V→Hp→Prop,(∃m,W 0 m [] (upd H1 D (.lst []))) ∧
 ∀i m ys H,W i m ys H→H D=some (.lst ys)∧((J.stop i H∧Q (.ref D) H)∨(J.go i H∧∀x H',J.Yy i H x H'→g x (blk k σ fr) H' fun σ2 H2=>Kp k σ fr σ2∧tc σ2 H2 fun ok H3=>if ok=true then
  te σ2 H3 fun y H4=>H4 D=some (.lst ys)∧ys.length<sizeLine∧∃m',m'<m∧W (i+1) m' (ys++[y]) (upd H4 D (.lst (ys++[y])))else ∃m',m'<m∧W (i+1) m' ys H3))
def Ac(wi:TI)(k:Nat)(fr:List Nat)(g:TG)(tc:TT)(te:TE):TE:=fun σ H Q=>wi σ H fun J H1=>∀D,H1 D=none→Tu J k fr g tc te σ H1 Q D
def lD(scope zN:Scope):Scope:=
 {scope with names:=scope.names.map fun(n,k)=>if(k==.free&&zN.kind==.function&&zN.names.lookup n==some .cell)then(n,.cell)else(n,k)}
structure cQ(zN scope:Scope)(oN N:List Str)(k:Nat)(fr:List Nat):Prop where
 kind:scope.kind=.function
 cell:∀y∈scope.names,y.2≠.cell
 loc:∀y∈scope.names,y.2=.local→scope.names.lookup y.1=some .local
 free:∀y∈scope.names,y.2=.free→zN.names.lookup y.1=some .cell∨zN.names.lookup y.1=some .free
 len:N.length=k+fr.length
 slots:∀j∈E9 fr.length,oN[fr.getD j 0]?=N[k+j]?
 from_:∀x∈N.drop k,(x,NameKind.free)∈scope.names∧((lD scope zN).names.lookup x=some .cell∨(lD scope zN).names.lookup x=some .free)
def Kf(zN scope:Scope)(oN N:List Str)(k:Nat)(fr:List Nat):Bool:=
 decide (scope.kind=.function)&&decide (∀y∈scope.names,y.2≠.cell)&&decide (∀y∈scope.names,y.2=.local→scope.names.lookup y.1=some .local) &&
 decide (∀y∈scope.names,y.2=.free→zN.names.lookup y.1=some .cell∨zN.names.lookup y.1=some .free)&&decide (N.length=k+fr.length) &&
 decide (∀j∈E9 fr.length,oN[fr.getD j 0]?=N[k+j]?) &&
 decide (∀x∈N.drop k,(x,NameKind.free)∈scope.names∧((lD scope zN).names.lookup x=some .cell∨(lD scope zN).names.lookup x=some .free))
A9 cQ.of{zN scope:Scope}{oN N:List Str}{k:Nat}{fr:List Nat}(h:Kf zN scope oN N k fr=true):cQ zN scope oN N k fr:=by
 A8 Kf at h
 simp only[K4,decide_eq_true_eq]at h
 A7⟨⟨⟨⟨⟨⟨h1,h2⟩,h3⟩,h4⟩,h5⟩,h6⟩,h7⟩:=h
 ~⟨h1,h2,h3,h4,h5,h6,h7⟩
section
variable{X:Cx}
A9 Qa{k:Nat}{σ:St}{fr:List Nat}{i:Nat}{v:V}(h:(blk k σ fr)[i]?=some (some v)):∃j o,i=k+j∧fr[j]?=some o∧σ[o]?=some (some v):=by
 A8 blk at h
 by_cases hi:i<k
 ·rw[M5 (by simpa using hi),N3]at h
  rw[if_pos hi]at h
  cases h
 ·rw[L6 (by simpa using hi),O1]at h
  A8 Cq at h
  rw[C3]at h
  cases e:fr[i-k]? with
  | none=>rw[e]at h;cases h
  | some o=>
   rw[e]at h
   &⟨i-k,o,by omega,e,?_⟩
   have h:some (σ.getD o none)=some (some v):=h
   have h:=E1 h
   rw[F5]at h
   cases e2:σ[o]? with
   | none=>rw[e2]at h;cases h
   | some z=>rw[e2]at h;~congrArg some h
A9 Cr{pins:List (Addr×Obj)}{σ:St}{H:Hp}{s:Shared}{scope:Scope}{N:List Str}{k:Nat}{fr:List Nat}{cl:List (Str×Addr)}{fp:List Addr}{h₁:Heap}{tk:Nat}{m:Str→Option Value}
    (I:Inv X pins σ H s) (B:cQ X.env.scope scope X.N N k fr) (hf:∀b∈fp,uG X pins H b) (hfo:∀b∈fp,b<s.heap.objs.size)
    (hcl:∀x c,cl.lookup x=some c→(x,NameKind.free)∈scope.names∧X.env.cells.lookup x=some c) (Qc:∀x,(x,NameKind.free)∈scope.names→∃c,cl.lookup x=some c)
    (hn:h₁.Ns (s.heap.objs.size+1) m) (hs:Heap.SameBut (s.heap.objs.size+1) ((s.heap.push {cls:=.type "list", data:=.seq ([]:List Value).toArray}).push {cls:=.type "dict", data:=.dict #[]}) h₁) :
    Inv (cL X scope N cl fp s H (s.heap.objs.size+1)) [] (blk k σ fr) (upd H s.heap.objs.size (.lst [])) {s with heap:=h₁,toks:=tk}:=by
  have I3:=I.Kc (ys:=[]) (its:=[]) (t':=tk) .nil (L4 _)
  have hD:H s.heap.objs.size=none:=I.fresh
  have hC:H (s.heap.objs.size+1)=none:=I.hok.fresh (P9 _)
  have Yj:∀b o,(s.heap.push {cls:=.type "list", data:=.seq ([]:List Value).toArray}).get? b=some o→b≠s.heap.objs.size+1:=fun b o e=>by
    have:=Heap.lt_size e
    rw[Heap.size_push]at this
    ~D8 this
  have Tv:∀b o,(s.heap.push {cls:=.type "list", data:=.seq ([]:List Value).toArray}).get? b=some o→h₁.get? b=some o:=fun b o e=>
    hs.extBut b o (Yj b o e) (Heap.get?_push_of_some _ e)
  have kept:∀b o,s.heap.get? b=some o→h₁.get? b=some o:=fun b o e=>Tv b o (Heap.get?_push_of_some _ e)
  &⟨⟨I.ok.mod,B.kind,I.ok.glob,I.ok.blt,P9 _,fun x y c h1 h2=>I.ok.inj x y c (hcl x c h1).2 (hcl y c h2).2,fun x hx=>Qc x (xJ B.cell hx),fun x c h _=>(nomatch h),
      I.ok.hd,I.ok.frames,.inl rfl,fun b hb=>⟨?_,fun x c e=>(hf b hb).2.2.2.2.1 x c (hcl x c e).2⟩,fun b o e=>I.bs b o e,D9 I.ok.Tg I.sz,fun b o e hb=>?_,fun b hb hb2=>?_,I.stack,I.Ep⟩,
    rfl,I.bare,Un.laid kept (B7 _) hD,⟨m,hn,fun i x v h1 h2 h3=>?_⟩,fun x c e=>?_,?_,fun x c e=>?_,fun p hp=>absurd (show p∈([]:List (Addr×Obj))from hp) (by simp),?_,?_⟩
  · ~D8 (M3 (hfo b hb))
  · rcases(hf b hb).2.2.2.1 with z | z
    · ~I.ok.Jg b o e z
    · ~absurd (B5 (Heap.lt_size e) (D9 I.ok.Tg z)) (F0 _)
  · rcases E4.mp (I.wQ b hb2)with z | z
    · ~(hf b hb).2.1 z
    · ~(hf b hb).2.2.1 z
  · A7⟨j,o,rfl,h4,h5⟩:=Qa h2
    have h1:N[k+j]?=some x:=h1
    have hj:j<fr.length:=(B8.mp h4).1
    have hx:X.N[o]?=some x:=by
      have q:=B.slots j (I0.mpr hj)
      rw[F5,h4]at q
      ~q.trans h1
    A7⟨hfr,QH⟩:=B.from_ x (J3 (i:=j) (by rw[List.getElem?_drop];~h1))
    have hk:=B.free _ hfr rfl
    A7⟨m0,hn0,hl0⟩:=I.loc
    have hv:EY X.env.scope x:=by
      rcases hk with q | q
      · ~.inr (.inl q)
      · ~.inr (.inr q)
    A7⟨u,r,l⟩:=hl0 o x v hx h5 hv
    &⟨u,r,.inr ?_⟩
    rcases l with ⟨q,_⟩ | ⟨_,c,e,z⟩
    · rcases hk with q' | q'
      · ~absurd (q.symm.trans q') (by intro z;cases z)
      · ~absurd (q.symm.trans q') (by intro z;cases z)
    · A7⟨c',e'⟩:=Qc x hfr
      have e2:=(hcl x c' e').2
      rw[e]at e2
      cases e2
      &⟨QH,c,e',?_⟩
      A7⟨oc,hoc,hd⟩:=z
      ~⟨oc,kept c oc hoc,hd⟩
  · A7⟨v,oc,hoc,hd⟩:=I.cell x c (hcl x c e).2
    ~⟨v,oc,kept c oc hoc,hd⟩
  · show upd H s.heap.objs.size (.lst []) (s.heap.objs.size+1)=none
    rw[aX (J7 (Q3 _))]
    ~hC
  · have hc:=(hcl x c e).2
    A7⟨v,oc,hoc,hd⟩:=I.cell x c hc
    show upd H s.heap.objs.size (.lst []) c=none
    rw[aX (D8 (Heap.lt_size hoc))]
    ~I.lA x c hc
  · ~qM.kept I3.hok Tv
  · show (blk k σ fr).length=N.length
    rw[B.len]
    A8 blk Cq
    simp
A9 Ad{tg elt iter:Expr}{ifs:List Expr}{scope:Scope}{pos:Pos}{N:List Str}{k:Nat}{fr:List Nat}{g:TG}{tc:TT}{te:TE}{cl:List (Str×Addr)}{pins:List (Addr×Obj)}{σ:St}{H:Hp}{s:Shared}{it:Addr}{fp:List Addr}{tn:Nat→Heap→Prop}{J:It}{Q:VK}
    {RR:Value→Addr→Result→Shared→Prop} {E:Value→Shared→Prop} (hcalm:X.calm=true) (I:Inv X pins σ H s) (T:Turn X.prog X.w X.K tg J fp it tn) (st:tn 0 s.heap) (hf:∀b∈fp,uG X pins H b) (B:cQ X.env.scope scope X.N N k fr)
    (hcl:∀x c,cl.lookup x=some c→(x,NameKind.free)∈scope.names∧X.env.cells.lookup x=some c) (Qc:∀x,(x,NameKind.free)∈scope.names→∃c,cl.lookup x=some c)
    (hg:∀cl fp s H C,PG (cL X scope N cl fp s H C) tg g) (hc:∀cl fp s H C,Yk (cL X scope N cl fp s H C) ifs tc) (he:∀cl fp s H C,PE (cL X scope N cl fp s H C) elt te)
    (hw:∀D,H D=none→Tu J k fr g tc te σ H Q D)
    (hRR:∀D C m s' H',s'.heap.Ns C m→s.heap.objs.size≤C→H' C=none→C≠D→Inv X pins σ H' s'→Q (.ref D) H'→RR (.ref D) C (.ok .next) s') :
    wpAny (model X.prog X.w) X.A (newList []) (fun acc s₃=>wpAny (model X.prog X.w) X.A (newFunctionEnv scope X.env.globals cl [] X.env.qual none .none (some X.env)) (fun cenv s₄=>
      codeAny (model X.prog X.w) X.A (.compStart (.ListComp elt [⟨tg,iter,ifs,0⟩] scope pos) 0 (.ref it) acc {cenv with scope:=relabel scope X.env}) (RR acc cenv.locals) s₄) E s₃) E s:=by
  &wpAny_newObj_type (wpAny_newFunctionEnv B.cell (by intro y hy;simp at hy) (fun h₁ hns₁ hsb₁=>?_) B.kind)
  dsimp only at hns₁ hsb₁ ⊢
  rw[Heap.size_push]at hns₁ hsb₁ ⊢
  have hfo:∀b∈fp,b<s.heap.objs.size:=fun b hb=>by
    A7⟨o,e,_⟩:=T.obj 0 _ st b hb
    ~Heap.lt_size e
  have I4:=Cr (tk:=s.toks+([]:List (Str×Value)).length) I B hf hfo hcl Qc hns₁ hsb₁
  generalize hD:s.heap.objs.size=D at *
  have QJ:H D=none:=by rw[←hD];~I.fresh
  A7⟨W,⟨m0,w0⟩,turn⟩:=hw D QJ
  have st1:tn 0 h₁:=T.keep 0 _ _ st fun b hb o e=>hsb₁.extBut b o (D8 (M3 (by have:=hfo b hb;~this))) (Heap.get?_push_of_some _ (Heap.get?_push_of_some _ e))
  have QK:∀b∈fp,(upd H D (.lst [])) b=none:=fun b hb=>by
    rw[aX (D8 (hfo b hb))]
    ~(hf b hb).1
  generalize hX':cL X scope N cl fp s H (D+1)=X' at I4
  have stat:∀{H':Hp},(∀b∈fp,H' b=none)→∀b∈fp,uG X' [] H' b:=fun{H'} hn b hb=>by
    subst hX'
    &⟨hn b hb,?_,fun z=>?_,.inl hb,fun x c e=>(hf b hb).2.2.2.2.1 x c (hcl x c e).2,fun p hp=>absurd (show p∈([]:List (Addr×Obj))from hp) (by simp)⟩
    · ~D8 (M3 (hfo b hb))
    · rcases E4.mp (I.wQ b z)with z | z
      · ~(hf b hb).2.1 z
      · ~(hf b hb).2.2.1 z
  have loop:∀s₃:Shared,s₃={s with heap:=h₁,toks:=s.toks+([]:List (Str×Value)).length} →
      codeAny (model X.prog X.w) X.A (.compLoop (.ListComp elt [⟨tg,iter,ifs,0⟩] scope pos) 0 (.ref it) (.ref D) (compEnvC scope cl (D+1) X.env)) (RR (.ref D) (D+1)) s₃:=by
    rintro s₃ rfl
    &mL (fun n s'=>∃i ys H',Inv X' [] (blk k σ fr) H' s'∧tn i s'.heap∧(∀b∈fp,H' b=none)∧W i n ys H') ?_ m0 ⟨0,[],_,I4,st1,QK,w0⟩
    rintro n s5 ⟨i,ys,H5,I5,st5,fr5,w5⟩
    A7⟨hys,way⟩:=turn i n ys H5 w5
    have e1:X'.prog=X.prog:=by rw[←hX'];rfl
    have e2:X'.w=X.w:=by rw[←hX'];rfl
    have e3:X'.K=X.K:=by rw[←hX'];rfl
    have e4:X'.A=X.A:=by rw[←hX'];rfl
    have e5:X'.calm=true:=by rw[←hX'];~hcalm
    have e6:X'.env=compEnvC scope cl (D+1) X.env:=by rw[←hX'];rfl
    have e7:X'.xe=fun _ _=>False:=by rw[←hX'];rfl
    rcases way with ⟨stop,q⟩ | ⟨go,step⟩
    · have d:=T.done X' e1 e2 e3 e5 i [] s5 _ H5 (fun _ _=>False) I5 (stat fr5) st5 stop
      rw[e4]at d
      &dW d fun r s6 ⟨hr,I6⟩=>?_
      subst hr
      subst hX'
      A7⟨m6,QL,_⟩:=I6.loc
      &hRR D (D+1) m6 s6 H5 QL (P9 _) I6.free (J7 (Q3 _)) ?_ q
      ~I.call' I6.os I6.base I6.hok I6.bare fun b hb=>⟨(hf b hb).2.2.2.1,(hf b hb).2.1,(hf b hb).2.2.2.2.1,(hf b hb).2.2.2.2.2⟩
    · have d:=T.item X' e1 e2 e3 e5 i [] s5 _ H5 (fun _ _=>False) I5 (stat fr5) st5 go
      rw[e4]at d
      &dW d fun r s6 ⟨u,hr,h6⟩=>?_
      subst hr
      &dW h6 fun _ s7 ⟨x,H7,I7,r7,y7,st7,fr7⟩=>?_
      have QM:=I7.pinned (stat fr7) (T.obj _ _ st7)
      have hg':PG X' tg g:=by rw[←hX'];~hg _ _ _ _ _
      have hc':Yk X' ifs tc:=by rw[←hX'];~hc _ _ _ _ _
      have he':PE X' elt te:=by rw[←hX'];~he _ _ _ _ _
      have a1:=hg' _ s7 _ H7 x u _ QM r7 (step x H7 y7)
      rw[e1,e2,e4,e6,e7]at a1
      &dW a1 fun _ s8 ⟨σ8,H8,I8,⟨kl,kk⟩,q8⟩=>?_
      have a2:=hc' _ s8 σ8 H8 _ I8 q8
      rw[e1,e2,e4,e6,e7]at a2
      &dW a2 fun ok s9 ⟨H9,I9,q9⟩=>?_
      have again:∀{Ha:Hp} {ya:List V} {sa:Shared},Inv X' ([]++rD fp s7.heap) σ8 Ha sa→(∃m',m'<n∧W (i+1) m' ya Ha) →
          ∃m,m<n∧∃i ys H',Inv X' [] (blk k σ fr) H' sa∧tn i sa.heap∧(∀b∈fp,H' b=none)∧W i m ys H':=fun{Ha ya sa} Ia ⟨m',hm,w'⟩=>by
        &⟨m',hm,i+1,ya,Ha,(Ia.weak kl.symm kk).nP,T.keep _ _ _ st7 fun b hb o e=>(Ia.pin (b,o) (D4 _ (D4 _ (jB hb e)))).1,fun b hb=>?_,w'⟩
        A7⟨o,e,d⟩:=T.obj _ _ st7 b hb
        ~(Ia.pin (b,o) (D4 _ (D4 _ (jB hb e)))).2.1
      cases ok with
      | false=>~again I9 q9
      | true=>
        have a3:=he' _ s9 σ8 H9 _ I9 q9
        rw[e1,e2,e4,e6,e7]at a3
        show wpAny _ _ _ _ _ s9
        &dW a3 fun v QQ ⟨y,H10,I10,r10,hD10,hz,q10⟩=>?_
        have a4:=gA (X:=X') _ QQ σ8 H10 (.ref D) [y] (.ref D) [v] (fun _ NP=>NP=upd H10 D (.lst (ys++[y]))) I10 rfl (.cons r10 .nil) ⟨D,ys,y,rfl,rfl,hD10,hz,rfl⟩
        rw[e1,e2,e4,e7]at a4
        &dW a4 fun _ SX ⟨_,NP,I11,_,e11⟩=>?_
        subst e11
        ~again I11 q10
  ~codeAny_compStart_list (loop _ rfl) (T.self _ 0 _ _ _ st1 (loop _ rfl))
A9 Qd{tg elt iter:Expr}{ifs:List Expr}{scope:Scope}{pos:Pos}{wi:TI}{g:TG}{tc:TT}{te:TE}(N:List Str)(k:Nat)(fr:List Nat)(hcalm:X.calm=true)(B:cQ X.env.scope scope X.N N k fr)(hi:PI X tg iter wi)
  (hg:∀cl fp s H C,PG (cL X scope N cl fp s H C) tg g) (hc:∀cl fp s H C,Yk (cL X scope N cl fp s H C) ifs tc) (he:∀cl fp s H C,PE (cL X scope N cl fp s H C) elt te)
  (hs:∀x,foldedSetIterable iter X.env x=pure x:=by intro _;rfl):PE X (.ListComp elt [⟨tg,iter,ifs,0⟩] scope pos) (Ac wi k fr g tc te):=by
 intro pins s σ H Q I h
 A7⟨cl,e,h1,h2⟩:=mR scope X.env fun y hy hk=>I.ok.has y.1 (B.free y hy hk)
 rw[eval_ListComp]
 &wpAny_comprehension_free (use:=none) rfl hs e B.kind B.loc (wpAny_mono (hi pins s σ H _ I h) (fun xv s₁ q₁=>wpAny_mono q₁ (fun itv s₂ q₂=>?_) fun _ _ x=>x) fun _ _ x=>x)
 A7⟨it,fp,tn,J,H2,rfl,I2,T,st2,f2,hw⟩:=q₂
 &Ad (Q:=Q) (RR:=fun acc C=>compPost (model X.prog X.w) X.A X.xe none (EP X pins σ Q) acc C) hcalm I2 T st2 f2 B h1 h2 hg hc he hw ?_
 intro D C m s' H' hn hC hf hne I' q
 &⟨m,hn,fun h' hs'=>⟨.ref D,H',?_,rfl,q⟩⟩
 ~I'.turned (t':=s'.toks) (fun b o hb eb=>(hs'.2 b hb).trans eb) hf (J7 (B5 I2.lt hC)) (.inr (D9 I2.sz hC)) (fun x c ec z=>by
  A7⟨v,q⟩:=I2.cell x c ec
  ~absurd (B5 q.lt (by rw[z];~hC)) (F0 _)) fun p hp z=>absurd (B5 (Heap.lt_size (I2.pin p hp).1) (by rw[z];~hC)) (F0 _)
A9 Qe{tg elt iter:Expr}{ifs:List Expr}{scope:Scope}{pos spos py:Pos}{y:Str}{i:Nat}{wi:TI}{g:TG}{tc:TT}{te:TE}(N:List Str)(k:Nat)(fr:List Nat)(hcalm:X.calm=true)(B:cQ X.env.scope scope X.N N k fr)(hN:X.N.Nodup)(hy:X.N[i]?=some y)(hx:Loc X.env.scope y)(hi:PI X tg iter wi)
  (hg:∀cl fp s H C,PG (cL X scope N cl fp s H C) tg g) (hc:∀cl fp s H C,Yk (cL X scope N cl fp s H C) ifs tc) (he:∀cl fp s H C,PE (cL X scope N cl fp s H C) elt te)
  (hsw:swapsWith (.ListComp elt [⟨tg,iter,ifs,0⟩] scope pos) (some (.Name y py)) spos.line X.env=pure true:=by rfl)
  (hs:∀x,foldedSetIterable iter X.env x=pure x:=by intro _;rfl) (hf:X.fn y=true∨X.env.scope.names.lookup y=some .local:=by first | ~.inl rfl | ~.inr rfl | assumption) :
  PS X (.Assign [.Name y py] (.ListComp elt [⟨tg,iter,ifs,0⟩] scope pos) spos) (Gy (Ac wi k fr g tc te) (dR i)):=by
 intro pins s σ H D I h
 A7⟨cl,e,h1,h2⟩:=mR scope X.env fun y hy hk=>I.ok.has y.1 (B.free y hy hk)
 rw[exec_Assign_Name_used _ _ _ _ hsw]
 &wpAny_bind (wpAny_standAt (wpAny_bind ?_))
 show wpAny _ X.A (do let _ ←comprehension (.ListComp elt [⟨tg,iter,ifs,0⟩] scope pos) scope X.env _ (newList []) false (eval iter X.env) (some (assign (.Name y py) X.env))) _ _ s
 &wpAny_bind (wpAny_mono (wpAny_comprehension_free (use:=some (assign (.Name y py) X.env)) (Q:=fun _ s'=>SP X pins D .next s') rfl hs e B.kind B.loc
  (wpAny_mono (hi pins s σ H _ I h) (fun xv s₁ q₁=>wpAny_mono q₁ (fun itv s₂ q₂=>?_) fun _ _ x=>x) fun _ _ x=>x)) (fun _ s' hq=>wpAny_pure (wpAny_pure hq)) fun _ _ x=>x)
 A7⟨it,fp,tn,J,H2,rfl,I2,T,st2,f2,hw⟩:=q₂
 &Ad (Q:=fun x H1=>dR i x σ H1 D.nx) (RR:=fun acc C=>compPost (model X.prog X.w) X.A X.xe (some (assign (.Name y py) X.env)) (fun _ s'=>SP X pins D .next s') acc C) hcalm I2 T st2 f2 B h1 h2 hg hc he hw ?_
 intro E C m s' H' hn hC hfr hne I' q
 show wpAny _ X.A (assign (.Name y py) X.env (.ref E)) _ _ _
 have Oe:∀x c,X.env.cells.lookup x=some c→c≠C:=fun x c ec z=>by
  A7⟨v,q⟩:=I2.cell x c ec
  ~absurd (B5 q.lt (by rw[z];~hC)) (F0 _)
 &wpAny_assign_Name (uX I' hN hy hx (show RelV (.ref E) (.ref E)from rfl) (fun s6 I6 ⟨a,hsb,ha⟩=>?_) hf)
 have QR:C≠a:=by
  rcases ha with z | z
  ·rw[z];~J7 (B5 I2.lt hC)
  ·~fun q=>Oe _ _ z q.symm
 &⟨m,hn.sameBut hsb QR,fun h'' hs''=>⟨_,H',?_,q⟩⟩
 ~I6.turned (t':=s6.toks) (fun b o hb eb=>(hs''.2 b hb).trans eb) hfr (J7 (B5 I2.lt hC)) (.inr (D9 I2.sz hC)) Oe
  fun p hp z=>absurd (B5 (Heap.lt_size (I2.pin p hp).1) (by rw[z];~hC)) (F0 _)
end
end L2


set_option maxHeartbeats 4000000
namespace L2
open PySem PySem.Spec PyProof.Rows
def Wf(J:It)(P:Hp→Prop)(xs:List V):Prop:=
 ∀i H,P H→(i<xs.length→J.go i H)∧(∀x H',J.Yy i H x H'→H'=H∧(i<xs.length→xs[i]?=some x))∧(xs.length≤i→J.stop i H)
A9 Kg{K:aA}{a:Addr}{xs:List V}:Wf (HQ K a) (fun H=>iH K H a xs) xs:=fun i H hq=>
 ⟨fun h=>⟨xs,xs[i],hq,by simp[h]⟩,fun x H' ⟨e,y⟩=>⟨e,fun _=>y xs hq⟩,fun h=>⟨xs,hq,h⟩⟩
A9 Qf{K:aA}{a:Addr}{xs:List V}:Wf (HR K a) (fun H=>lB K H a xs) xs:=fun i H hq=>
 ⟨fun h=>⟨xs,xs[i],hq,by simp[h]⟩,fun x H' ⟨e,y⟩=>⟨e,fun _=>y xs hq⟩,fun h=>⟨xs,hq,h⟩⟩
A9 vJ{lo:Int}{n:Nat}:Wf (FN lo n) (fun _=>True) ((E9 n).map fun i:Nat=>V.int (lo+(i:Int))):=fun i H _=>
 ⟨fun h=>show i<n by simpa using h,fun x H' ⟨e,y⟩=>⟨e,fun h=>by
  have h:i<n:=by simpa using h
  subst y
  simp[h]⟩,fun h=>show n≤i by simpa using h⟩
section
variable{X:Cx}
A9 dH{scope:Scope}{N:List Str}{x:Str}{pos:Pos}(hN:N.Nodup)(hi:N[0]?=some x)(hx:(lD scope X.env.scope).names.lookup x=some .local) :
  ∀cl fp s H C,PG (cL X scope N cl fp s H C) (.Name x pos) (dR 0):=fun _ _ _ _ _=>gQ hN hi (D5 hx) (D3 hx)
A9 Fb{J:It}{P:Hp→Prop}{xs:List V}(hJ:Wf J P xs){g:TG}{tb:TS}{D:Ends}{σ:St}{H:Hp}(Pv:Nat→St→Hp→Prop)(h0:Pv 0 σ H)(hl:∀i σ H,i≤xs.length→Pv i σ H→P H)
  (hs:∀i x σ H,xs[i]?=some x→Pv i σ H→g x σ H fun σ2 H2=>tb {D with nx:=Pv (i+1),ct:=Pv (i+1),bk:=D.nx} σ2 H2) (hd:∀σ H,Pv xs.length σ H→D.nx σ H) :
  ∃W:Nat→Nat→St→Hp→Prop,(∃m,W 0 m σ H)∧∀i m σ H,W i m σ H →
   (J.stop i H∧D.nx σ H)∨(J.go i H∧∃N:St→Hp→Prop,(∀σ' H',N σ' H'→∃m',m'<m∧W (i+1) m' σ' H')∧∀x H',J.Yy i H x H'→g x σ H' fun σ2 H2=>tb {D with nx:=N,ct:=N,bk:=D.nx} σ2 H2):=by
 &⟨fun i m σ H=>m=xs.length-i∧i≤xs.length∧Pv i σ H,⟨xs.length,by simp,L4 _,h0⟩,?_⟩
 rintro i m σ H ⟨rfl,hi,p⟩
 A7⟨j1,j2,j3⟩:=hJ i H (hl i σ H hi p)
 by_cases hlt:i<xs.length
 ·&.inr ⟨j1 hlt,Pv (i+1),fun σ' H' p'=>⟨xs.length-(i+1),by omega,rfl,hlt,p'⟩,fun x H' y=>?_⟩
  A7⟨e,ex⟩:=j2 x H' y
  subst e
  ~hs i x σ _ (ex hlt) p
 ·have e:i=xs.length:=by omega
  subst e
  ~.inl ⟨j3 (B7 _),hd σ H p⟩
end
end L2


namespace L2
open PySem PySem.Spec PyProof.Rows
section
variable{X:Cx}
A9 pZ:∀{bs:List Bool} {us:List Value},Vals (bs.map V.bl) us→us=bs.map Value.bool
 | [],us,r=>by rw[G1]at r;cases r;rfl
 | b::bs,us,r=>by
  rw[C9]at r
  cases r with
  | cons r1 r2=>
   cases(show _=Value.bool b from r1)
   rw[pZ r2]
   rfl
A9 Cu(bs:List Bool):((E9 bs.length).all fun i=>(bs[i]?).getD true)=bs.all id:=by
 rw[G0,M9,M9]
 constructor
 ·intro h b hb
  A7⟨i,hi,rfl⟩:=O6 hb
  have:=h i (I0.mpr hi)
  simpa[hi]using this
 ·intro h i hi
  have hi':=I0.mp hi
  simp only[B4 hi',Q4]
  ~h _ (N0 hi')
A9 Qg{s:Shared}{h':Heap}{o:Obj}(hk:∀b x,b∉[s.heap.objs.size]→(s.heap.push o).get? b=some x→h'.get? b=some x):∀b x,s.heap.get? b=some x→h'.get? b=some x:=
 fun b x e=>hk b x (fun hm=>by rw[E6.mp hm]at e;~F0 _ (Heap.lt_size e)) (Heap.get?_push_of_some _ e)
A9 Kh(hc:X.calm=true):eO X (.builtin "all") (fun xs H Q=>∃(p:Addr)(bs:List Bool),xs=[.ref p]∧iH X.K H p (bs.map V.bl)∧Q (.bl (bs.all id)) H):=by
 intro pins s σ H xs us Q I r h
 A7⟨p,bs,rfl,hq,q⟩:=h
 A7⟨u,rfl,rx⟩:=vals1 r
 cases rx
 A7⟨its,rv,pl,hz⟩:=I.list hq
 have hb:=pZ rv
 subst hb
 have hl:=pl.isList
 have hlt:p<s.heap.objs.size:=by A7⟨_,e,_⟩:=hl;~Heap.lt_size e
 &call_all_walk (wpAny_pyIter_list hl ?_)
 &⟨s.heap.objs.size,[s.heap.objs.size,p],[s.heap.objs.size],_,_,_,fun i=>(bs[i]?).getD true,rfl,Walks.list (A:=X.A.in1) (I.ok.hd hc) _ p (D8 hlt) _,
  ⟨⟨_,Heap.get?_push_size _ rfl,rfl,rfl⟩,hl.push _⟩,fun i v s' Q' E' hP hQ=>?_,fun h' tk hk=>?_⟩
 ·have e:(bs.map Value.bool)[i]?=some v:=by simpa using hP
  rw[C3]at e
  cases e2:bs[i]? with
  | none=>rw[e2]at e;cases e
  | some b=>
   rw[e2]at e
   cases e
   simp only[e2,Q4]at hQ
   ~wpAny_truthy_bool hQ
 ·have e:((E9 (bs.map Value.bool).toArray.size).all fun i=>(bs[i]?).getD true)=bs.all id:=by
   rw[B3,B6];~Cu bs
  rw[e]
  ~⟨.bl _,H,I.kept (Qg hk),rfl,q⟩
end
inductive DV where
  | int (i:Int) | non | lst (ds:List DV) | tup (ds:List DV)
mutual
def Reads(K:aA)(H:Hp):DV→V→Prop
 | .int i,x=>x=.int i
 | .non,x=>x=.non
 | .lst ds,x=>∃a xs,x=.ref a∧iH K H a xs∧bB K H ds xs
 | .tup ds,x=>∃a xs,x=.ref a∧lB K H a xs∧bB K H ds xs
def bB(K:aA)(H:Hp):List DV→List V→Prop
 | [],xs=>xs=[]
 | d::ds,xs=>∃y ys,xs=y::ys∧Reads K H d y∧bB K H ds ys
end
mutual
def DV.depth:DV→Nat
 | .int _=>0
 | .non=>0
 | .lst ds=>bK ds+1
 | .tup ds=>bK ds+1
def bK:List DV→Nat
 | []=>0
 | d::ds=>max d.depth (bK ds)
end
A9 bB.length{K:aA}{H:Hp}:∀{ds:List DV} {xs:List V},bB K H ds xs→xs.length=ds.length
 | [],xs,h=>by
  A8 bB at h
  rw[h]
  rfl
 | d::ds,xs,h=>by
  A8 bB at h
  A7⟨y,ys,rfl,_,h2⟩:=h
  simp[bB.length h2]
A9 bB.get{K:aA}{H:Hp}:∀{ds:List DV} {xs:List V} {i:Nat} {d:DV},bB K H ds xs→ds[i]?=some d→∃x,xs[i]?=some x∧Reads K H d x
 | [],xs,i,d,h,e=>by simp at e
 | d'::ds,xs,0,d,h,e=>by
  A8 bB at h
  A7⟨y,ys,rfl,h1,_⟩:=h
  simp at e
  subst e
  ~⟨y,rfl,h1⟩
 | d'::ds,xs,i+1,d,h,e=>by
  A8 bB at h
  A7⟨y,ys,rfl,_,h2⟩:=h
  A7⟨x,e1,e2⟩:=bB.get h2 (by simpa using e)
  ~⟨x,by simpa using e1,e2⟩
A9 rJ:∀{ds:List DV} {i:Nat} {d:DV},ds[i]?=some d→d.depth≤bK ds
 | [],i,d,e=>by simp at e
 | d'::ds,0,d,e=>by
  simp at e
  subst e
  A8 bK
  ~Nat.le_max_left _ _
 | d'::ds,i+1,d,e=>by
  have:=rJ (ds:=ds) (i:=i) (d:=d) (by simpa using e)
  A8 bK
  ~D9 this (Nat.le_max_right _ _)
A9 Cv(A:Around):A.in1.units=A.units+1:=rfl
section
open SeqAt
open Classical in
noncomputable def lE(d e:DV):Bool:=decide (d=e)
A9 lF{d e:DV}:lE d e=true↔d=e:=by A8 lE;simp
A9 lG(d:DV):lE d d=true:=lF.mpr rfl
A9 cC{d e:DV}(h:d≠e):lE d e=false:=by A8 lE;simp[h]
A9 Qh(a b:Int):lE (.int a) (.int b)=(a==b):=by
 by_cases h:a=b
 ·subst h;simp[lG]
 ·rw[cC (by simpa using h)];simp[h]
open Classical in
A9 fJ{ds es:List DV}(hl:ds.length=es.length):((E9 ds.length).all fun i=>match ds[i]?,es[i]? with | some d,some e=>lE d e | _,_=>true)=decide (ds=es):=by
 rw[G0,M9,decide_eq_true_iff]
 constructor
 ·intro h
  apply Q5 hl
  intro i h1 h2
  have:=h i (I0.mpr h1)
  simp only[B4 h1,B4 h2]at this
  ~lF.mp this
 ·rintro rfl i hi
  have hi':=I0.mp hi
  simp only[B4 hi']
  ~lG _
variable{X:Cx}{pins:List (Addr×Obj)}{σ:St}{H:Hp}{s:Shared}
open Classical in
A9 Fd(ds es:List DV):lE (.lst ds) (.lst es)=decide (ds=es):=by
 by_cases h:ds=es
 ·subst h;simp[lG]
 ·rw[cC (by intro z;cases z;~h rfl)];simp[h]
open Classical in
A9 Fe(ds es:List DV):lE (.tup ds) (.tup es)=decide (ds=es):=by
 by_cases h:ds=es
 ·subst h;simp[lG]
 ·rw[cC (by intro z;cases z;~h rfl)];simp[h]
A9 vK(I:Inv X pins σ H s):∀(n:Nat)(d e:DV)(x:V),d.depth≤n→Reads X.K H d x→Reads X.K H e x→d=e:=by
 have lists:∀(n:Nat),(∀(d e:DV)(x:V),d.depth≤n→Reads X.K H d x→Reads X.K H e x→d=e)→∀(ds es:List DV)(xs:List V),bK ds≤n→bB X.K H ds xs→bB X.K H es xs→ds=es:=by
  intro n ih ds
  induction ds with
  | nil=>
   intro es xs _ h1 h2
   have l1:=h1.length
   have l2:=h2.length
   cases es with
   | nil=>rfl
   | cons _ _=>rw[l1]at l2;simp at l2
  | cons d ds ihl=>
   intro es xs hd h1 h2
   have hd1:d.depth≤n:=by A8 bK at hd;omega
   have hd2:bK ds≤n:=by A8 bK at hd;omega
   A8 bB at h1
   A7⟨y,ys,rfl,a1,a2⟩:=h1
   cases es with
   | nil=>have:=h2.length;simp at this
   | cons e es=>
    A8 bB at h2
    A7⟨y',ys',q,b1,b2⟩:=h2
    cases q
    rw[ih d e y hd1 a1 b1,ihl es ys hd2 a2 b2]
 have kinds:∀{a:Addr} {xs ys:List V},iH X.K H a xs→lB X.K H a ys→False:=fun{a xs ys} h1 h2=>by
  A7⟨_,_,p1,_⟩:=I.list h1
  A7⟨_,_,p2,_⟩:=I.tuple h2
  ~ne_of_list_tuple p1.isList (show s.heap.IsTuple a _ from p2) rfl
 intro n
 induction n with
 | zero=>
  intro d e x hd h1 h2
  cases d with
  | int i=>
   A8 Reads at h1
   subst h1
   cases e with
   | int j=>A8 Reads at h2;cases h2;rfl
   | non=>A8 Reads at h2;cases h2
   | lst es=>A8 Reads at h2;A7⟨_,_,q,_⟩:=h2;cases q
   | tup es=>A8 Reads at h2;A7⟨_,_,q,_⟩:=h2;cases q
  | non=>
   A8 Reads at h1
   subst h1
   cases e with
   | non=>rfl
   | int j=>A8 Reads at h2;cases h2
   | lst es=>A8 Reads at h2;A7⟨_,_,q,_⟩:=h2;cases q
   | tup es=>A8 Reads at h2;A7⟨_,_,q,_⟩:=h2;cases q
  | lst ds=>A8 DV.depth at hd;omega
  | tup ds=>A8 DV.depth at hd;omega
 | succ n ih=>
  intro d e x hd h1 h2
  cases d with
  | int i=>
   A8 Reads at h1
   subst h1
   cases e with
   | int j=>A8 Reads at h2;cases h2;rfl
   | non=>A8 Reads at h2;cases h2
   | lst es=>A8 Reads at h2;A7⟨_,_,q,_⟩:=h2;cases q
   | tup es=>A8 Reads at h2;A7⟨_,_,q,_⟩:=h2;cases q
  | non=>
   A8 Reads at h1
   subst h1
   cases e with
   | non=>rfl
   | int j=>A8 Reads at h2;cases h2
   | lst es=>A8 Reads at h2;A7⟨_,_,q,_⟩:=h2;cases q
   | tup es=>A8 Reads at h2;A7⟨_,_,q,_⟩:=h2;cases q
  | lst ds=>
   A8 Reads at h1
   A7⟨a,xs,rfl,hq,r⟩:=h1
   cases e with
   | int j=>A8 Reads at h2;cases h2
   | non=>A8 Reads at h2;cases h2
   | lst es=>
    A8 Reads at h2
    A7⟨b,ys,q,hq2,r2⟩:=h2
    cases q
    have:=I.zT hq hq2
    subst this
    rw[lists n ih ds es xs (by A8 DV.depth at hd;omega) r r2]
   | tup es=>
    A8 Reads at h2
    A7⟨b,ys,q,hq2,r2⟩:=h2
    cases q
    ~(kinds hq hq2).elim
  | tup ds=>
   A8 Reads at h1
   A7⟨a,xs,rfl,hq,r⟩:=h1
   cases e with
   | int j=>A8 Reads at h2;cases h2
   | non=>A8 Reads at h2;cases h2
   | lst es=>
    A8 Reads at h2
    A7⟨b,ys,q,hq2,r2⟩:=h2
    cases q
    ~(kinds hq2 hq).elim
   | tup es=>
    A8 Reads at h2
    A7⟨b,ys,q,hq2,r2⟩:=h2
    cases q
    have:=I.uY hq hq2
    subst this
    rw[lists n ih ds es xs (by A8 DV.depth at hd;omega) r r2]
A9 Kl(I:Inv X pins σ H s)(i:Int)(e:DV)(y:V)(u v:Value)(A:Around)(hu:A.units<cLine)(r2:Reads X.K H e y)(rx:RelV (.int i) u)(ry:RelV y v):RcAt A s u v (lE (.int i) e)∧EqAt A s u v (lE (.int i) e):=by
 A7⟨t,rfl⟩:=rx
 cases e with
 | int j=>
  A8 Reads at r2
  subst r2
  A7⟨t',rfl⟩:=ry
  rw[Qh]
  ~⟨RcAt.int_int _ _ _ _,EqAt.int_int _ _ _ _⟩
 | non=>
  A8 Reads at r2
  subst r2
  cases ry
  rw[cC (by intro z;cases z)]
  ~⟨RcAt.int_none _ _,EqAt.int_none _ _⟩
 | lst es=>
  A8 Reads at r2
  A7⟨b,ys,rfl,hq,_⟩:=r2
  cases ry
  A7⟨its,_,pl,_⟩:=I.list hq
  rw[cC (by intro z;cases z)]
  ~⟨RcAt.int_list _ _ pl.isList (hu),EqAt.int_list _ _ pl.isList (hu)⟩
 | tup es=>
  A8 Reads at r2
  A7⟨b,ys,rfl,hq,_⟩:=r2
  cases ry
  A7⟨its,_,pl,_⟩:=I.tuple hq
  rw[cC (by intro z;cases z)]
  ~⟨RcAt.int_tuple _ _ pl (hu),EqAt.int_tuple _ _ pl (hu)⟩
A9 Km(I:Inv X pins σ H s)(e:DV)(y:V)(u v:Value)(A:Around)(hu:A.units<cLine)(r2:Reads X.K H e y)(rx:RelV .non u)(ry:RelV y v):RcAt A s u v (lE .non e)∧EqAt A s u v (lE .non e):=by
 cases rx
 cases e with
 | non=>
  A8 Reads at r2
  subst r2
  cases ry
  rw[lG]
  ~⟨RcAt.none_none,EqAt.same _⟩
 | int j=>
  A8 Reads at r2
  subst r2
  A7⟨t',rfl⟩:=ry
  rw[cC (by intro z;cases z)]
  ~⟨RcAt.none_int _ _,EqAt.none_int _ _⟩
 | lst es=>
  A8 Reads at r2
  A7⟨b,ys,rfl,hq,_⟩:=r2
  cases ry
  A7⟨its,_,pl,_⟩:=I.list hq
  rw[cC (by intro z;cases z)]
  ~⟨RcAt.none_list pl.isList hu,EqAt.none_list pl.isList hu⟩
 | tup es=>
  A8 Reads at r2
  A7⟨b,ys,rfl,hq,_⟩:=r2
  cases ry
  A7⟨its,_,pl,_⟩:=I.tuple hq
  rw[cC (by intro z;cases z)]
  ~⟨RcAt.none_tuple pl hu,EqAt.none_tuple pl hu⟩
A9 rK(I:Inv X pins σ H s):∀(n:Nat)(A:Around),(∀(d e:DV)(x y:V)(u v:Value)(A:Around),d.depth≤n→A.units+n<cLine→Reads X.K H d x→Reads X.K H e y→RelV x u→RelV y v→RcAt A s u v (lE d e)∧EqAt A s u v (lE d e)) →
  ∀(ds es:List DV)(xs ys:List V)(us vs:List Value),bK ds≤n→A.units+(n+1)<cLine→bB X.K H ds xs→bB X.K H es ys→Vals xs us→Vals ys vs →
  ∀j (h1:j<us.toArray.size) (h2:j<vs.toArray.size),EqAt A.in1 s us.toArray[j] vs.toArray[j] (match ds[j]?,es[j]? with | some d,some e=>lE d e | _,_=>true):=by
 intro n A ih ds es xs ys us vs hd hu r1 r2 v1 v2 j h1 h2
 have l1:j<ds.length:=by rw[←r1.length,v1.length];simpa using h1
 have l2:j<es.length:=by rw[←r2.length,v2.length];simpa using h2
 A7⟨x,ex,rx⟩:=r1.get (i:=j) (d:=ds[j]) (by simp)
 A7⟨y,ey,ry⟩:=r2.get (i:=j) (d:=es[j]) (by simp)
 A7⟨u,eu,ru⟩:=v1.get ex
 A7⟨v,ev,rv⟩:=v2.get ey
 have e1:us.toArray[j]=u:=by
  rw[B8]at eu
  A7⟨_,eu⟩:=eu
  simpa using eu
 have e2:vs.toArray[j]=v:=by
  rw[B8]at ev
  A7⟨_,ev⟩:=ev
  simpa using ev
 rw[e1,e2]
 simp only[B4 l1,B4 l2]
 ~(ih _ _ x y u v A.in1 (D9 (rJ (i:=j) (by simp)) hd) (by rw[Cv];omega) rx ry ru rv).2
A9 xK(I:Inv X pins σ H s):∀(n:Nat)(d e:DV)(x y:V)(u v:Value)(A:Around),d.depth≤n→A.units+n<cLine→Reads X.K H d x→Reads X.K H e y→RelV x u→RelV y v→RcAt A s u v (lE d e)∧EqAt A s u v (lE d e):=by
 have items:=rK I
 have seqs:∀(n:Nat)(A:Around),(∀(d e:DV)(x y:V)(u v:Value)(A:Around),d.depth≤n→A.units+n<cLine→Reads X.K H d x→Reads X.K H e y→RelV x u→RelV y v→RcAt A s u v (lE d e)∧EqAt A s u v (lE d e)) →
   ∀(d e:DV)(x y:V)(u v:Value),d.depth≤n+1→A.units+(n+1)<cLine→Reads X.K H d x→Reads X.K H e y→RelV x u→RelV y v→RcAt A s u v (lE d e)∧EqAt A s u v (lE d e):=by
  intro n A ih d e x y u v hd hu r1 r2 rx ry
  have of_same:∀{a b:Addr} {k:Bool},(a=b→k=true)→RcAt A s (.ref a) (.ref b) k→EqAt A s (.ref a) (.ref b) k:=fun{a b k} hk h=>by
   by_cases hab:a=b
   ·subst hab
    rw[hk rfl]
    ~EqAt.same _
   ·~EqAt.of_refs hab h
  cases d with
  | int i=>
   A8 Reads at r1
   subst r1
   ~Kl I i e y u v A A3 r2 rx ry
  | non=>
   A8 Reads at r1
   subst r1
   ~Km I e y u v A A3 r2 rx ry
  | lst ds=>
   A8 Reads at r1
   A7⟨a,xs,rfl,hq1,Hu⟩:=r1
   cases rx
   A7⟨rM,v1,uK,_⟩:=I.list hq1
   have hd':bK ds≤n:=by A8 DV.depth at hd;omega
   cases e with
   | int j=>
    A8 Reads at r2
    subst r2
    A7⟨t',rfl⟩:=ry
    rw[cC (by intro z;cases z)]
    ~⟨RcAt.list_int _ _ uK.isList A3,EqAt.list_int _ _ uK.isList A3⟩
   | non=>
    A8 Reads at r2
    subst r2
    cases ry
    rw[cC (by intro z;cases z)]
    ~⟨RcAt.list_none uK.isList A3,EqAt.list_none uK.isList A3⟩
   | lst es=>
    A8 Reads at r2
    A7⟨b,ys,rfl,hq2,Cw⟩:=r2
    cases ry
    A7⟨its2,v2,Ae,_⟩:=I.list hq2
    have e1:rM.toArray.size=ds.length:=by rw[B3,←v1.length,Hu.length]
    have e2:its2.toArray.size=es.length:=by rw[B3,←v2.length,Cw.length]
    have rc:RcAt A s (.ref a) (.ref b) (lE (.lst ds) (.lst es)):=by
     by_cases hl:ds.length=es.length
     ·have q:=RcAt.lists (A:=A) (s:=s) uK.isList Ae.isList (by rw[e1,e2];~hl) A3 (items n A ih ds es xs ys rM its2 hd' hu Hu Cw v1 v2)
      rw[e1,fJ hl]at q
      rw[Fd]
      ~q
     ·rw[cC (by intro z;cases z;~hl rfl)]
      ~RcAt.lists_lengths uK.isList Ae.isList (by rw[e1,e2];simpa using hl) A3
    ~⟨rc,of_same (fun hab=>by
     subst hab
     &lF.mpr (vK I (n+1) _ _ (.ref a) hd ?_ ?_)
     ·A8 Reads
      ~⟨a,xs,rfl,hq1,Hu⟩
     ·A8 Reads
      ~⟨a,ys,rfl,hq2,Cw⟩) rc⟩
   | tup es=>
    A8 Reads at r2
    A7⟨b,ys,rfl,hq2,Cw⟩:=r2
    cases ry
    A7⟨its2,v2,Ae,_⟩:=I.tuple hq2
    rw[cC (by intro z;cases z)]
    ~⟨RcAt.list_tuple uK.isList Ae A3,EqAt.list_tuple uK.isList Ae A3⟩
  | tup ds=>
   A8 Reads at r1
   A7⟨a,xs,rfl,hq1,Hu⟩:=r1
   cases rx
   A7⟨rM,v1,uK,_⟩:=I.tuple hq1
   have hd':bK ds≤n:=by A8 DV.depth at hd;omega
   cases e with
   | int j=>
    A8 Reads at r2
    subst r2
    A7⟨t',rfl⟩:=ry
    rw[cC (by intro z;cases z)]
    ~⟨RcAt.tuple_int _ _ uK A3,EqAt.tuple_int _ _ uK A3⟩
   | non=>
    A8 Reads at r2
    subst r2
    cases ry
    rw[cC (by intro z;cases z)]
    ~⟨RcAt.tuple_none uK A3,EqAt.tuple_none uK A3⟩
   | lst es=>
    A8 Reads at r2
    A7⟨b,ys,rfl,hq2,Cw⟩:=r2
    cases ry
    A7⟨its2,v2,Ae,_⟩:=I.list hq2
    rw[cC (by intro z;cases z)]
    ~⟨RcAt.tuple_list uK Ae.isList A3,EqAt.tuple_list uK Ae.isList A3⟩
   | tup es=>
    A8 Reads at r2
    A7⟨b,ys,rfl,hq2,Cw⟩:=r2
    cases ry
    A7⟨its2,v2,Ae,_⟩:=I.tuple hq2
    have e1:rM.toArray.size=ds.length:=by rw[B3,←v1.length,Hu.length]
    have e2:its2.toArray.size=es.length:=by rw[B3,←v2.length,Cw.length]
    have rc:RcAt A s (.ref a) (.ref b) (lE (.tup ds) (.tup es)):=by
     have q:=RcAt.tuples (A:=A) (s:=s) (l:=a) (b:=b) uK Ae A3 (items n A ih ds es xs ys rM its2 hd' hu Hu Cw v1 v2)
     rw[e1,e2]at q
     by_cases hl:ds.length=es.length
     ·rw[←hl,Nat.min_self,fJ hl]at q
      rw[Fe]
      simpa using q
     ·rw[cC (by intro z;cases z;~hl rfl)]
      have z:(ds.length==es.length)=false:=by simpa using hl
      rw[z,R5]at q
      ~q
    ~⟨rc,of_same (fun hab=>by
     subst hab
     &lF.mpr (vK I (n+1) _ _ (.ref a) hd ?_ ?_)
     ·A8 Reads
      ~⟨a,xs,rfl,hq1,Hu⟩
     ·A8 Reads
      ~⟨a,ys,rfl,hq2,Cw⟩) rc⟩
 intro n
 induction n with
 | zero=>
  intro d e x y u v A hd hu r1 r2 rx ry
  cases d with
  | int i=>
   A8 Reads at r1
   subst r1
   ~Kl I i e y u v A A3 r2 rx ry
  | non=>
   A8 Reads at r1
   subst r1
   ~Km I e y u v A A3 r2 rx ry
  | lst ds=>A8 DV.depth at hd;omega
  | tup ds=>A8 DV.depth at hd;omega
 | succ n ih=>
  intro d e x y u v A hd hu r1 r2 rx ry
  ~seqs n A ih d e x y u v hd hu r1 r2 rx ry
end
section
variable{X:Cx}
def Wg(K:aA)(neg:Bool):R2:=fun x y H Q=>∃d e,Reads K H d x∧Reads K H e y∧d.depth≤32∧Q (.bl (if neg then !lE d e else lE d e)) H
A9 Wh(hu:X.A.units+64<cLine):jC X (compareOp .Eq) (Wg X.K false):=by
 intro pins s σ H x y v u Q I rx ry h
 A7⟨d,e,r1,r2,hd,q⟩:=h
 ~(xK I 32 d e x y v u X.A hd A3 r1 r2 rx ry).1 X.prog X.w X.xe _ ⟨.bl _,H,I,rfl,q⟩
open SeqAt in
A9 Wi(hu:X.A.units+64<cLine):jC X (compareOp .NotEq) (fun x y H Q=>∃ds es,Reads X.K H (.lst ds) x∧Reads X.K H (.lst es) y∧bK ds≤32∧Q (.bl (!lE (.lst ds) (.lst es))) H):=by
 intro pins s σ H x y v u Q I rx ry h
 A7⟨ds,es,r1,r2,hd,q⟩:=h
 A8 Reads at r1 r2
 A7⟨a,xs,rfl,hq1,Hu⟩:=r1
 A7⟨b,ys,rfl,hq2,Cw⟩:=r2
 cases rx
 cases ry
 A7⟨rM,v1,uK,_⟩:=I.list hq1
 A7⟨its2,v2,Ae,_⟩:=I.list hq2
 have e1:rM.toArray.size=ds.length:=by rw[B3,←v1.length,Hu.length]
 have e2:its2.toArray.size=es.length:=by rw[B3,←v2.length,Cw.length]
 have rc:RcNeAt X.A s (.ref a) (.ref b) (!lE (.lst ds) (.lst es)):=by
  by_cases hl:ds.length=es.length
  ·have z:=RcNeAt.lists (A:=X.A) (s:=s) uK.isList Ae.isList (by rw[e1,e2];~hl) A3 (rK I 32 X.A (fun d e x y u v A a1 a2 a3 a4 a5 a6=>xK I 32 d e x y u v A a1 a2 a3 a4 a5 a6) ds es xs ys rM its2 hd A3 Hu Cw v1 v2)
   rw[e1,fJ hl]at z
   rw[Fd]
   ~z
  ·rw[cC (by intro z;cases z;~hl rfl)]
   ~RcNeAt.lists_lengths uK.isList Ae.isList (by rw[e1,e2];simpa using hl) A3
 ~rc X.prog X.w X.xe _ ⟨.bl _,H,I,rfl,q⟩
end
end L2


namespace L2
open PySem PySem.Spec PyProof.Rows
structure Raw(K:aA)(mg:Str→Option Value)(x:Str)(st:Stmt):Prop where
 ex:∃f fd,Oh K x x st f fd∧mg x=some (.ref f)
A9 Wj{K:aA}{h:Heap}{mg:Str→Option Value}{x:Str}{st:Stmt}{f:Addr}{oc:Value}{od an:Option Addr}{osl:Array (Option Value)}{kV doc pm cdv ct:Value}(X:K.In h)(G:h.Ns mainGlobals mg)
  (a:K9 K mainGlobals x=some (some (.ref f))) (l:K.lookup f=some ⟨oc,od,.func (E2 x x (cW st) (bN st) (aF st) .none kV doc pm an cdv ct),osl⟩)
  (c:J1 K cdv x=true) (k:F6 K (.ref f)=true):Raw K mg x st:=⟨⟨f,_,We l c k,L7 X G a⟩⟩
structure jF(P:Program)(w:World)(K:aA)(mg:Str→Option Value)(base:Heap)(x:Str)(k:Nat)(n:Nat)(sp:Sp):Prop where
 ex:∃f fd ps,ps.length=n∧rG P w K mg base Jd k f fd ps sp∧Binds K fd ps []∧F6 K (.ref f)=true∧mg x=some (.ref f)
A9 Raw.cal{P:Program}{w:World}{K:aA}{mg:Str→Option Value}{base:Heap}{x:Str}{st:Stmt}{N ps:List Str}{k:Nat}{sp:Sp}(R:Raw K mg x st)(S:bA N ps (aF st))(len:∀vs H Q E,sp vs H Q E→vs.length=ps.length)
  (hb:∀(kV doc pm:Value)(an:Option Addr)(cdv ct:Value)(us:List Value),us.length=ps.length→bindArgs (E2 x x (cW st) (bN st) (aF st) .none kV doc pm an cdv ct) ⟨us,[]⟩=pure (ps.zip us))
  (hbody:∀(f:Addr)(cdv:Value)(A:Around)(outer:List Env)(s:Shared)(H:Hp)(vs:List V)(Q:VK)(E:XK),gF k (A.deeper (envOfC x (aF st) s.heap.objs.size f cdv))→sp vs H Q E →
   ∃t,Es (wW Jd P w K mg base N x (aF st) f cdv A outer s H E).Vg (bN st) t∧t {nx:=fun _ H'=>Q .non H',rt:=Q} (start N vs) H):jF P w K mg base x (k+1) ps.length sp:=by
 A7⟨f,fd,F,m⟩:=R.ex
 ~⟨f,fd,ps,rfl,F.ok S len fun cdv A outer s H vs Q E hr h=>hbody f cdv A outer s H vs Q E hr h,F.binds hb,F.kp,m⟩
A9 Wk{X:Cx}{x:Str}{k n:Nat}{sp:Sp}{e:Expr}{es:List Expr}{p pos:Pos}{t:TA}(C:jF X.prog X.w X.K X.mg X.base x k n sp)(hr:gF k X.A)(hg:Gl X x)
  (ha:PA X (e::es) t) (hdb:(x==("__debug__" : Str))=false:=by decide) (he:starEach (e::es) X.env=(false,eval e X.env)::starEach es X.env:=by rfl) (hpl:(backTo pos (starEach es X.env)).any (·.1)=false:=by rfl) :
  PE X (.Call (.Name x p) (e::es) [] pos) (zW sp [] E0 t):=by
 A7⟨f,fd,ps,_,F,hb,hk,hm⟩:=C.ex
 ~Pg F hr hg hm hk hb .nil Zr ha hdb he hpl
A9 call_of{sp:Sp}{E:XK}{t:TA}{σ:St}{H:Hp}{Q:VK}(h:t σ H fun vs H1=>sp vs H1 Q E):zW sp [] E t σ H Q:=by
 A8 zW
 have e:(fun(vs:List V) (H1:Hp)=>sp (vs++[]) H1 Q E)=fun vs H1=>sp vs H1 Q E:=by funext vs H1;rw[J5]
 rw[e]
 ~h
A9 bT{H:Hp}{p:Addr}(h:H p=none)(o:HO):aH H (upd H p o):=fun b u q=>by rw[aX (dM q h)];~q
A9 aH.tup{K:aA}{H H':Hp}{a:Addr}{xs:List V}(e:aH H H')(h:lB K H a xs):lB K H' a xs:=by
 rcases h with (h | ⟨o,h⟩) | h
 ·~.inl (.inl (e _ _ h))
 ·~.inl (.inr ⟨o,e _ _ h⟩)
 ·~.inr h
mutual
A9 aH.reads{K:aA}{H H':Hp}(e:aH H H'):∀(d:DV)(x:V),Reads K H d x→Reads K H' d x
 | .int i,x,h=>by A8 Reads at h ⊢;~h
 | .non,x,h=>by A8 Reads at h ⊢;~h
 | .lst ds,x,h=>by
  A8 Reads at h ⊢
  A7⟨a,xs,r,hq,l⟩:=h
  ~⟨a,xs,r,e.seq hq,aH.Cy e ds xs l⟩
 | .tup ds,x,h=>by
  A8 Reads at h ⊢
  A7⟨a,xs,r,hq,l⟩:=h
  ~⟨a,xs,r,e.tup hq,aH.Cy e ds xs l⟩
A9 aH.Cy{K:aA}{H H':Hp}(e:aH H H'):∀(ds:List DV)(xs:List V),bB K H ds xs→bB K H' ds xs
 | [],xs,h=>by A8 bB at h ⊢;~h
 | d::ds,xs,h=>by
  A8 bB at h ⊢
  A7⟨y,ys,r,h1,h2⟩:=h
  ~⟨y,ys,r,aH.reads e d y h1,aH.Cy e ds ys h2⟩
end
A9 rN:∀ns:List Int,bK (ns.map DV.int)=0
 | []=>by rw[G1];A8 bK;rfl
 | n::ns=>by rw[C9];A8 bK DV.depth;rw[rN ns];rfl
A9 Ko{ns ms:List Int}:ns.map DV.int=ms.map DV.int↔ns=ms:=by
 constructor
 ·intro h
  have:∀(a b:Int),DV.int a=DV.int b→a=b:=fun a b e=>by cases e;rfl
  ~(List.map_inj_right this).mp h
 ·rintro rfl;rfl
A9 JB{xs:List V}{k:Int}{v:V}(h0:0≤k)(h:xs[k.toNat]?=some v):Aa xs k=some v:=by
 have ek:k=((k.toNat:Nat):Int):=by omega
 rw[ek]
 ~Pn h
end L2
namespace L2
A9 cQ.at{scope:PySem.Scope}{N:List PySem.Str}{k:Nat}{fr:List Nat}(zN:PySem.Scope)(oN:List PySem.Str)(h:Kf zN scope oN N k fr=true):cQ zN scope oN N k fr:=cQ.of h
end L2
namespace L2
open PySem PySem.Spec PyProof.Rows
def nR(H:Hp)(p:Addr):Prop:=(∀xs,H p≠some (.tup xs))∧∀o xs,H p≠some (.oX o (.tup xs))
A9 mC{H:Hp}{p:Addr}{xs:List V}(h:H p=some (.lst xs)):nR H p:=⟨fun ys e=>(by rw[h]at e;cases e),fun o ys e=>(by rw[h]at e;cases e)⟩
A9 Kq{H:Hp}{p:Addr}{kvs:List (Key×V)}(h:H p=some (.dK kvs)):nR H p:=⟨fun ys e=>(by rw[h]at e;cases e),fun o ys e=>(by rw[h]at e;cases e)⟩
A9 lB.upd{K:aA}{H:Hp}{a p:Addr}{xs:List V}{o:HO}(h:lB K H a xs)(n:nR H p):lB K (upd H p o) a xs:=by
 rcases h with (h | ⟨u,h⟩) | h
 ·~.inl (.inl (by rw[aX (fun z=>n.1 xs (by rw[←z];~h))];~h))
 ·~.inl (.inr ⟨u,by rw[aX (fun z=>n.2 u xs (by rw[←z];~h))];~h⟩)
 ·~.inr h
mutual
def cY:DV→Bool
 | .int _=>true
 | .non=>true
 | .lst _=>false
 | .tup ds=>cR ds
def cR:List DV→Bool
 | []=>true
 | d::ds=>cY d&&cR ds
end
mutual
A9 Hv{K:aA}{H:Hp}{p:Addr}{o:HO}(n:nR H p):∀(d:DV)(x:V),cY d=true→Reads K H d x→Reads K (upd H p o) d x
 | .int i,x,_,h=>by A8 Reads at h ⊢;~h
 | .non,x,_,h=>by A8 Reads at h ⊢;~h
 | .lst ds,x,hi,h=>by A8 cY at hi;cases hi
 | .tup ds,x,hi,h=>by
  A8 cY at hi
  A8 Reads at h ⊢
  A7⟨a,xs,r,hq,l⟩:=h
  ~⟨a,xs,r,hq.upd n,rO n ds xs hi l⟩
A9 rO{K:aA}{H:Hp}{p:Addr}{o:HO}(n:nR H p):∀(ds:List DV)(xs:List V),cR ds=true→bB K H ds xs→bB K (upd H p o) ds xs
 | [],xs,_,h=>by A8 bB at h ⊢;~h
 | d::ds,xs,hi,h=>by
  A8 cR at hi
  rw[K4]at hi
  A8 bB at h ⊢
  A7⟨y,ys,r,h1,h2⟩:=h
  ~⟨y,ys,r,Hv n d y hi.1 h1,rO n ds ys hi.2 h2⟩
end
end L2
namespace L2
open PySem PySem.Spec PyProof.Rows
section
variable{X:Cx}
end
end L2
namespace L2
open PySem PySem.Spec PyProof.Rows
end L2
namespace L2
open PySem PySem.Spec PyProof.Rows
section
variable{X:Cx}
end
A9 Af{K:aA}:C8 K (.type "int") (.type "int")=some true:=by A8 C8;rfl
A9 uL{K:aA}:C8 K (.type "bool") (.type "bool")=some true:=by A8 C8;rfl
A9 uM{K:aA}:C8 K (.type "list") (.type "list")=some true:=by A8 C8;rfl
A9 qP{K:aA}:C8 K (.type "tuple") (.type "tuple")=some true:=by A8 C8;rfl
A9 xM{K:aA}:C8 K (.type "int") (.type "bool")=some false:=by
  first | rfl | decide | (A8 C8 R6;rfl) | (A8 C8 R6;simp;decide)
end L2


namespace L2
open PySem PySem.Spec PyProof.Rows
section
variable{X:Cx}
open SeqAt in
A9 Wl(hu:X.A.units+64<cLine):jC X (compareOp .NotEq) (fun x y H Q=>∃ds es,Reads X.K H (.tup ds) x∧Reads X.K H (.tup es) y∧bK ds≤32∧Q (.bl (!lE (.tup ds) (.tup es))) H):=by
 intro pins s σ H x y v u Q I rx ry h
 A7⟨ds,es,r1,r2,hd,q⟩:=h
 A8 Reads at r1 r2
 A7⟨a,xs,rfl,hq1,Hu⟩:=r1
 A7⟨b,ys,rfl,hq2,Cw⟩:=r2
 cases rx
 cases ry
 A7⟨rM,v1,uK,_⟩:=I.tuple hq1
 A7⟨its2,v2,Ae,_⟩:=I.tuple hq2
 have e1:rM.toArray.size=ds.length:=by rw[B3,←v1.length,Hu.length]
 have e2:its2.toArray.size=es.length:=by rw[B3,←v2.length,Cw.length]
 have rc:RcNeAt X.A s (.ref a) (.ref b) (!lE (.tup ds) (.tup es)):=by
  have z:=RcNeAt.tuples (A:=X.A) (s:=s) (l:=a) (b:=b) uK Ae A3 (rK I 32 X.A (fun d e x y u v A a1 a2 a3 a4 a5 a6=>xK I 32 d e x y u v A a1 a2 a3 a4 a5 a6) ds es xs ys rM its2 hd A3 Hu Cw v1 v2)
  rw[e1,e2]at z
  by_cases hl:ds.length=es.length
  ·rw[←hl,Nat.min_self,fJ hl]at z
   rw[Fe]
   simpa using z
  ·rw[cC (by intro z;cases z;~hl rfl)]
   have zz:(ds.length==es.length)=false:=by simpa using hl
   rw[zz,R5]at z
   ~z
 ~rc X.prog X.w X.xe _ ⟨.bl _,H,I,rfl,q⟩
end
end L2


namespace L2
open PySem PySem.Spec PyProof.Rows
inductive D where
  | non | bl (b:Bool) | int (i:Int) | str (x:Str)
  | lst (ds:List D) | tup (ds:List D)
  | dk (ks:List Key) (ds:List D)
  | dt (ks:List (List Key)) (ds:List D)
  | ins (C:Addr) (nm:List Str) (ds:List D)
abbrev Fp:=Addr→Prop
def Apart(A B:Fp):Prop:=∀x,A x→¬B x
def Is(A B:Fp):Prop:=∀x,A x↔B x
def None(A:Fp):Prop:=∀x,¬A x
abbrev dY(A B:Fp):Fp:=fun x=>A x∨B x
mutual
def Rv(K:aA)(H:Hp):D→V→Prop
 | .non,v=>v=.non
 | .bl b,v=>v=.bl b
 | .int i,v=>v=.int i
 | .str x,v=>v=.str x
 | .lst ds,v=>∃a xs,v=.ref a∧iH K H a xs∧bG K H ds xs
 | .tup ds,v=>∃a xs,v=.ref a∧lB K H a xs∧bG K H ds xs
 | .dk ks ds,v=>∃a xs,v=.ref a∧Rd H a (.dK (ks.zip xs))∧ks.length=xs.length∧bG K H ds xs
 | .dt ks ds,v=>∃a xs,v=.ref a∧Rd H a (.dT (ks.zip xs))∧ks.length=xs.length∧bG K H ds xs
 | .ins C nm ds,v=>∃a dx xs,v=.ref a∧H a=some (.ins C dx (nm.zip xs))∧nm.length=xs.length∧bG K H ds xs
def bG(K:aA)(H:Hp):List D→List V→Prop
 | [],xs=>xs=[]
 | d::ds,xs=>∃y ys,xs=y::ys∧Rv K H d y∧bG K H ds ys
end
A9 aH.rd{H H':Hp}(e:aH H H'){a:Addr}{u:HO}(h:Rd H a u):Rd H' a u:=by
 rcases h with h | ⟨o,h⟩
 ·~.inl (e _ _ h)
 ·~.inr ⟨o,e _ _ h⟩
mutual
A9 aH.rv{K:aA}{H H':Hp}(e:aH H H'):∀(d:D)(v:V),Rv K H d v→Rv K H' d v
 | .non,v,h=>by A8 Rv at h ⊢;~h
 | .bl _,v,h=>by A8 Rv at h ⊢;~h
 | .int _,v,h=>by A8 Rv at h ⊢;~h
 | .str _,v,h=>by A8 Rv at h ⊢;~h
 | .lst ds,v,h=>by A8 Rv at h ⊢;A7⟨a,xs,r,hq,l⟩:=h;~⟨a,xs,r,e.seq hq,aH.Je e ds xs l⟩
 | .tup ds,v,h=>by A8 Rv at h ⊢;A7⟨a,xs,r,hq,l⟩:=h;~⟨a,xs,r,e.tup hq,aH.Je e ds xs l⟩
 | .dk ks ds,v,h=>by A8 Rv at h ⊢;A7⟨a,xs,r,hq,hl,l⟩:=h;~⟨a,xs,r,e.rd hq,hl,aH.Je e ds xs l⟩
 | .dt ks ds,v,h=>by A8 Rv at h ⊢;A7⟨a,xs,r,hq,hl,l⟩:=h;~⟨a,xs,r,e.rd hq,hl,aH.Je e ds xs l⟩
 | .ins C nm ds,v,h=>by A8 Rv at h ⊢;A7⟨a,dx,xs,r,hq,hl,l⟩:=h;~⟨a,dx,xs,r,e _ _ hq,hl,aH.Je e ds xs l⟩
A9 aH.Je{K:aA}{H H':Hp}(e:aH H H'):∀(ds:List D)(xs:List V),bG K H ds xs→bG K H' ds xs
 | [],xs,h=>by A8 bG at h ⊢;~h
 | d::ds,xs,h=>by A8 bG at h ⊢;A7⟨y,ys,r,h1,h2⟩:=h;~⟨y,ys,r,aH.rv e d y h1,aH.Je e ds ys h2⟩
end
A9 bG.length{K:aA}{H:Hp}:∀{ds:List D} {xs:List V},bG K H ds xs→xs.length=ds.length
 | [],xs,h=>by A8 bG at h;subst h;rfl
 | d::ds,xs,h=>by A8 bG at h;A7⟨y,ys,rfl,_,h2⟩:=h;rw[E3,E3,bG.length h2]
A9 bG.get{K:aA}{H:Hp}:∀{ds:List D} {xs:List V} {i:Nat} {d:D},bG K H ds xs→ds[i]?=some d→∃x,xs[i]?=some x∧Rv K H d x
 | [],xs,i,d,h,e=>by simp at e
 | d'::ds,xs,0,d,h,e=>by A8 bG at h;A7⟨y,ys,rfl,h1,_⟩:=h;simp at e;subst e;~⟨y,rfl,h1⟩
 | d'::ds,xs,i+1,d,h,e=>by
  A8 bG at h
  A7⟨y,ys,rfl,_,h2⟩:=h
  A7⟨x,e1,e2⟩:=bG.get (i:=i) (d:=d) h2 (by simpa using e)
  ~⟨x,by simpa using e1,e2⟩
A9 bG.of{K:aA}{H:Hp}:∀{ds:List D} {xs:List V},xs.length=ds.length→(∀(i:Nat)(d:D)(x:V),ds[i]?=some d→xs[i]?=some x→Rv K H d x)→bG K H ds xs
 | [],xs,hl,_=>by A8 bG;~List.eq_nil_of_length_eq_zero hl
 | d::ds,[],hl,_=>by simp at hl
 | d::ds,x::xs,hl,h=>by
  A8 bG
  ~⟨x,xs,rfl,h 0 d x rfl rfl,bG.of (by simpa using hl) fun i e y h1 h2=>h (i+1) e y (by simpa using h1) (by simpa using h2)⟩
def cN{α β:Type}(R:α→Fp→β→Prop):List α→Fp→List β→Prop
 | [],A,ys=>None A∧ys=[]
 | d::ds,A,ys=>∃y yt A1 A2,ys=y::yt∧Apart A1 A2∧Is A (dY A1 A2)∧R d A1 y∧cN R ds A2 yt
section
variable{α β:Type}{R R':α→Fp→β→Prop}
A9 cN.congr:∀{ds:List α} {A A':Fp} {ys:List β},cN R ds A ys→Is A A'→cN R ds A' ys
 | [],A,A',ys,h,e=>⟨fun x q=>h.1 x ((e x).mpr q),h.2⟩
 | d::ds,A,A',ys,⟨y,yt,A1,A2,h1,h2,h3,h4⟩,e=>⟨y,yt,A1,A2,h1,h2,fun x=>((e x).symm).trans (h3 x),h4⟩
A9 cN.mono:∀{ds:List α} {A:Fp} {ys:List β},cN R ds A ys→(∀e B z,(∀x,B x→A x)→R e B z→R' e B z)→cN R' ds A ys
 | [],A,ys,h,_=>h
 | d::ds,A,ys,⟨y,yt,A1,A2,h1,h2,h3,h4,h5⟩,m=>
  ⟨y,yt,A1,A2,h1,h2,h3,m _ _ _ (fun x q=>(h3 x).mpr (.inl q)) h4,h5.mono fun e B z hb=>m e B z fun x q=>(h3 x).mpr (.inr (hb x q))⟩
A9 cN.len:∀{ds:List α} {A:Fp} {ys:List β},cN R ds A ys→ys.length=ds.length
 | [],A,ys,h=>by rw[h.2];rfl
 | d::ds,A,ys,⟨y,yt,A1,A2,h1,h2,h3,h4,h5⟩=>by rw[h1,E3,E3,h5.len]
A9 cN.focus:∀{ds:List α} {A:Fp} {ys:List β} {i:Nat} {d:α},cN R ds A ys→ds[i]?=some d→∃y A1 C,ys[i]?=some y∧Apart A1 C∧Is A (dY A1 C)∧R d A1 y ∧
    ∀(R':α→Fp→β→Prop),(∀e B z,(∀x,B x→C x)→R e B z→R' e B z)→∀d' y' Oi,Apart Oi C→R' d' Oi y'→cN R' (ds.set i d') (dY Oi C) (ys.set i y')
  | [],A,ys,i,d,h,e=>by simp at e
  | d0::ds,A,ys,0,d,⟨y,yt,A1,A2,h1,h2,h3,h4,h5⟩,e=>by
    simp at e
    subst e h1
    ~⟨y,A1,A2,rfl,h2,h3,h4,fun R' m d' y' Oi ap r=>⟨y',yt,Oi,A2,rfl,ap,fun x=>Iff.rfl,r,h5.mono m⟩⟩
  | d0::ds,A,ys,i+1,d,⟨y,yt,A1,A2,h1,h2,h3,h4,h5⟩,e=>by
    subst h1
    A7⟨z,B1,C,e1,ap,hA,r,k⟩:=cN.focus (i:=i) (d:=d) h5 (by simpa using e)
    &⟨z,B1,dY A1 C,by simpa using e1,?_,?_,r,fun R' m d' y' Oi ap' r'=>?_⟩
    · intro x hx hc
      rcases hc with hc | hc
      · ~h2 x hc ((hA x).mpr (.inl hx))
      · ~ap x hx hc
    · intro x
      rw[h3 x]
      constructor
      · rintro(q | q)
        · ~.inr (.inl q)
        · rcases(hA x).mp q with q | q
          · ~.inl q
          · ~.inr (.inr q)
      · rintro(q | q | q)
        · ~.inr ((hA x).mpr (.inl q))
        · ~.inl q
        · ~.inr ((hA x).mpr (.inr q))
    · &⟨y,_,A1,dY Oi C,rfl,?_,?_,m _ _ _ (fun x q=>.inl q) h4,k R' (fun e B z hb=>m e B z fun x q=>.inr (hb x q)) d' y' Oi (fun x q q'=>ap' x q (.inr q')) r'⟩
      · intro x q q'
        rcases q' with q' | q'
        · ~ap' x q' (.inl q)
        · ~h2 x q ((hA x).mpr (.inr q'))
      · intro x
        show (Oi x∨A1 x∨C x)↔(A1 x∨Oi x∨C x)
        constructor
        · rintro(q | q | q)
          · ~.inr (.inl q)
          · ~.inl q
          · ~.inr (.inr q)
        · rintro(q | q | q)
          · ~.inr (.inl q)
          · ~.inl q
          · ~.inr (.inr q)
A9 cN.snoc:∀{ds:List α} {A A1:Fp} {ys:List β} {d:α} {y:β},cN R ds A ys→R d A1 y→Apart A A1→cN R (ds++[d]) (dY A A1) (ys++[y])
 | [],A,A1,ys,d,y,h,r,ap=>by
  rw[h.2]
  ~⟨y,[],A1,fun _=>False,rfl,fun _ _ z=>z,fun x=>⟨fun q=>q.elim (fun q=>absurd q (h.1 x)) .inl,fun q=>q.elim .inr False.elim⟩,r,fun _ z=>z,rfl⟩
 | d0::ds,A,A1,ys,d,y,⟨y0,yt,B1,B2,h1,h2,h3,h4,h5⟩,r,ap=>by
  subst h1
  &⟨y0,yt++[y],B1,dY B2 A1,rfl,?_,?_,h4,cN.snoc h5 r fun x q=>ap x ((h3 x).mpr (.inr q))⟩
  ·intro x q q'
   rcases q' with q' | q'
   ·~h2 x q q'
   ·~ap x ((h3 x).mpr (.inl q)) q'
  ·intro x
   show (A x∨A1 x)↔(B1 x∨B2 x∨A1 x)
   rw[h3 x]
   ~or_assoc
end
mutual
def Ow(K:aA)(H:Hp):D→Fp→V→Prop
 | .non,A,v=>None A∧v=.non
 | .bl b,A,v=>None A∧v=.bl b
 | .int i,A,v=>None A∧v=.int i
 | .str x,A,v=>None A∧v=.str x
 | .lst ds,A,v=>∃a xs B,v=.ref a∧H a=some (.lst xs)∧¬B a∧Is A (dY (·=a) B)∧cZ K H ds B xs
 | .tup ds,A,v=>∃a xs,v=.ref a∧lB K H a xs∧cZ K H ds A xs
 | .dk ks ds,A,v=>∃a xs B,v=.ref a∧H a=some (.dK (ks.zip xs))∧ks.length=xs.length∧¬B a∧Is A (dY (·=a) B)∧cZ K H ds B xs
 | .dt ks ds,A,v=>∃a xs B,v=.ref a∧H a=some (.dT (ks.zip xs))∧ks.length=xs.length∧¬B a∧Is A (dY (·=a) B)∧cZ K H ds B xs
 | .ins C nm ds,A,v=>∃a dx xs B,v=.ref a∧H a=some (.ins C dx (nm.zip xs))∧H dx=some (.own a)∧nm.length=xs.length∧¬B a∧¬B dx∧Is A (dY (fun x=>x=a∨x=dx) B)∧cZ K H ds B xs
def cZ(K:aA)(H:Hp):List D→Fp→List V→Prop
 | [],A,ys=>None A∧ys=[]
 | d::ds,A,ys=>∃y yt A1 A2,ys=y::yt∧Apart A1 A2∧Is A (dY A1 A2)∧Ow K H d A1 y∧cZ K H ds A2 yt
end
A9 dI{K:aA}{H:Hp}:∀{ds:List D} {A:Fp} {ys:List V},cZ K H ds A ys↔cN (Ow K H) ds A ys
 | [],A,ys=>by A8 cZ cN;~Iff.rfl
 | d::ds,A,ys=>by
  A8 cZ cN
  constructor
  ·rintro⟨y,yt,A1,A2,h1,h2,h3,h4,h5⟩;~⟨y,yt,A1,A2,h1,h2,h3,h4,dI.mp h5⟩
  ·rintro⟨y,yt,A1,A2,h1,h2,h3,h4,h5⟩;~⟨y,yt,A1,A2,h1,h2,h3,h4,dI.mpr h5⟩
def oZ(K:aA)(H H':Hp):Prop:=∀a xs,lB K H a xs→lB K H' a xs
A9 aH.tk{K:aA}{H H':Hp}(e:aH H H'):oZ K H H':=fun _ _ h=>e.tup h
A9 Ow.congr{K:aA}{H:Hp}{d:D}{A A':Fp}{v:V}(h:Ow K H d A v)(e:Is A A'):Ow K H d A' v:=by
 cases d with
 | non=>A8 Ow at h ⊢;~⟨fun x q=>h.1 x ((e x).mpr q),h.2⟩
 | bl b=>A8 Ow at h ⊢;~⟨fun x q=>h.1 x ((e x).mpr q),h.2⟩
 | int b=>A8 Ow at h ⊢;~⟨fun x q=>h.1 x ((e x).mpr q),h.2⟩
 | str b=>A8 Ow at h ⊢;~⟨fun x q=>h.1 x ((e x).mpr q),h.2⟩
 | lst ds=>A8 Ow at h ⊢;A7⟨a,xs,B,h1,h2,h3,h4,h5⟩:=h;~⟨a,xs,B,h1,h2,h3,fun x=>(e x).symm.trans (h4 x),h5⟩
 | tup ds=>A8 Ow at h ⊢;A7⟨a,xs,h1,h2,h3⟩:=h;~⟨a,xs,h1,h2,dI.mpr ((dI.mp h3).congr e)⟩
 | dk ks ds=>A8 Ow at h ⊢;A7⟨a,xs,B,h1,h2,h2',h3,h4,h5⟩:=h;~⟨a,xs,B,h1,h2,h2',h3,fun x=>(e x).symm.trans (h4 x),h5⟩
 | dt ks ds=>A8 Ow at h ⊢;A7⟨a,xs,B,h1,h2,h2',h3,h4,h5⟩:=h;~⟨a,xs,B,h1,h2,h2',h3,fun x=>(e x).symm.trans (h4 x),h5⟩
 | ins C nm ds=>A8 Ow at h ⊢;A7⟨a,dx,xs,B,h1,h2,h2',h3,h3',h3'',h4,h5⟩:=h;~⟨a,dx,xs,B,h1,h2,h2',h3,h3',h3'',fun x=>(e x).symm.trans (h4 x),h5⟩
mutual
A9 Ow.frame{K:aA}{H H':Hp}(t:oZ K H H'):∀(d:D)(A:Fp)(v:V),Ow K H d A v→(∀a,A a→H' a=H a)→Ow K H' d A v
 | .non,A,v,h,f=>by A8 Ow at h ⊢;~h
 | .bl _,A,v,h,f=>by A8 Ow at h ⊢;~h
 | .int _,A,v,h,f=>by A8 Ow at h ⊢;~h
 | .str _,A,v,h,f=>by A8 Ow at h ⊢;~h
 | .lst ds,A,v,h,f=>by
  A8 Ow at h ⊢
  A7⟨a,xs,B,h1,h2,h3,h4,h5⟩:=h
  ~⟨a,xs,B,h1,(f a ((h4 a).mpr (.inl rfl))).trans h2,h3,h4,cZ.frame t ds B xs h5 fun b q=>f b ((h4 b).mpr (.inr q))⟩
 | .tup ds,A,v,h,f=>by A8 Ow at h ⊢;A7⟨a,xs,h1,h2,h3⟩:=h;~⟨a,xs,h1,t _ _ h2,cZ.frame t ds A xs h3 f⟩
 | .dk ks ds,A,v,h,f=>by
  A8 Ow at h ⊢
  A7⟨a,xs,B,h1,h2,h2',h3,h4,h5⟩:=h
  ~⟨a,xs,B,h1,(f a ((h4 a).mpr (.inl rfl))).trans h2,h2',h3,h4,cZ.frame t ds B xs h5 fun b q=>f b ((h4 b).mpr (.inr q))⟩
 | .dt ks ds,A,v,h,f=>by
  A8 Ow at h ⊢
  A7⟨a,xs,B,h1,h2,h2',h3,h4,h5⟩:=h
  ~⟨a,xs,B,h1,(f a ((h4 a).mpr (.inl rfl))).trans h2,h2',h3,h4,cZ.frame t ds B xs h5 fun b q=>f b ((h4 b).mpr (.inr q))⟩
 | .ins C nm ds,A,v,h,f=>by
  A8 Ow at h ⊢
  A7⟨a,dx,xs,B,h1,h2,h2',h3,h3',h3'',h4,h5⟩:=h
  ~⟨a,dx,xs,B,h1,(f a ((h4 a).mpr (.inl (.inl rfl)))).trans h2,(f dx ((h4 dx).mpr (.inl (.inr rfl)))).trans h2',h3,h3',h3'',h4,cZ.frame t ds B xs h5 fun b q=>f b ((h4 b).mpr (.inr q))⟩
A9 cZ.frame{K:aA}{H H':Hp}(t:oZ K H H'):∀(ds:List D)(A:Fp)(ys:List V),cZ K H ds A ys→(∀a,A a→H' a=H a)→cZ K H' ds A ys
 | [],A,ys,h,f=>by A8 cZ at h ⊢;~h
 | d::ds,A,ys,h,f=>by
  A8 cZ at h ⊢
  A7⟨y,yt,A1,A2,h1,h2,h3,h4,h5⟩:=h
  ~⟨y,yt,A1,A2,h1,h2,h3,Ow.frame t d A1 y h4 fun b q=>f b ((h3 b).mpr (.inl q)),cZ.frame t ds A2 yt h5 fun b q=>f b ((h3 b).mpr (.inr q))⟩
end
mutual
A9 Ow.rv{K:aA}{H:Hp}:∀(d:D)(A:Fp)(v:V),Ow K H d A v→Rv K H d v
 | .non,A,v,h=>by A8 Ow at h;A8 Rv;~h.2
 | .bl _,A,v,h=>by A8 Ow at h;A8 Rv;~h.2
 | .int _,A,v,h=>by A8 Ow at h;A8 Rv;~h.2
 | .str _,A,v,h=>by A8 Ow at h;A8 Rv;~h.2
 | .lst ds,A,v,h=>by A8 Ow at h;A8 Rv;A7⟨a,xs,B,h1,h2,h3,h4,h5⟩:=h;~⟨a,xs,h1,iH.of h2,cZ.rv ds B xs h5⟩
 | .tup ds,A,v,h=>by A8 Ow at h;A8 Rv;A7⟨a,xs,h1,h2,h3⟩:=h;~⟨a,xs,h1,h2,cZ.rv ds A xs h3⟩
 | .dk ks ds,A,v,h=>by A8 Ow at h;A8 Rv;A7⟨a,xs,B,h1,h2,h2',h3,h4,h5⟩:=h;~⟨a,xs,h1,.inl h2,h2',cZ.rv ds B xs h5⟩
 | .dt ks ds,A,v,h=>by A8 Ow at h;A8 Rv;A7⟨a,xs,B,h1,h2,h2',h3,h4,h5⟩:=h;~⟨a,xs,h1,.inl h2,h2',cZ.rv ds B xs h5⟩
 | .ins C nm ds,A,v,h=>by A8 Ow at h;A8 Rv;A7⟨a,dx,xs,B,h1,h2,h2',h3,h3',h3'',h4,h5⟩:=h;~⟨a,dx,xs,h1,h2,h3,cZ.rv ds B xs h5⟩
A9 cZ.rv{K:aA}{H:Hp}:∀(ds:List D)(A:Fp)(ys:List V),cZ K H ds A ys→bG K H ds ys
 | [],A,ys,h=>by A8 cZ at h;A8 bG;~h.2
 | d::ds,A,ys,h=>by A8 cZ at h;A8 bG;A7⟨y,yt,A1,A2,h1,h2,h3,h4,h5⟩:=h;~⟨y,yt,h1,Ow.rv d A1 y h4,cZ.rv ds A2 yt h5⟩
end
def mZ(H:Hp)(a:Addr):Prop:=(∃o,H a=some o)∧nR H a
mutual
A9 Ow.cells{K:aA}{H:Hp}:∀(d:D)(A:Fp)(v:V),Ow K H d A v→∀a,A a→mZ H a
 | .non,A,v,h,a,q=>by A8 Ow at h;~absurd q (h.1 a)
 | .bl _,A,v,h,a,q=>by A8 Ow at h;~absurd q (h.1 a)
 | .int _,A,v,h,a,q=>by A8 Ow at h;~absurd q (h.1 a)
 | .str _,A,v,h,a,q=>by A8 Ow at h;~absurd q (h.1 a)
 | .lst ds,A,v,h,a,q=>by
  A8 Ow at h
  A7⟨p,xs,B,h1,h2,h3,h4,h5⟩:=h
  rcases(h4 a).mp q with z | z
  ·cases z;~⟨⟨_,h2⟩,mC h2⟩
  ·~cZ.cells ds B xs h5 a z
 | .tup ds,A,v,h,a,q=>by A8 Ow at h;A7⟨p,xs,h1,h2,h3⟩:=h;~cZ.cells ds A xs h3 a q
 | .dk ks ds,A,v,h,a,q=>by
  A8 Ow at h
  A7⟨p,xs,B,h1,h2,h2',h3,h4,h5⟩:=h
  rcases(h4 a).mp q with z | z
  ·cases z;~⟨⟨_,h2⟩,Kq h2⟩
  ·~cZ.cells ds B xs h5 a z
 | .dt ks ds,A,v,h,a,q=>by
  A8 Ow at h
  A7⟨p,xs,B,h1,h2,h2',h3,h4,h5⟩:=h
  rcases(h4 a).mp q with z | z
  ·cases z;~⟨⟨_,h2⟩,fun ys e=>(by rw[h2]at e;cases e),fun o ys e=>(by rw[h2]at e;cases e)⟩
  ·~cZ.cells ds B xs h5 a z
 | .ins C nm ds,A,v,h,a,q=>by
  A8 Ow at h
  A7⟨p,dx,xs,B,h1,h2,h2',h3,h3',h3'',h4,h5⟩:=h
  rcases(h4 a).mp q with (z | z) | z
  ·cases z;~⟨⟨_,h2⟩,fun ys e=>(by rw[h2]at e;cases e),fun o ys e=>(by rw[h2]at e;cases e)⟩
  ·cases z;~⟨⟨_,h2'⟩,fun ys e=>(by rw[h2']at e;cases e),fun o ys e=>(by rw[h2']at e;cases e)⟩
  ·~cZ.cells ds B xs h5 a z
A9 cZ.cells{K:aA}{H:Hp}:∀(ds:List D)(A:Fp)(ys:List V),cZ K H ds A ys→∀a,A a→mZ H a
 | [],A,ys,h,a,q=>by A8 cZ at h;~absurd q (h.1 a)
 | d::ds,A,ys,h,a,q=>by
  A8 cZ at h
  A7⟨y,yt,A1,A2,h1,h2,h3,h4,h5⟩:=h
  rcases(h3 a).mp q with z | z
  ·~Ow.cells d A1 y h4 a z
  ·~cZ.cells ds A2 yt h5 a z
end
mutual
def D.cY:D→Bool
  | .non=>true | .bl _=>true | .int _=>true | .str _=>true
  | .tup ds=>D.cR ds
  | _=>false
def D.cR:List D→Bool
  | []=>true
  | d::ds=>D.cY d&&D.cR ds
end
abbrev nil:Fp:=fun _=>False
mutual
A9 rP{K:aA}{H:Hp}:∀(d:D)(v:V),d.cY=true→Rv K H d v→Ow K H d nil v
 | .non,v,_,h=>by A8 Rv at h;A8 Ow;~⟨fun _ z=>z,h⟩
 | .bl _,v,_,h=>by A8 Rv at h;A8 Ow;~⟨fun _ z=>z,h⟩
 | .int _,v,_,h=>by A8 Rv at h;A8 Ow;~⟨fun _ z=>z,h⟩
 | .str _,v,_,h=>by A8 Rv at h;A8 Ow;~⟨fun _ z=>z,h⟩
 | .tup ds,v,i,h=>by A8 D.cY at i;A8 Rv at h;A8 Ow;A7⟨a,xs,h1,h2,h3⟩:=h;~⟨a,xs,h1,h2,xN ds xs i h3⟩
 | .lst ds,v,i,h=>by A8 D.cY at i;cases i
 | .dk _ ds,v,i,h=>by A8 D.cY at i;cases i
 | .dt _ ds,v,i,h=>by A8 D.cY at i;cases i
 | .ins _ _ ds,v,i,h=>by A8 D.cY at i;cases i
A9 xN{K:aA}{H:Hp}:∀(ds:List D)(ys:List V),D.cR ds=true→bG K H ds ys→cZ K H ds nil ys
 | [],ys,_,h=>by A8 bG at h;A8 cZ;~⟨fun _ z=>z,h⟩
 | d::ds,ys,i,h=>by
  A8 D.cR at i
  rw[K4]at i
  A8 bG at h
  A8 cZ
  A7⟨y,yt,h1,h2,h3⟩:=h
  ~⟨y,yt,nil,nil,h1,fun _ z _=>z,fun x=>⟨False.elim,fun z=>z.elim id id⟩,rP d y i.1 h2,xN ds yt i.2 h3⟩
end
open Classical in
noncomputable def out(H:Hp)(A:Fp):Hp:=fun a=>if A a then none else H a
A9 xO{H:Hp}{A:Fp}{a:Addr}(h:¬A a):out H A a=H a:=by A8 out;rw[if_neg h]
A9 aZ{H:Hp}{A:Fp}{a:Addr}{o:HO}:out H A a=some o↔¬A a∧H a=some o:=by
 A8 out
 split
 ·rename_i h;~⟨fun z=>(by cases z),fun z=>absurd h z.1⟩
 ·rename_i h;~⟨fun z=>⟨h,z⟩,fun z=>z.2⟩
A9 gH(H:Hp)(A:Fp):aH (out H A) H:=fun b o h=>(aZ.mp h).2
A9 Kr{K:aA}{H:Hp}{A:Fp}(h:∀a,A a→nR H a):oZ K H (out H A):=fun a xs q=>by
 rcases q with (q | ⟨o,q⟩) | q
 ·~.inl (.inl (aZ.mpr ⟨fun z=>(h a z).1 _ q,q⟩))
 ·~.inl (.inr ⟨o,aZ.mpr ⟨fun z=>(h a z).2 _ _ q,q⟩⟩)
 ·~.inr q
A9 Ow.out{K:aA}{H:Hp}{d:D}{A A':Fp}{v:V}(h:Ow K H d A' v)(ap:Apart A' A)(c:∀a,A a→nR H a):Rv K (out H A) d v:=
 Ow.rv d A' v (Ow.frame (Kr c) d A' v h fun a q=>xO (ap a q))
end L2


namespace L2
open PySem PySem.Spec PyProof.Rows
abbrev DE:=List (Option D)
abbrev FE:=DE→Option D
abbrev FA:=DE→Option (List D)
abbrev FT:=DE→Option Bool
def oW(K:aA)(H:Hp)(e:DE)(σ:St):Prop:=∀(i:Nat)(d:D),e[i]?=some (some d)→∃v,σ[i]?=some (some v)∧Rv K H d v
A9 oW.same{K:aA}{H H':Hp}{e:DE}{σ:St}(h:oW K H e σ)(s:aH H H'):oW K H' e σ:=fun i d q=>let ⟨v,h1,h2⟩:=h i d q;⟨v,h1,s.rv _ _ h2⟩
structure Zn(K:aA)(N:Fp)(Z H:Hp):Prop where
 sm:aH Z H
 tk:oZ K H Z
 no:∀a,N a→Z a=none∧¬H a=none
A9 Zn.self(K:aA)(H:Hp):Zn K nil H H:=⟨aH.refl _,fun _ _ h=>h,fun _ z=>z.elim⟩
A9 oZ.trans{K:aA}{H H1 H2:Hp}(a:oZ K H H1)(b:oZ K H1 H2):oZ K H H2:=fun p xs h=>b p xs (a p xs h)
A9 Ow.same{K:aA}{H H':Hp}{d:D}{A:Fp}{v:V}(h:Ow K H d A v)(s:aH H H'):Ow K H' d A v:=
 Ow.frame s.tk d A v h fun a q=>by
  A7⟨⟨o,e⟩,_⟩:=Ow.cells d A v h a q
  rw[e];~s a o e
A9 cZ.same{K:aA}{H H':Hp}{ds:List D}{A:Fp}{vs:List V}(h:cZ K H ds A vs)(s:aH H H'):cZ K H' ds A vs:=
 cZ.frame s.tk ds A vs h fun a q=>by
  A7⟨⟨o,e⟩,_⟩:=cZ.cells ds A vs h a q
  rw[e];~s a o e
def Ag(K:aA)(H H':Hp)(d:D)(v:V):Prop:=∃A,Ow K H' d A v∧∀a,A a→H a=none
def xP(K:aA)(H H':Hp)(ds:List D)(vs:List V):Prop:=∃A,cZ K H' ds A vs∧∀a,A a→H a=none
A9 Ag.rv{K:aA}{H H':Hp}{d:D}{v:V}(h:Ag K H H' d v):Rv K H' d v:=let ⟨A,o,_⟩:=h;Ow.rv d A v o
A9 xP.rv{K:aA}{H H':Hp}{ds:List D}{vs:List V}(h:xP K H H' ds vs):bG K H' ds vs:=let ⟨A,o,_⟩:=h;cZ.rv ds A vs o
A9 Ag.back{K:aA}{H0 H H':Hp}{d:D}{v:V}(h:Ag K H H' d v)(s:aH H0 H):Ag K H0 H' d v:=let ⟨A,o,f⟩:=h;⟨A,o,fun a q=>s.free (f a q)⟩
A9 Ag.cY{K:aA}{H H':Hp}{d:D}{v:V}(i:d.cY=true)(h:Rv K H' d v):Ag K H H' d v:=⟨nil,rP d v i h,fun _ z=>z.elim⟩
A9 xP.cR{K:aA}{H H':Hp}{ds:List D}{vs:List V}(i:D.cR ds=true)(h:bG K H' ds vs):xP K H H' ds vs:=⟨nil,xN ds vs i h,fun _ z=>z.elim⟩
open Classical in
noncomputable def xQ(Z H H':Hp):Hp:=fun a=>if H a=none then H' a else Z a
A9 nT{Z H H':Hp}{a:Addr}(h:H a=none):xQ Z H H' a=H' a:=by A8 xQ;rw[if_pos h]
A9 rQ{Z H H':Hp}{a:Addr}(h:¬H a=none):xQ Z H H' a=Z a:=by A8 xQ;rw[if_neg h]
A9 pA{K:aA}{N:Fp}{Z H H':Hp}(z:Zn K N Z H):aH Z (xQ Z H H'):=fun b o e=>by
 rw[rQ (by rw[z.sm b o e];intro q;cases q)];~e
A9 xR{K:aA}{N:Fp}{Z H H':Hp}(z:Zn K N Z H)(s:aH H H'):Zn K N (xQ Z H H') H' where
  sm:=fun b o e=>by
    by_cases c:H b=none
    · rw[nT c]at e;~e
    · rw[rQ c]at e;~s b o (z.sm b o e)
  tk:=fun a xs h=>by
    by_cases c:H a=none
    · rcases h with (h | ⟨o,h⟩) | h
      · ~.inl (.inl (by rw[nT c];~h))
      · ~.inl (.inr ⟨o,by rw[nT c];~h⟩)
      · ~.inr h
    · have q:lB K H a xs:=by
        rcases h with (h | ⟨o,h⟩) | h
        · cases e:H a with
          | none=>~absurd e c
          | some o=>have:=s a o e;rw[h]at this;cases this;~.inl (.inl e)
        · cases e:H a with
          | none=>~absurd e c
          | some o=>have:=s a o e;rw[h]at this;cases this;~.inl (.inr ⟨_,e⟩)
        · ~.inr h
      ~(pA z).tup (z.tk a xs q)
  no:=fun a q=>⟨by rw[rQ (z.no a q).2];~(z.no a q).1,fun h=>(z.no a q).2 (s.free h)⟩
A9 Ag.zone{K:aA}{N:Fp}{Z H H':Hp}{d:D}{v:V}(h:Ag K H H' d v)(z:Zn K N Z H)(s:aH H H'):Rv K (xQ Z H H') d v:=by
 A7⟨A,o,f⟩:=h
 ~Ow.rv d A v (Ow.frame (xR z s).tk d A v o fun a q=>nT (f a q))
def Cz(K:aA)(t:TE)(f:FE):Prop:=∀{N:Fp}(σ:St)(H Z:Hp)(e:DE)(d:D)(Q:VK),Zn K N Z H→oW K Z e σ→f e=some d →
 (∀v H' Z',aH H H'→aH Z Z'→Zn K N Z' H'→Rv K Z' d v→Q v H')→t σ H Q
def Ci(K:aA)(t:TE)(f:FE):Prop:=∀(σ:St)(H:Hp)(e:DE)(d:D)(Q:VK),oW K H e σ→f e=some d →
 (∀v H',aH H H'→Ag K H H' d v→Q v H')→t σ H Q
def Ks(K:aA)(t:TT)(f:FT):Prop:=∀(σ:St)(H:Hp)(e:DE)(b:Bool)(Q:Bool→Hp→Prop),oW K H e σ→f e=some b→(∀H',aH H H'→Q b H')→t σ H Q
def Yl(K:aA)(t:TA)(f:FA):Prop:=∀{N:Fp}(σ:St)(H Z:Hp)(e:DE)(ds:List D)(Q:List V→Hp→Prop),Zn K N Z H→oW K Z e σ→f e=some ds →
 (∀vs H' Z',aH H H'→aH Z Z'→Zn K N Z' H'→bG K Z' ds vs→Q vs H')→t σ H Q
def Ym(K:aA)(t:TA)(f:FA):Prop:=∀(σ:St)(H:Hp)(e:DE)(ds:List D)(Q:List V→Hp→Prop),oW K H e σ→f e=some ds →
 (∀vs H',aH H H'→xP K H H' ds vs→Q vs H')→t σ H Q
A9 Ci.r{K:aA}{t:TE}{f:FE}(h:Ci K t f):Cz K t f:=fun σ H Z e d Q z r q k=>
 h σ H e d Q (r.same z.sm) q fun v H' s n=>k v H' (xQ Z H H') s (pA z) (xR z s) (n.zone z s)
def Hw(f:FE):FE:=fun e=>(f e).bind fun d=>if d.cY=true then some d else none
A9 vL{f:FE}{e:DE}{d:D}:Hw f e=some d↔f e=some d∧d.cY=true:=by
 A8 Hw
 cases q:f e with
 | none=>simp
 | some a=>
  simp only[C5]
  split
  ·rename_i h;constructor
   ·intro z;cases z;~⟨rfl,h⟩
   ·rintro⟨z,_⟩;~z
  ·rename_i h;constructor
   ·intro z;cases z
   ·rintro⟨z,z2⟩;cases z;~absurd z2 h
A9 Cz.n{K:aA}{t:TE}{f:FE}(h:Cz K t f):Ci K t (Hw f):=fun σ H e d Q r q k=>by
 A7⟨q1,q2⟩:=vL.mp q
 ~h σ H H e d Q (Zn.self K H) r q1 fun v H' Z' s1 s2 z' rv=>k v H' s1 (.cY q2 (z'.sm.rv _ _ rv))
def aG(i:Nat):FE:=fun e=>(e[i]?).getD none
A9 Wm{K:aA}(i:Nat):Cz K (jA i) (aG i):=fun σ H Z e d Q z r q k=>by
 have e1:e[i]?=some (some d):=by
  A8 aG at q
  cases h:e[i]? with
  | none=>rw[h]at q;cases q
  | some o=>rw[h]at q;cases q;rfl
 A7⟨v,h1,h2⟩:=r i d e1
 ~⟨v,h1,k v H Z (aH.refl _) (aH.refl _) z h2⟩
def fC(d:D):FE:=fun _=>some d
A9 Ku{K:aA}(i:Int):Ci K (tC (.int i)) (fC (.int i)):=fun σ H e d Q r q k=>by cases q;~k _ H (aH.refl _) (.cY rfl (by A8 Rv;rfl))
A9 Zu{K:aA}(i:Bool):Ci K (tC (.bl i)) (fC (.bl i)):=fun σ H e d Q r q k=>by cases q;~k _ H (aH.refl _) (.cY rfl (by A8 Rv;rfl))
A9 Kv{K:aA}(i:Str):Ci K (tC (.str i)) (fC (.str i)):=fun σ H e d Q r q k=>by cases q;~k _ H (aH.refl _) (.cY rfl (by A8 Rv;rfl))
def f2(φ:D→D→Option D)(f g:FE):FE:=fun e=>(f e).bind fun a=>(g e).bind fun b=>φ a b
A9 nU{φ:D→D→Option D}{f g:FE}{e:DE}{d:D}(h:f2 φ f g e=some d):∃a b,f e=some a∧g e=some b∧φ a b=some d:=by
 A8 f2 at h
 A7⟨a,h1,h2⟩:=aP h
 A7⟨b,h3,h4⟩:=aP h2
 ~⟨a,b,h1,h3,h4⟩
def QS(K:aA)(r:R2)(φ:D→D→Option D):Prop:=∀{N:Fp}(x y:V)(H Z:Hp)(a b d:D)(Q:VK),Zn K N Z H→Rv K Z a x→Rv K Z b y→φ a b=some d →
 (∀v H' Z',aH H H'→aH Z Z'→Zn K N Z' H'→Rv K Z' d v→Q v H')→r x y H Q
def Dc(K:aA)(r:R2)(φ:D→D→Option D):Prop:=∀(x y:V)(H:Hp)(a b d:D)(Q:VK),Rv K H a x→Rv K H b y→φ a b=some d →
 (∀v H',aH H H'→Ag K H H' d v→Q v H')→r x y H Q
A9 Zv{K:aA}{r:R2}{φ:D→D→Option D}{ta tb:TE}{f g:FE}(o:QS K r φ)(ha:Cz K ta f)(hb:Cz K tb g):Cz K (zM r ta tb) (f2 φ f g):=fun σ H Z e d Q z re q k=>by
 A7⟨a,b,h1,h2,h3⟩:=nU q
 &ha σ H Z e a _ z re h1 fun x H1 Z1 s1 t1 z1 rx=>hb σ H1 Z1 e b _ z1 (re.same t1) h2 fun y H2 Z2 s2 t2 z2 ry=>?_
 ~o x y H2 Z2 a b d Q z2 (t2.rv _ _ rx) ry h3 fun v H3 Z3 s3 t3 z3 rv=>k v H3 Z3 (s1.trans (s2.trans s3)) (t1.trans (t2.trans t3)) z3 rv
A9 Ff{K:aA}{r:R2}{φ:D→D→Option D}{ta tb:TE}{f g:FE}(o:Dc K r φ)(ha:Cz K ta f)(hb:Cz K tb g):Ci K (zM r ta tb) (f2 φ f g):=fun σ H e d Q re q k=>by
 A7⟨a,b,h1,h2,h3⟩:=nU q
 &ha σ H H e a _ (Zn.self K H) re h1 fun x H1 Z1 s1 t1 z1 rx=>hb σ H1 Z1 e b _ z1 (re.same t1) h2 fun y H2 Z2 s2 t2 z2 ry=>?_
 ~o x y H2 a b d Q (z2.sm.rv _ _ (t2.rv _ _ rx)) (z2.sm.rv _ _ ry) h3 fun v H3 s3 n=>k v H3 (s1.trans (s2.trans s3)) (n.back (s1.trans s2))
def uN(C:Int→Int→Prop) [∀i j,Decidable (C i j)] (g:Int→Int→D):D→D→Option D
 | .int i,.int j=>if C i j then some (g i j)else none
 | _,_=>none
A9 rR{C:Int→Int→Prop} [∀i j,Decidable (C i j)] {g:Int→Int→D} {a b d:D} (h:uN C g a b=some d):∃i j,a=.int i∧b=.int j∧C i j∧d=g i j:=by
 A8 uN at h
 split at h
 ·split at h
  ·rename_i i j c;cases h;~⟨i,j,rfl,rfl,c,rfl⟩
  ·cases h
 ·cases h
A9 xT{K:aA}{C:Int→Int→Prop} [∀i j,Decidable (C i j)] {C':Int→Int→Prop} (hC:∀i j,C i j→C' i j) {g:Int→Int→Int}:Dc K (rI C' fun i j=>.int (g i j)) (uN C fun i j=>.int (g i j)):=fun x y H a b d Q ra rb q k=>by
 A7⟨i,j,rfl,rfl,c,rfl⟩:=rR q
 A8 Rv at ra rb
 ~⟨i,j,ra,rb,hC i j c,k _ H (aH.refl _) (.cY rfl (by A8 Rv;rfl))⟩
A9 Qi{K:aA}{g:Int→Int→Int}:Dc K (Jr fun i j=>.int (g i j)) (uN (fun _ _=>True) fun i j=>.int (g i j)):=fun x y H a b d Q ra rb q k=>by
 A7⟨i,j,rfl,rfl,c,rfl⟩:=rR q
 A8 Rv at ra rb
 ~⟨i,j,ra,rb,k _ H (aH.refl _) (.cY rfl (by A8 Rv;rfl))⟩
A9 nA{K:aA}{g:Int→Int→Bool}:Dc K (Jr fun i j=>.bl (g i j)) (uN (fun _ _=>True) fun i j=>.bl (g i j)):=fun x y H a b d Q ra rb q k=>by
 A7⟨i,j,rfl,rfl,c,rfl⟩:=rR q
 A8 Rv at ra rb
 ~⟨i,j,ra,rb,k _ H (aH.refl _) (.cY rfl (by A8 Rv;rfl))⟩
def aM:FA:=fun _=>some []
def aC(f:FE)(fs:FA):FA:=fun e=>(f e).bind fun a=>(fs e).bind fun r=>some (a::r)
A9 qC{f:FE}{fs:FA}{e:DE}{ds:List D}(h:aC f fs e=some ds):∃a r,f e=some a∧fs e=some r∧ds=a::r:=by
 A8 aC at h
 A7⟨a,h1,h2⟩:=aP h
 A7⟨b,h3,h4⟩:=aP h2
 cases h4
 ~⟨a,b,h1,h3,rfl⟩
A9 Wn{K:aA}:Yl K jD aM:=fun σ H Z e ds Q z re q k=>by cases q;~k [] H Z (aH.refl _) (aH.refl _) z (by A8 bG;rfl)
A9 Qj{K:aA}{te:TE}{t:TA}{f:FE}{fs:FA}(h:Cz K te f)(hs:Yl K t fs):Yl K (dD te t) (aC f fs):=fun σ H Z e ds Q z re q k=>by
 A7⟨a,r,h1,h2,rfl⟩:=qC q
 &h σ H Z e a _ z re h1 fun x H1 Z1 s1 t1 z1 rx=>hs σ H1 Z1 e r _ z1 (re.same t1) h2 fun vs H2 Z2 s2 t2 z2 rs=>?_
 ~k _ H2 Z2 (s1.trans s2) (t1.trans t2) z2 (by A8 bG;~⟨x,vs,rfl,t2.rv _ _ rx,rs⟩)
A9 Wo{K:aA}:Ym K jD aM:=fun σ H e ds Q re q k=>by cases q;~k [] H (aH.refl _) (.cR rfl (by A8 bG;rfl))
A9 Qk{K:aA}{te:TE}{t:TA}{f:FE}{fs:FA}(h:Ci K te f)(hs:Ym K t fs):Ym K (dD te t) (aC f fs):=fun σ H e ds Q re q k=>by
 A7⟨a,r,h1,h2,rfl⟩:=qC q
 &h σ H e a _ re h1 fun x H1 s1 n1=>hs σ H1 e r _ (re.same s1) h2 fun vs H2 s2 n2=>?_
 &k _ H2 (s1.trans s2) ?_
 A7⟨A,oA,fA⟩:=n1
 A7⟨B,oB,fB⟩:=n2
 &⟨dY A B,?_,fun p q=>q.elim (fA p) fun z=>s1.free (fB p z)⟩
 A8 cZ
 &⟨x,vs,A,B,rfl,fun p qa qb=>?_,fun _=>Iff.rfl,oA.same s2,oB⟩
 A7⟨⟨o,e1⟩,_⟩:=Ow.cells _ _ _ oA p qa
 rw[fB p qb]at e1;cases e1
def cap(n:Nat)(d:D):Option D:=if n≤100000 then some d else none
A9 rT{n:Nat}{d d':D}(h:cap n d=some d'):n≤100000∧d'=d:=by
 A8 cap at h
 split at h
 ·rename_i c;cases h;~⟨c,rfl⟩
 ·cases h
A9 gR{n:Nat}(h:n≤100000):n≤sizeLine:=by rw[sizeLine_eq];omega
A9 Kw{n:Nat}(h:n≤100000):n<sizeLine:=by rw[sizeLine_eq];omega
def pB(fs:FA):FE:=fun e=>(fs e).bind fun ds=>cap ds.length (.lst ds)
def Hx(fs:FA):FE:=fun e=>(fs e).bind fun ds=>cap ds.length (.tup ds)
A9 qX{K:aA}{H H1:Hp}{ds:List D}{xs:List V}{p:Addr}(s:aH H H1)(n:xP K H H1 ds xs)(hp:H1 p=none):Ag K H (upd H1 p (.lst xs)) (.lst ds) (.ref p):=by
 A7⟨A,o,f⟩:=n
 &⟨dY (·=p) A,?_,fun a q=>q.elim (fun z=>by cases z;~s.free hp) (f a)⟩
 A8 Ow
 &⟨p,xs,A,rfl,bI,fun z=>?_,fun _=>Iff.rfl,o.same (bT hp _)⟩
 A7⟨⟨u,e⟩,_⟩:=cZ.cells _ _ _ o p z
 rw[hp]at e;cases e
A9 Fg{K:aA}{H H1:Hp}{ds:List D}{xs:List V}{p:Addr}(n:xP K H H1 ds xs)(hp:H1 p=none):Ag K H (upd H1 p (.tup xs)) (.tup ds) (.ref p):=by
 A7⟨A,o,f⟩:=n
 &⟨A,?_,f⟩
 A8 Ow
 ~⟨p,xs,rfl,lB.of bI,o.same (bT hp _)⟩
A9 Wq{K:aA}{t:TA}{fs:FA}(h:Ym K t fs):Ci K (Jv t) (pB fs):=fun σ H e d Q re q k=>by
 A8 pB at q
 A7⟨ds,h1,h2⟩:=aP q
 A7⟨hc,rfl⟩:=rT h2
 &h σ H e ds _ re h1 fun xs H1 s1 n=>⟨gR (by rw[n.rv.length];~hc),fun p hp=>?_⟩
 ~k _ _ (s1.trans (bT hp _)) (qX s1 n hp)
A9 Wr{K:aA}{t:TA}{fs:FA}(h:Ym K t fs):Ci K (Vt t) (Hx fs):=fun σ H e d Q re q k=>by
 A8 Hx at q
 A7⟨ds,h1,h2⟩:=aP q
 A7⟨hc,rfl⟩:=rT h2
 &h σ H e ds _ re h1 fun xs H1 s1 n=>⟨gR (by rw[n.rv.length];~hc),fun p hp=>?_⟩
 ~k _ _ (s1.trans (bT hp _)) (Fg n hp)
A9 Ky{K:aA}{N:Fp}{Z H:Hp}{p:Addr}{o:HO}(z:Zn K N Z H)(hp:H p=none):aH Z (upd Z p o)∧Zn K N (upd Z p o) (upd H p o):=by
 have hz:Z p=none:=z.sm.free hp
 &⟨bT hz o,⟨fun b u e=>?_,fun a xs h=>?_,fun a q=>?_⟩⟩
 ·by_cases c:b=p
  ·subst c;rw[bI]at e;rw[bI];~e
  ·rw[aX c]at e;rw[aX c];~z.sm b u e
 ·by_cases c:a=p
  ·subst c
   rcases h with (h | ⟨u,h⟩) | h
   ·rw[bI]at h;~.inl (.inl (by rw[bI];~h))
   ·rw[bI]at h;~.inl (.inr ⟨u,by rw[bI];~h⟩)
   ·~.inr h
  ·have q:lB K H a xs:=by
    rcases h with (h | ⟨u,h⟩) | h
    ·rw[aX c]at h;~.inl (.inl h)
    ·rw[aX c]at h;~.inl (.inr ⟨u,h⟩)
    ·~.inr h
   ~(bT hz o).tup (z.tk a xs q)
 ·have c:a≠p:=fun z'=>(z.no a q).2 (by rw[z'];~hp)
  rw[aX c,aX c];~z.no a q
A9 Ws{K:aA}{t:TA}{fs:FA}(h:Yl K t fs):Cz K (Jv t) (pB fs):=fun σ H Z e d Q z re q k=>by
 A8 pB at q
 A7⟨ds,h1,h2⟩:=aP q
 A7⟨hc,rfl⟩:=rT h2
 &h σ H Z e ds _ z re h1 fun xs H1 Z1 s1 t1 z1 rs=>⟨gR (by rw[rs.length];~hc),fun p hp=>?_⟩
 A7⟨a1,a2⟩:=Ky (o:=.lst xs) z1 hp
 ~k _ _ _ (s1.trans (bT hp _)) (t1.trans a1) a2 (by A8 Rv;~⟨p,xs,rfl,iH.of bI,a1.Je _ _ rs⟩)
end L2


namespace L2
open PySem PySem.Spec PyProof.Rows
structure XR(K:aA)(X:Cx)(e:Expr)(t:TE)(f:FE):Prop where
 hk:X.K=K
 pe:PE X e t
 ev:Cz K t f
structure XN(K:aA)(X:Cx)(e:Expr)(t:TE)(f:FE):Prop where
 hk:X.K=K
 pe:PE X e t
 ev:Ci K t f
structure XT(K:aA)(X:Cx)(e:Expr)(t:TT)(f:FT):Prop where
 hk:X.K=K
 pt:PT X e t
 ev:Ks K t f
structure XW(K:aA)(X:Cx)(e:Expr)(t:TT)(f:FT):Prop where
 hk:X.K=K
 pw:PW X e t
 ev:Ks K t f
structure XA(K:aA)(X:Cx)(es:List Expr)(t:TA)(f:FA):Prop where
 hk:X.K=K
 pa:PA X es t
 ev:Yl K t f
structure XB(K:aA)(X:Cx)(es:List Expr)(t:TA)(f:FA):Prop where
 hk:X.K=K
 pa:PA X es t
 ev:Ym K t f
section
variable{K:aA}{X:Cx}{e a b c:Expr}{es:List Expr}{t ta tb:TE}{f g:FE}{tA:TA}{fs:FA}{pos:Pos}
A9 XN.r(h:XN K X e t f):XR K X e t f:=⟨h.hk,h.pe,h.ev.r⟩
A9 XR.n(h:XR K X e t f):XN K X e t (Hw f):=⟨h.hk,h.pe,Cz.n h.ev⟩
A9 aJ{i:Nat}(h:PE X e (jA i))(hk:X.K=K:=by rfl):XR K X e (jA i) (aG i):=⟨hk,h,Wm i⟩
A9 aO{i:Int}{j:Nat}(hk:X.K=K:=by rfl):XN K X (.Constant (.int i) j pos) (tC (.int i)) (fC (.int i)):=⟨hk,Ux,Ku i⟩
A9 kE{i:Bool}{j:Nat}(hk:X.K=K:=by rfl):XN K X (.Constant (.bool i) j pos) (tC (.bl i)) (fC (.bl i)):=⟨hk,Ys,Zu i⟩
A9 Dd{x:Str}{j:Nat}(hk:X.K=K:=by rfl):XN K X (.Constant (.str x) j pos) (tC (.str x)) (fC (.str x)):=⟨hk,Uy,Kv x⟩
A9 vM{op:Operator}{r:R2}{φ:D→D→Option D}(ho:jC X (binaryOp op) r)(hd:Dc K r φ)(ha:XR K X a ta f)(hb:XR K X b tb g):XN K X (.BinOp a op b pos) (zM r ta tb) (f2 φ f g):=⟨ha.hk,Za ho ha.pe hb.pe,Ff hd ha.ev hb.ev⟩
def De:D→D→Option D:=uN (fun _ _=>True) fun i j=>.int (i-j)
instance (i j:Int):Decidable (uH i j):=by A8 uH;~inferInstance
instance (i j:Int):Decidable (Hg i j):=by A8 Hg;~inferInstance
instance (i j:Int):Decidable (Hh i j):=by A8 Hh;~inferInstance
def rW:D→D→Option D:=uN uH fun i j=>.int (i*j)
def uO:D→D→Option D:=uN Hg fun i j=>.int (i/j)
def gO:D→D→Option D:=uN (fun _ j=>0<j) fun i j=>.int (i%j)
def Ah:D→D→Option D:=uN Hh fun i j=>.int (i ^ j.toNat)
A9 Kz(ha:XR K X a ta f)(hb:XR K X b tb g):XN K X (.BinOp a .Sub b pos) (zM (Jr fun i j=>.int (i-j)) ta tb) (f2 De f g):=vM Vm Qi ha hb
A9 lH(ha:XR K X a ta f)(hb:XR K X b tb g):XN K X (.BinOp a .Mult b pos) (zM (rI uH fun i j=>.int (i*j)) ta tb) (f2 rW f g):=vM Vn (xT fun _ _ h=>h) ha hb
A9 xU(ha:XR K X a ta f)(hb:XR K X b tb g):XN K X (.BinOp a .FloorDiv b pos) (zM (rI Hg fun i j=>.int (i/j)) ta tb) (f2 uO f g):=vM Ov (xT fun _ _ h=>h) ha hb
A9 dZ(ha:XR K X a ta f)(hb:XR K X b tb g):XN K X (.BinOp a .Mod b pos) (zM (rI (fun _ j=>0<j) fun i j=>.int (i%j)) ta tb) (f2 gO f g):=vM Vo (xT fun _ _ h=>h) ha hb
A9 xV(ha:XR K X a ta f)(hb:XR K X b tb g):XN K X (.BinOp a .Pow b pos) (zM (rI Hh fun i j=>.int (i ^ j.toNat)) ta tb) (f2 Ah f g):=vM Vp (xT fun _ _ h=>h) ha hb
A9 rY{op:CmpOp}{r:R2}{φ:D→D→Option D}(ho:jC X (compareOp op) r)(hd:Dc K r φ)(ha:XR K X a ta f)(hb:XR K X b tb g)(hm:behindInMarks op b=false):XN K X (.Compare a [op] [b] pos) (zM r ta tb) (f2 φ f g):=⟨ha.hk,Ox ho ha.pe hb.pe hm,Ff hd ha.ev hb.ev⟩
def fB(f:FE):FT:=fun e=>(f e).bind fun d=>match d with | .bl b=>some b | _=>none
A9 nW{f:FE}{e:DE}{b:Bool}(h:fB f e=some b):f e=some (.bl b):=by
 A8 fB at h
 A7⟨d,h1,h2⟩:=aP h
 split at h2
 ·cases h2;~h1
 ·cases h2
A9 Ql(h:Cz K t f):Ks K (zV t) (fB f):=fun σ H e b Q re q k=>h σ H H e _ _ (Zn.self K H) re (nW q) fun v H' Z' s1 s2 z rv=>by
 A8 Rv at rv
 ~⟨b,rv,k H' s1⟩
A9 Zw(h:Cz K t f):Ks K (tB t) (fB f):=fun σ H e b Q re q k=>h σ H H e _ _ (Zn.self K H) re (nW q) fun v H' Z' s1 s2 z rv=>by
 A8 Rv at rv
 ~⟨b,rv,k H' s1⟩
A9 iI{op:CmpOp}{r:R2}{φ:D→D→Option D}(ho:jC X (compareOp op) r)(hd:Dc K r φ)(ha:XR K X a ta f)(hb:XR K X b tb g)(hm:behindInMarks op b=false):XT K X (.Compare a [op] [b] pos) (zV (zM r ta tb)) (fB (f2 φ f g)):=⟨ha.hk,Oz ho ha.pe hb.pe hm,Ql (Ff hd ha.ev hb.ev).r⟩
A9 dB(h:XR K X e t f)(he:∀whole,isTrue e X.env whole=(do let v ←whole;standAt e.pos;holding [v] (truthy v)):=by intro _;rfl):XT K X e (tB t) (fB f):=⟨h.hk,Uz h.pe he,Zw h.ev⟩
def TF:D→D→Option D:=uN (fun _ _=>True) fun i j=>.bl (decide (i<j))
def Fi:D→D→Option D:=uN (fun _ _=>True) fun i j=>.bl (decide (i≤j))
def JC:D→D→Option D:=uN (fun _ _=>True) fun i j=>.bl (decide (j<i))
def TJ:D→D→Option D:=uN (fun _ _=>True) fun i j=>.bl (decide (j≤i))
def toV:D→Option V
  | .non=>some .non | .bl b=>some (.bl b) | .int i=>some (.int i) | .str x=>some (.str x)
  | _=>none
A9 xW{H:Hp}{d:D}{v x:V}(h:toV d=some v)(r:Rv K H d x):x=v:=by
 cases d<;>A8 toV at h<;>first | (cases h;A8 Rv at r;~r) | cases h
mutual
def cO:D→Option DV
 | .int i=>some (.int i)
 | .non=>some .non
 | .lst ds=>(gU ds).map DV.lst
 | .tup ds=>(gU ds).map DV.tup
 | _=>none
def gU:List D→Option (List DV)
 | []=>some []
 | d::ds=>(cO d).bind fun x=>(gU ds).bind fun xs=>some (x::xs)
end
mutual
A9 jG{H:Hp}:∀(d:D)(x:DV)(v:V),cO d=some x→Rv K H d v→Reads K H x v
 | .int i,x,v,h,r=>by A8 cO at h;cases h;A8 Rv at r;A8 Reads;~r
 | .lst ds,x,v,h,r=>by
  A8 cO at h
  A7⟨xs,h1,rfl⟩:=iG h
  A8 Rv at r;A8 Reads
  A7⟨a,vs,r1,r2,r3⟩:=r
  ~⟨a,vs,r1,r2,rZ ds xs vs h1 r3⟩
 | .tup ds,x,v,h,r=>by
  A8 cO at h
  A7⟨xs,h1,rfl⟩:=iG h
  A8 Rv at r;A8 Reads
  A7⟨a,vs,r1,r2,r3⟩:=r
  ~⟨a,vs,r1,r2,rZ ds xs vs h1 r3⟩
 | .non,x,v,h,r=>by A8 cO at h;cases h;A8 Rv at r;A8 Reads;~r
 | .bl _,x,v,h,r=>by A8 cO at h;cases h
 | .str _,x,v,h,r=>by A8 cO at h;cases h
 | .dk _ _,x,v,h,r=>by A8 cO at h;cases h
 | .dt _ _,x,v,h,r=>by A8 cO at h;cases h
 | .ins _ _ _,x,v,h,r=>by A8 cO at h;cases h
A9 rZ{H:Hp}:∀(ds:List D)(xs:List DV)(vs:List V),gU ds=some xs→bG K H ds vs→bB K H xs vs
 | [],xs,vs,h,r=>by A8 gU at h;cases h;A8 bG at r;A8 bB;~r
 | d::ds,xs,vs,h,r=>by
  A8 gU at h
  A7⟨x,h1,h2⟩:=aP h
  A7⟨xt,h3,h4⟩:=aP h2
  cases h4
  A8 bG at r;A8 bB
  A7⟨y,ys,r1,r2,r3⟩:=r
  ~⟨y,ys,r1,jG d x y h1 r2,rZ ds xt ys h3 r3⟩
end
mutual
A9 La:∀(d e:D)(x:DV),cO d=some x→cO e=some x→d=e
 | .int i,e,x,h,h'=>by
  A8 cO at h;cases h
  cases e<;>A8 cO at h'<;>first | (cases h';rfl) | cases h' | (A7⟨xs,q1,q2⟩:=iG h';cases q2)
 | .lst ds,e,x,h,h'=>by
  A8 cO at h
  A7⟨xs,h1,rfl⟩:=iG h
  cases e with
  | lst es=>A8 cO at h';A7⟨ys,q1,q2⟩:=iG h';cases q2;rw[pC ds es xs h1 q1]
  | tup es=>A8 cO at h';A7⟨ys,q1,q2⟩:=iG h';cases q2
  | _=>A8 cO at h';cases h'
 | .tup ds,e,x,h,h'=>by
  A8 cO at h
  A7⟨xs,h1,rfl⟩:=iG h
  cases e with
  | tup es=>A8 cO at h';A7⟨ys,q1,q2⟩:=iG h';cases q2;rw[pC ds es xs h1 q1]
  | lst es=>A8 cO at h';A7⟨ys,q1,q2⟩:=iG h';cases q2
  | _=>A8 cO at h';cases h'
 | .non,e,x,h,h'=>by
  A8 cO at h;cases h
  cases e<;>A8 cO at h'<;>first | (cases h';rfl) | cases h' | (A7⟨xs,q1,q2⟩:=iG h';cases q2)
 | .bl _,e,x,h,h'=>by A8 cO at h;cases h
 | .str _,e,x,h,h'=>by A8 cO at h;cases h
 | .dk _ _,e,x,h,h'=>by A8 cO at h;cases h
 | .dt _ _,e,x,h,h'=>by A8 cO at h;cases h
 | .ins _ _ _,e,x,h,h'=>by A8 cO at h;cases h
A9 pC:∀(ds es:List D)(xs:List DV),gU ds=some xs→gU es=some xs→ds=es
 | [],[],xs,h,h'=>rfl
 | [],e::es,xs,h,h'=>by
  A8 gU at h h'
  cases h
  A7⟨x,h1,h2⟩:=aP h'
  A7⟨xt,h3,h4⟩:=aP h2
  cases h4
 | d::ds,[],xs,h,h'=>by
  A8 gU at h h'
  cases h'
  A7⟨x,h1,h2⟩:=aP h
  A7⟨xt,h3,h4⟩:=aP h2
  cases h4
 | d::ds,e::es,xs,h,h'=>by
  A8 gU at h h'
  A7⟨x,h1,h2⟩:=aP h
  A7⟨xt,h3,h4⟩:=aP h2
  cases h4
  A7⟨y,k1,k2⟩:=aP h'
  A7⟨yt,k3,k4⟩:=aP k2
  cases k4
  rw[La d e x h1 k1,pC ds es xt h3 k3]
end
noncomputable def vN(a b:D):Option D:=match toV a,toV b with
 | some x,some y=>if zU x y=true then some (.bl (decide (x=y)))else none
 | _,_=>match cO a,cO b with
  | some x,some y=>if x.depth≤32 then some (.bl (lE x y))else none
  | _,_=>none
A9 sE:Dc K (fun x y H Q=>HX x y H Q∨Wg K false x y H Q) vN:=fun x y H a b d Q ra rb q k=>by
 A8 vN at q
 split at q
 ·rename_i u v h1 h2
  split at q
  ·rename_i hs
   cases q
   rw[xW h1 ra,xW h2 rb]
   ~.inl ⟨hs,k _ H (aH.refl _) (.cY rfl (by A8 Rv;rfl))⟩
  ·cases q
 ·split at q
  ·rename_i u v h1 h2
   split at q
   ·rename_i hs
    cases q
    ~.inr ⟨u,v,jG a u x h1 ra,jG b v y h2 rb,hs,k _ H (aH.refl _) (.cY rfl (by A8 Rv;rfl))⟩
   ·cases q
  ·cases q
noncomputable def Hy(a b:D):Option D:=match toV a,toV b with
 | some x,some y=>if zU x y=true then some (.bl (!decide (x=y)))else none
 | _,_=>match cO a,cO b with
  | some (.lst x),some (.lst y)=>if bK x≤32 then some (.bl (!lE (.lst x) (.lst y)))else none
  | some (.tup x),some (.tup y)=>if bK x≤32 then some (.bl (!lE (.tup x) (.tup y)))else none
  | _,_=>none
def Zx(K:aA):R2:=fun x y H Q=>MN x y H Q∨(∃ds es,Reads K H (.lst ds) x∧Reads K H (.lst es) y∧bK ds≤32∧Q (.bl (!lE (.lst ds) (.lst es))) H)∨(∃ds es,Reads K H (.tup ds) x∧Reads K H (.tup es) y∧bK ds≤32∧Q (.bl (!lE (.tup ds) (.tup es))) H)
A9 vO:Dc K (Zx K) Hy:=fun x y H a b d Q ra rb q k=>by
 A8 Hy at q
 split at q
 ·rename_i u v h1 h2
  split at q
  ·rename_i hs
   cases q
   rw[xW h1 ra,xW h2 rb]
   ~.inl ⟨hs,k _ H (aH.refl _) (.cY rfl (by A8 Rv;rfl))⟩
  ·cases q
 ·split at q
  ·rename_i u v h1 h2
   split at q
   ·rename_i hs
    cases q
    ~.inr (.inl ⟨u,v,jG a _ x h1 ra,jG b _ y h2 rb,hs,k _ H (aH.refl _) (.cY rfl (by A8 Rv;rfl))⟩)
   ·cases q
  ·rename_i u v h1 h2
   split at q
   ·rename_i hs
    cases q
    ~.inr (.inr ⟨u,v,jG a _ x h1 ra,jG b _ y h2 rb,hs,k _ H (aH.refl _) (.cY rfl (by A8 Rv;rfl))⟩)
   ·cases q
  ·cases q
A9 or_eq(hu:X.A.units+64<cLine)(hk:X.K=K):jC X (compareOp .Eq) (fun x y H Q=>HX x y H Q∨Wg K false x y H Q):=by subst hk;~Ze.or (Wh hu)
A9 vP(hu:X.A.units+64<cLine)(hk:X.K=K):jC X (compareOp .NotEq) (Zx K):=by subst hk;~Zf.or ((Wi hu).or (Wl hu))
def lJ:D→Option (List D)
 | .lst ds=>some ds
 | .tup ds=>some ds
 | _=>none
A9 xX{H:Hp}{d:D}{ds:List D}{v:V}(h:lJ d=some ds)(r:Rv K H d v):∃p xs,v=.ref p∧(iH K H p xs∨lB K H p xs)∧bG K H ds xs:=by
 cases d with
 | lst es=>A8 lJ at h;cases h;A8 Rv at r;A7⟨p,xs,r1,r2,r3⟩:=r;~⟨p,xs,r1,.inl r2,r3⟩
 | tup es=>A8 lJ at h;cases h;A8 Rv at r;A7⟨p,xs,r1,r2,r3⟩:=r;~⟨p,xs,r1,.inr r2,r3⟩
 | _=>A8 lJ at h;cases h
end
section
variable{κ:Type} [DecidableEq κ] {K:aA} {H:Hp}
def posK:List κ→κ→Option Nat
 | [],_=>none
 | a::ks,k=>if a=k then some 0 else(posK ks k).map (·+1)
A9 Ai:∀{ks:List κ} {xs:List V} {k:κ},ks.length=xs.length→Hr (ks.zip xs) k=(posK ks k).bind fun j=>xs[j]?
 | [],xs,k,h=>by A8 posK;rfl
 | a::ks,[],k,h=>by simp at h
 | a::ks,x::xs,k,h=>by
  have ih:=Ai (ks:=ks) (xs:=xs) (k:=k) (by simpa using h)
  A8 posK
  rw[P4]
  A8 Hr at ih ⊢
  rw[List.find?_cons]
  by_cases c:a=k
  ·rw[if_pos c,decide_eq_true c];rfl
  ·rw[if_neg c,decide_eq_false c]
   show Option.map _ (List.find? _ (ks.zip xs))=_
   rw[ih]
   cases posK ks k<;>rfl
end
section
variable{K:aA}{X:Cx}{e a b c:Expr}{es:List Expr}{t ta tb:TE}{f g:FE}{pos:Pos}
def sG(a i:D):Option D:=match i with
 | .int i=>(lJ a).bind fun ds=>Aa ds i
 | _=>none
A9 Tw{H:Hp}{ds:List D}{xs:List V}{i:Int}{d:D}(r:bG K H ds xs)(h:Aa ds i=some d):∃v,Aa xs i=some v∧Rv K H d v:=by
 A8 Aa at h ⊢
 A7⟨j,h1,h2⟩:=aP h
 rw[r.length,h1]
 ~r.get h2
A9 Tz(hk:X.K=K):Og X (GC K):=by subst hk;~Wb
A9 iJ(ha:XR K X a ta f)(hb:XR K X b tb g)(hs:qW b):XR K X (.Subscript a b pos) (zM (GC K) ta tb) (f2 sG f g):=
 ⟨ha.hk,Jy (Tz ha.hk) ha.pe hb.pe hs,Zv (fun x y H Z da db d Q z ra rb q k=>by
  A8 sG at q
  split at q
  ·rename_i i
   A7⟨ds,h1,h2⟩:=aP q
   A8 Rv at rb
   cases da with
   | lst es=>
    A8 lJ at h1;cases h1
    A8 Rv at ra
    A7⟨p,xs,r1,r2,r3⟩:=ra
    A7⟨v,e1,e2⟩:=Tw r3 h2
    ~.inl ⟨p,xs,i,v,r1,rb,z.sm.seq r2,e1,k v H Z (aH.refl _) (aH.refl _) z e2⟩
   | tup es=>
    A8 lJ at h1;cases h1
    A8 Rv at ra
    A7⟨p,xs,r1,r2,r3⟩:=ra
    A7⟨v,e1,e2⟩:=Tw r3 h2
    ~.inr (.inl ⟨p,xs,i,v,r1,rb,z.sm.tup r2,e1,k v H Z (aH.refl _) (aH.refl _) z e2⟩)
   | _=>A8 lJ at h1;cases h1
  ·cases q) ha.ev hb.ev⟩
end
end L2


namespace L2
open PySem PySem.Spec PyProof.Rows
section
variable{K:aA}{X:Cx}{e a b c:Expr}{es rest:List Expr}{t ta tb:TE}{f g:FE}{tA:TA}{fs:FA}{pos:Pos}{tc:TT}{fc fd:FT}{td:TT}
A9 aL(hk:X.K=K:=by rfl):XA K X [] jD aM:=⟨hk,cB,Wn⟩
A9 aD(h:XR K X e t f)(hs:XA K X es tA fs)(hst:starEach (e::es) X.env=(false,eval e X.env)::starEach es X.env:=by rfl):XA K X (e::es) (dD t tA) (aC f fs):=⟨h.hk,bD h.pe hs.pa hst,Qj h.ev hs.ev⟩
A9 sH(hk:X.K=K:=by rfl):XB K X [] jD aM:=⟨hk,cB,Wo⟩
A9 Qm(h:XN K X e t f)(hs:XB K X es tA fs)(hst:starEach (e::es) X.env=(false,eval e X.env)::starEach es X.env:=by rfl):XB K X (e::es) (dD t tA) (aC f fs):=⟨h.hk,bD h.pe hs.pa hst,Qk h.ev hs.ev⟩
A9 xY(h:XB K X es tA fs):XN K X (.List es pos) (Jv tA) (pB fs):=⟨h.hk,Jw h.pa,Wq h.ev⟩
A9 Wt(h:XA K X es tA fs):XR K X (.List es pos) (Jv tA) (pB fs):=⟨h.hk,Jw h.pa,Ws h.ev⟩
A9 Wu{x1:Nat}(h:XB K X es tA fs):XN K X (.Tuple es x1 pos) (Vt tA) (Hx fs):=⟨h.hk,Vu h.pa,Wr h.ev⟩
def QT(f g:FT):FT:=fun e=>(f e).bind fun c=>if c=true then g e else some false
def Fj(f g:FT):FT:=fun e=>(f e).bind fun c=>if c=true then some true else g e
def fY(f:FT):FT:=fun e=>(f e).map fun c=>!c
A9 Zy(h1:Ks K tc fc)(h2:Ks K td fd):Ks K (HJ tc td) (Fj fc fd):=fun σ H e b Q re q k=>by
 A8 Fj at q
 A7⟨c,q1,q2⟩:=aP q
 &h1 σ H e c _ re q1 fun H1 s1=>?_
 cases c with
 | false=>rw[if_neg A5]at q2 ⊢;~h2 σ H1 e b Q (re.same s1) q2 fun H2 s2=>k H2 (s1.trans s2)
 | true=>rw[if_pos rfl]at q2 ⊢;cases q2;~k H1 s1
A9 Wv(h1:Ks K tc fc):Ks K (Va tc) (fY fc):=fun σ H e b Q re q k=>by
 A8 fY at q
 A7⟨c,q1,rfl⟩:=iG q
 ~h1 σ H e c _ re q1 k
A9 XW.xt(h:XW K X e tc fc):XT K X e tc fc:=⟨h.hk,h.pw.pt,h.ev⟩
A9 pD(h:XT K X a tc fc):XW K X (.BoolOp .Or [a] pos) tc fc:=⟨h.hk,Vb h.pt,h.ev⟩
A9 sI(h:XT K X a tc fc)(h2:XW K X (.BoolOp .Or (b::rest) pos) td fd):XW K X (.BoolOp .Or (a::b::rest) pos) (HJ tc td) (Fj fc fd):=⟨h.hk,Yt h.pt h2.pw,Zy h.ev h2.ev⟩
A9 cT(h:XT K X a tc fc):XT K X (.UnaryOp .Not a pos) (Va tc) (fY fc):=⟨h.hk,Vc h.pt,Wv h.ev⟩
def qD(f g:FE):FE:=fun e=>(fB f e).bind fun c=>if c=true then g e else some (.bl false)
def Hz(f g:FE):FE:=fun e=>(fB f e).bind fun c=>if c=true then some (.bl true)else g e
def Aj(f:FE):FE:=fun e=>(fB f e).map fun c=>.bl (!c)
A9 xZ{op:BoolOp}(h:XN K X a t f):XN K X (.BoolOp op [a] pos) t f:=⟨h.hk,Vd h.pe,h.ev⟩
A9 Lb(h:XR K X a ta f)(h2:XN K X (.BoolOp .And (b::rest) pos) tb g):XN K X (.BoolOp .And (a::b::rest) pos) (Ti ta tb) (qD f g):=⟨h.hk,Ve h.pe h2.pe,fun σ H e d Q re q k=>by
 A8 qD at q
 A7⟨c,q1,q2⟩:=aP q
 &h.ev σ H H e _ _ (Zn.self K H) re (nW q1) fun v H1 Z1 s1 t1 z1 rv=>?_
 A8 Rv at rv
 &⟨c,rv,?_⟩
 cases c with
 | true=>rw[if_pos rfl]at q2 ⊢;~h2.ev σ H1 e d Q (re.same s1) q2 fun v H2 s2 n=>k v H2 (s1.trans s2) (n.back s1)
 | false=>rw[if_neg A5]at q2 ⊢;cases q2;~k _ H1 s1 (.cY rfl (by A8 Rv;rfl))⟩
A9 Zz(h:XR K X a ta f)(h2:XN K X (.BoolOp .Or (b::rest) pos) tb g):XN K X (.BoolOp .Or (a::b::rest) pos) (Yu ta tb) (Hz f g):=⟨h.hk,Yv h.pe h2.pe,fun σ H e d Q re q k=>by
 A8 Hz at q
 A7⟨c,q1,q2⟩:=aP q
 &h.ev σ H H e _ _ (Zn.self K H) re (nW q1) fun v H1 Z1 s1 t1 z1 rv=>?_
 A8 Rv at rv
 &⟨c,rv,?_⟩
 cases c with
 | false=>rw[if_neg A5]at q2 ⊢;~h2.ev σ H1 e d Q (re.same s1) q2 fun v H2 s2 n=>k v H2 (s1.trans s2) (n.back s1)
 | true=>rw[if_pos rfl]at q2 ⊢;cases q2;~k _ H1 s1 (.cY rfl (by A8 Rv;rfl))⟩
A9 Ww(h:XR K X a ta f):XN K X (.UnaryOp .Not a pos) (Tj ta) (Aj f):=⟨h.hk,Vf h.pe,fun σ H e d Q re q k=>by
 A8 Aj at q
 A7⟨c,q1,rfl⟩:=iG q
 &h.ev σ H H e _ _ (Zn.self K H) re (nW q1) fun v H1 Z1 s1 t1 z1 rv=>?_
 A8 Rv at rv
 ~⟨c,rv,k _ H1 s1 (.cY rfl (by A8 Rv;rfl))⟩⟩
def Ua(c:FT)(f g:FE):FE:=fun e=>(c e).bind fun b=>if b=true then f e else g e
A9 Ub(hc:XT K X c tc fc)(ha:XN K X a ta f)(hb:XN K X b tb g):XN K X (.IfExp c a b pos) (MK tc ta tb) (Ua fc f g):=⟨ha.hk,Jh hc.pt ha.pe hb.pe,fun σ H e d Q re q k=>by
 A8 Ua at q
 A7⟨c,q1,q2⟩:=aP q
 &hc.ev σ H e c _ re q1 fun H1 s1=>?_
 cases c with
 | true=>rw[if_pos rfl]at q2 ⊢;~ha.ev σ H1 e d Q (re.same s1) q2 fun v H2 s2 n=>k v H2 (s1.trans s2) (n.back s1)
 | false=>rw[if_neg A5]at q2 ⊢;~hb.ev σ H1 e d Q (re.same s1) q2 fun v H2 s2 n=>k v H2 (s1.trans s2) (n.back s1)⟩
A9 Wx(ha:XR K X a ta f):XN K X (.UnaryOp .USub a pos) (HW (rU fun i=>.int (-i)) ta) (fun e=>(f e).bind fun d=>match d with | .int i=>some (.int (-i)) | _=>none):=⟨ha.hk,Zb Vq ha.pe,fun σ H e d Q re q k=>by
 A7⟨c,q1,q2⟩:=aP q
 split at q2
 ·rename_i i
  cases q2
  &ha.ev σ H H e _ _ (Zn.self K H) re q1 fun v H1 Z1 s1 t1 z1 rv=>?_
  A8 Rv at rv
  ~⟨i,rv,k _ H1 s1 (.cY rfl (by A8 Rv;rfl))⟩
 ·cases q2⟩
def fL(φ:List D→Option D)(fs:FA):FE:=fun e=>(fs e).bind φ
def mU(K:aA)(r:List V→Hp→VK→Prop)(φ:List D→Option D):Prop:=∀(vs:List V)(H:Hp)(ds:List D)(d:D)(Q:VK),bG K H ds vs→φ ds=some d →
 (∀v H',aH H H'→Ag K H H' d v→Q v H')→r vs H Q
A9 Uc{r:List V→Hp→VK→Prop}{φ:List D→Option D}(o:mU K r φ)(h:Yl K tA fs):Ci K (Vx r tA) (fL φ fs):=fun σ H e d Q re q k=>by
 A7⟨ds,q1,q2⟩:=aP q
 ~h σ H H e ds _ (Zn.self K H) re q1 fun vs H1 Z1 s1 t1 z1 rs=>o vs H1 ds d Q (z1.sm.Je _ _ rs) q2 fun v H2 s2 n=>k v H2 (s1.trans s2) (n.back s1)
A9 cU{r:List V→Hp→VK→Prop}{φ:List D→Option D}{x:Str}{id:String}{p:Pos}(o:mU K r φ)(hc:eO X (.builtin id) r)(hg:Gl X x)(hm:X.mg x=none)(hv:bootBuiltins x=some (.builtin id))(ha:XA K X (e::es) tA fs)(hn:x ≠ "__name__" := by decide) (hdb:(x==("__debug__" : Str))=false:=by decide)
  (he:starEach (e::es) X.env=(false,eval e X.env)::starEach es X.env:=by rfl) (hpl:(backTo pos (starEach es X.env)).any (·.1)=false:=by rfl):XN K X (.Call (.Name x p) (e::es) [] pos) (Vx r tA) (fL φ fs):=⟨ha.hk,rH hc hg hm hv ha.pa hn hdb he hpl,Uc o ha.ev⟩
A9 vQ{r:List V→Hp→VK→Prop}{φ:List D→Option D}{x:Str}{id:String}{p:Pos}(o:mU K r φ)(hc:eO X (.type id) r)(hg:Gl X x)(hm:X.mg x=none)(hv:bootBuiltins x=some (.type id))(ha:XA K X (e::es) tA fs)(hn:x ≠ "__name__" := by decide) (hdb:(x==("__debug__" : Str))=false:=by decide)
  (he:starEach (e::es) X.env=(false,eval e X.env)::starEach es X.env:=by rfl) (hpl:(backTo pos (starEach es X.env)).any (·.1)=false:=by rfl):XN K X (.Call (.Name x p) (e::es) [] pos) (Vx r tA) (fL φ fs):=⟨ha.hk,Ho hc hg hm hv ha.pa hn hdb he hpl,Uc o ha.ev⟩
A9 jH{H:Hp}{d:D}{vs:List V}(h:bG K H [d] vs):∃v,vs=[v]∧Rv K H d v:=by
 A8 bG at h
 A7⟨y,ys,rfl,h1,h2⟩:=h
 A8 bG at h2
 subst h2
 ~⟨y,rfl,h1⟩
def eE:List D→Option D
 | [d]=>(lJ d).map fun ds=>.int ds.length
 | _=>none
def BJ(K:aA):List V→Hp→VK→Prop:=fun xs H Q=>∃p ys,xs=[.ref p]∧(iH K H p ys∨lB K H p ys)∧Q (.int ys.length) H
A9 cD:mU K (BJ K) eE:=fun vs H ds d Q rs q k=>by
 A8 eE at q
 split at q
 ·rename_i d0
  A7⟨es,q1,rfl⟩:=iG q
  A7⟨v,rfl,r⟩:=jH rs
  A7⟨p,xs,rfl,r2,r3⟩:=xX q1 r
  &⟨p,xs,rfl,r2,k _ H (aH.refl _) (.cY rfl ?_)⟩
  rw[r3.length];A8 Rv;rfl
 ·cases q
A9 cF(hk:X.K=K):eO X (.builtin "len") (BJ K):=by subst hk;~wZ
def dList:List D→Option D
 | [d]=>(lJ d).bind fun ds=>if D.cR ds=true then some (.lst ds)else none
 | _=>none
def Ud(K:aA):List V→Hp→VK→Prop:=fun xs H Q=>∃p ys,xs=[.ref p]∧(iH K H p ys∨lB K H p ys)∧∀l,H l=none→Q (.ref l) (upd H l (.lst ys))
A9 Qn:mU K (Ud K) dList:=fun vs H ds d Q rs q k=>by
 A8 dList at q
 split at q
 ·rename_i d0
  A7⟨es,q1,q2⟩:=aP q
  split at q2
  ·rename_i hi
   cases q2
   A7⟨v,rfl,r⟩:=jH rs
   A7⟨p,xs,rfl,r2,r3⟩:=xX q1 r
   ~⟨p,xs,rfl,r2,fun l hl=>k _ _ (bT hl _) (qX (aH.refl _) (.cR hi r3) hl)⟩
  ·cases q2
 ·cases q
A9 Qo(hk:X.K=K):eO X (.type "list") (Ud K):=by subst hk;~xG
def pF:List D→Option D
 | [d]=>(lJ d).bind fun ds=>if D.cR ds=true then some (.tup ds)else none
 | _=>none
def Ld(K:aA):List V→Hp→VK→Prop:=fun xs H Q=>∃p ys,xs=[.ref p]∧((iH K H p ys∧∀l,H l=none→Q (.ref l) (upd H l (.tup ys)))∨(lB K H p ys∧Q (.ref p) H))
A9 Ak:mU K (Ld K) pF:=fun vs H ds d Q rs q k=>by
 A8 pF at q
 split at q
 ·rename_i d0
  A7⟨es,q1,q2⟩:=aP q
  split at q2
  ·rename_i hi
   cases q2
   A7⟨v,rfl,r⟩:=jH rs
   A7⟨p,xs,rfl,r2,r3⟩:=xX q1 r
   &⟨p,xs,rfl,?_⟩
   rcases r2 with r2 | r2
   ·~.inl ⟨r2,fun l hl=>k _ _ (bT hl _) (Fg (.cR hi r3) hl)⟩
   ·~.inr ⟨r2,k _ H (aH.refl _) (.cY (by A8 D.cY;~hi) (by A8 Rv;~⟨p,xs,rfl,r2,r3⟩))⟩
  ·cases q2
 ·cases q
A9 Al(hk:X.K=K):eO X (.type "tuple") (Ld K):=by subst hk;~uJ
A9 nY{H:Hp}:∀{ns:List Int} {xs:List V},bG K H (ns.map D.int) xs↔xs=ns.map V.int
 | [],xs=>by rw[G1,G1];A8 bG;rfl
 | n::ns,xs=>by
  rw[C9,C9]
  A8 bG
  constructor
  ·rintro⟨y,ys,rfl,h1,h2⟩
   A8 Rv at h1
   rw[h1,nY.mp h2]
  ·rintro rfl
   ~⟨_,_,rfl,by A8 Rv;rfl,nY.mpr rfl⟩
A9 jJ:∀ns:List Int,D.cR (ns.map D.int)=true
 | []=>by rw[G1];A8 D.cR;rfl
 | n::ns=>by rw[C9];A8 D.cR D.cY;rw[jJ ns];rfl
def mV:List D→Option (List Bool)
 | []=>some []
 | .bl i::ds=>(mV ds).map (i::·)
 | _=>none
A9 Am{H:Hp}:∀{ds:List D} {bs:List Bool} {xs:List V},mV ds=some bs→bG K H ds xs→xs=bs.map V.bl
 | [],bs,xs,h,r=>by A8 mV at h;cases h;A8 bG at r;~r
 | d::ds,bs,xs,h,r=>by
  cases d with
  | bl i=>
   A8 mV at h
   A7⟨cs,h1,rfl⟩:=iG h
   A8 bG at r
   A7⟨y,ys,rfl,r1,r2⟩:=r
   A8 Rv at r1
   rw[r1,Am h1 r2]
   rfl
  | _=>A8 mV at h;cases h
A9 vR{α:Type}(p:α→Bool):∀l:List α,mV (l.map fun x=>D.bl (p x))=some (l.map p)
 | []=>rfl
 | a::l=>by rw[C9];A8 mV;rw[vR p l];rfl
def Df:List D→Option D
 | [.lst ds]=>(mV ds).map fun bs=>.bl (bs.all id)
 | _=>none
def BK(K:aA):List V→Hp→VK→Prop:=fun xs H Q=>∃(p:Addr)(bs:List Bool),xs=[.ref p]∧iH K H p (bs.map V.bl)∧Q (.bl (bs.all id)) H
A9 Qp{H:Hp}{ds:List D}{bs:List Bool}{v:V}(h:mV ds=some bs)(r:Rv K H (.lst ds) v):∃p,v=.ref p∧iH K H p (bs.map V.bl):=by
 A8 Rv at r
 A7⟨p,xs,r1,r2,r3⟩:=r
 rw[Am h r3]at r2
 ~⟨p,r1,r2⟩
A9 Dg:mU K (BK K) Df:=fun vs H ds d Q rs q k=>by
 A8 Df at q
 split at q
 ·A7⟨bs,q1,rfl⟩:=iG q
  A7⟨v,rfl,r⟩:=jH rs
  A7⟨p,rfl,r2⟩:=Qp q1 r
  ~⟨p,bs,rfl,r2,k _ H (aH.refl _) (.cY rfl (by A8 Rv;rfl))⟩
 ·cases q
A9 Dh(hk:X.K=K)(hc:X.calm=true:=by rfl):eO X (.builtin "all") (BK K):=by subst hk;~Kh hc
end
end L2


namespace L2
open PySem PySem.Spec PyProof.Rows
section
variable{K:aA}{X:Cx}{e a b c:Expr}{es rest:List Expr}{t ta tb:TE}{f g:FE}{tA:TA}{fs:FA}{pos:Pos}{tc:TT}{fc fd:FT}{td:TT}
abbrev FO:=DE→Option (Option Int)
def QV(K:aA)(t:TO)(f:FO):Prop:=∀(σ:St)(H:Hp)(e:DE)(o:Option Int)(Q:Option Int→Hp→Prop),oW K H e σ→f e=some o→(∀H',aH H H'→Q o H')→t σ H Q
structure XO(K:aA)(X:Cx)(e:Option Expr)(t:TO)(f:FO):Prop where
 po:PO X e t
 ev:QV K t f
def Di:FO:=fun _=>some none
def yC(f:FE):FO:=fun e=>(f e).bind fun d=>match d with | .int i=>some (some i) | _=>none
A9 Fl:XO K X none Ey Di:=⟨Ph,fun σ H e o Q re q k=>by cases q;~k H (aH.refl _)⟩
A9 Fo(h:XR K X e t f):XO K X (some e) (Tr t) (yC f):=⟨Pj h.pe,fun σ H e o Q re q k=>by
 A8 yC at q
 A7⟨d,q1,q2⟩:=aP q
 split at q2
 ·rename_i i
  cases q2
  &h.ev σ H H e _ _ (Zn.self K H) re q1 fun v H1 Z1 s1 t1 z1 rv=>?_
  A8 Rv at rv
  ~⟨i,rv,k H1 s1⟩
 ·cases q2⟩
def uP{α:Type}(xs:List α)(lo hi:Option Int):List α:=(xs.drop (HT.vH xs.length 0 lo)).take (HT.vH xs.length xs.length hi-HT.vH xs.length 0 lo)
A9 bG.drop{H:Hp}:∀{ds:List D} {xs:List V} (n:Nat),bG K H ds xs→bG K H (ds.drop n) (xs.drop n)
 | ds,xs,0,h=>h
 | [],xs,n+1,h=>by A8 bG at h;subst h;simp;A8 bG;rfl
 | d::ds,xs,n+1,h=>by A8 bG at h;A7⟨y,ys,rfl,_,h2⟩:=h;simpa using bG.drop n h2
A9 bG.take{H:Hp}:∀{ds:List D} {xs:List V} (n:Nat),bG K H ds xs→bG K H (ds.take n) (xs.take n)
 | ds,xs,0,h=>by simp;A8 bG;rfl
 | [],xs,n+1,h=>by A8 bG at h;subst h;simp;A8 bG;rfl
 | d::ds,xs,n+1,h=>by A8 bG at h;A7⟨y,ys,rfl,h1,h2⟩:=h;rw[O7,O7];A8 bG;~⟨y,_,rfl,h1,bG.take n h2⟩
A9 Qq{H:Hp}{ds:List D}{xs:List V}(lo hi:Option Int)(h:bG K H ds xs):bG K H (uP ds lo hi) (Cm xs lo hi):=by
 A8 uP Cm
 rw[h.length]
 ~(h.drop _).take _
def Yn(cY:Bool)(f:FE)(l h:FO):FE:=fun e=>(f e).bind fun d=>(l e).bind fun lo=>(h e).bind fun hi=>match d with
 | .lst ds=>if cY=false∨D.cR (uP ds lo hi)=true then some (.lst (uP ds lo hi))else none
 | _=>none
A9 Le{cY:Bool}{f:FE}{l h:FO}{e:DE}{d:D}(q:Yn cY f l h e=some d):∃ds lo hi,f e=some (.lst ds)∧l e=some lo∧h e=some hi∧(cY=false∨D.cR (uP ds lo hi)=true)∧d=.lst (uP ds lo hi):=by
 A8 Yn at q
 A7⟨d0,q1,q⟩:=aP q
 A7⟨lo,q2,q⟩:=aP q
 A7⟨hi,q3,q⟩:=aP q
 split at q
 ·split at q
  ·rename_i c;cases q;~⟨_,lo,hi,q1,q2,q3,c,rfl⟩
  ·cases q
 ·cases q
A9 Qt(hk:X.K=K):FZ X (Wc K):=by subst hk;~Pu
variable{lo hi:Option Expr}{tl th:TO}{fl fh:FO}{p2:Pos}
A9 Lf(h:XR K X e t f)(hl:XO K X lo tl fl)(hu:XO K X hi th fh):XR K X (.Subscript e (.Slice lo hi none p2) pos) (IK (Wc K) t tl th) (Yn false f fl fh):=⟨h.hk,zY (Qt h.hk) h.pe hl.po hu.po,fun σ H Z e d Q z re q k=>by
 A7⟨ds,lo,hi,q1,q2,q3,_,rfl⟩:=Le q
 &h.ev σ H Z e _ _ z re q1 fun v H1 Z1 s1 t1 z1 rv=>hl.ev σ H1 e lo _ (re.same (z.sm.trans s1)) q2 fun H2 s2=>hu.ev σ H2 e hi _ (re.same (z.sm.trans (s1.trans s2))) q3 fun H3 s3=>?_
 have z3:=xR z1 (s2.trans s3)
 have t3:aH Z1 (xQ Z1 H1 H3):=pA z1
 A8 Rv at rv
 A7⟨p,xs,rfl,r2,r3⟩:=rv
 &⟨p,xs,rfl,z3.sm.seq (t3.seq r2),fun l hl=>?_⟩
 A7⟨a1,a2⟩:=Ky (o:=.lst (Cm xs lo hi)) z3 hl
 ~k _ _ _ (s1.trans (s2.trans (s3.trans (bT hl _)))) (t1.trans (t3.trans a1)) a2 (by A8 Rv;~⟨l,_,rfl,iH.of bI,a1.Je _ _ (t3.Je _ _ (Qq lo hi r3))⟩)⟩
def Lg(K:aA):R2:=fun x y H Q=>∃l b xs zs,x=.ref l∧y=.ref b∧iH K H l xs∧iH K H b zs∧xs.length+zs.length≤sizeLine∧∀p,H p=none→Q (.ref p) (upd H p (.lst (xs++zs)))
A9 Qu(hk:X.K=K):jC X (binaryOp .Add) (Lg K):=by
 subst hk
 intro pins s σ H x y v u Q I rx ry h
 A7⟨l,b,xs,zs,rfl,rfl,h1,h2,hz,q⟩:=h
 cases rx
 cases ry
 A7⟨its,r,pl,_⟩:=I.list h1
 A7⟨its2,r2,Ae,_⟩:=I.list h2
 A7⟨⟨cl,dd,da,sl⟩,ho,hc,n,hd⟩:=pl.isList
 A7⟨⟨cl2,dd2,da2,sl2⟩,ho2,hc2,n2,hd2⟩:=Ae.isList
 dsimp only at hc hd hc2 hd2
 subst hc hd hc2 hd2
 have hlen:its.toArray.size+its2.toArray.size≤sizeLine:=by rw[B3,B3,←r.length,←r2.length];~hz
 have ea:its.toArray++its2.toArray=(its++its2).toArray:=by simp
 &concat_meets ⟨_,ho,rfl⟩ ⟨_,ho2,rfl⟩ noFill_list_add seq_list_add PySem.F.slot_list_add PySem.F.entry_list_add (PySem.F.args_list_add_2 _ _)
  (list_addW l b its.toArray its2.toArray n n2 dd dd2 sl sl2 hlen) ⟨ho,ho2,?_⟩
 rw[ea]
 ~⟨.ref _,_,I.Kc (t':=s.toks) (r.append r2) (by rw[D2];~hz),rfl,q _ I.fresh⟩
def fW(a b:D):Option D:=match a,b with
 | .int i,.int j=>some (.int (i+j))
 | .lst x,.lst y=>if D.cR (x++y)=true∧x.length+y.length≤100000 then some (.lst (x++y))else none
 | _,_=>none
A9 bG.append{H:Hp}:∀{ds es:List D} {xs ys:List V},bG K H ds xs→bG K H es ys→bG K H (ds++es) (xs++ys)
 | [],es,xs,ys,h,h'=>by A8 bG at h;subst h;~h'
 | d::ds,es,xs,ys,h,h'=>by A8 bG at h;A7⟨y,yt,rfl,h1,h2⟩:=h;rw[J4,J4];A8 bG;~⟨y,_,rfl,h1,bG.append h2 h'⟩
A9 Qv:Dc K (fun x y H Q=>Jr (fun i j=>.int (i+j)) x y H Q∨Lg K x y H Q) fW:=fun x y H a b d Q ra rb q k=>by
 A8 fW at q
 split at q
 ·cases q;A8 Rv at ra rb;~.inl ⟨_,_,ra,rb,k _ H (aH.refl _) (.cY rfl (by A8 Rv;rfl))⟩
 ·split at q
  ·rename_i c
   cases q
   A8 Rv at ra rb
   A7⟨p,xs,rfl,r2,r3⟩:=ra
   A7⟨p',xs',rfl,r2',r3'⟩:=rb
   &.inr ⟨p,p',xs,xs',rfl,rfl,r2,r2',gR (by rw[r3.length,r3'.length];~c.2),fun l hl=>?_⟩
   ~k _ _ (bT hl _) (qX (aH.refl _) (.cR c.1 (r3.append r3')) hl)
  ·cases q
 ·cases q
A9 fK(ha:XR K X a ta f)(hb:XR K X b tb g):XN K X (.BinOp a .Add b pos) (zM (fun x y H Q=>Jr (fun i j=>.int (i+j)) x y H Q∨Lg K x y H Q) ta tb) (f2 fW f g):=vM (Vl.or (Qu ha.hk)) Qv ha hb
def JD(K:aA)(wi:TI)(fi:FA):Prop:=∀{N:Fp}(σ:St)(H Z:Hp)(e:DE)(ds:List D)(R:It→Hp→Prop),Zn K N Z H→oW K Z e σ→fi e=some ds →
 (∀J H' Z' P vs,aH H H'→aH Z Z'→Zn K N Z' H'→Wf J P vs→(∀H2,aH Z' H2→P H2)→bG K Z' ds vs→R J H')→wi σ H R
structure XI(K:aA)(X:Cx)(tg iter:Expr)(wi:TI)(fi:FA):Prop where
 hk:X.K=K
 pi:PI X tg iter wi
 ev:JD K wi fi
def gP(f:FE):FA:=fun e=>(f e).bind lJ
def JF(K:aA)(t:TE):TI:=fun σ H R=>Tp K t σ H R∨Yz K t σ H R
A9 eV{tg:Expr}(h:XR K X e t f):XI K X tg e (JF K t) (gP f):=⟨h.hk,by
 have hk:=h.hk
 subst hk
 ~fun pins s σ H R I q=>q.elim (Ou h.pe pins s σ H R I) (Vj h.pe pins s σ H R I),fun σ H Z e ds R z re q k=>by
 A8 gP at q
 A7⟨d,q1,q2⟩:=aP q
 cases d with
 | lst es=>
  A8 lJ at q2;cases q2
  &.inl (h.ev σ H Z e _ _ z re q1 fun v H1 Z1 s1 t1 z1 rv=>?_)
  A8 Rv at rv
  A7⟨p,xs,rfl,r2,r3⟩:=rv
  ~⟨p,rfl,⟨xs,z1.sm.seq r2⟩,k _ H1 Z1 _ xs s1 t1 z1 Kg (fun H2 s=>s.seq r2) r3⟩
 | tup es=>
  A8 lJ at q2;cases q2
  &.inr (h.ev σ H Z e _ _ z re q1 fun v H1 Z1 s1 t1 z1 rv=>?_)
  A8 Rv at rv
  A7⟨p,xs,rfl,r2,r3⟩:=rv
  ~⟨p,rfl,⟨xs,z1.sm.tup r2⟩,k _ H1 Z1 _ xs s1 t1 z1 Qf (fun H2 s=>s.tup r2) r3⟩
 | _=>A8 lJ at q2;cases q2⟩
def dC(lo:Int)(n:Nat):List D:=(E9 n).map fun i:Nat=>D.int (lo+(i:Int))
A9 vU{H:Hp}(lo:Int)(n:Nat):bG K H (dC lo n) ((E9 n).map fun i:Nat=>V.int (lo+(i:Int))):=by
 A8 dC
 &bG.of (by simp) fun i d x h1 h2=>?_
 rw[C3]at h1 h2
 cases q:(E9 n)[i]? with
 | none=>rw[q]at h1;cases h1
 | some j=>rw[q]at h1 h2;cases h1;cases h2;A8 Rv;rfl
def lim(i:Int):Bool:=decide (-100000≤i∧i≤100000)
def iK(fs:FA):FA:=fun e=>(fs e).bind fun ds=>match ds with
 | [.int n]=>if lim n=true then some (dC 0 n.toNat)else none
 | _=>none
A9 Lh{i:Int}(h:lim i=true):-100000≤i∧i≤100000:=of_decide_eq_true h
A9 Ib{tg:Expr}{p:Pos}(hg:Gl X "range") (hm:X.mg "range" = none) (ha:XA K X [a] tA fs) (hs:starEach [a] X.env=[(false,eval a X.env)]:=by rfl):XI K X tg (.Call (.Name "range" p) [a] [] pos) (Jo tA) (iK fs):=⟨ha.hk,uZ hg hm ha.pa hs,fun σ H Z e ds R z re q k=>by
 A8 iK at q
 A7⟨es,q1,q2⟩:=aP q
 split at q2
 ·rename_i n
  split at q2
  ·rename_i hl
   cases q2
   have hl:=Lh hl
   &ha.ev σ H Z e _ _ z re q1 fun vs H1 Z1 s1 t1 z1 rs=>?_
   A7⟨v,rfl,r⟩:=jH rs
   A8 Rv at r
   subst r
   ~⟨n,rfl,by omega,by omega,k _ H1 Z1 _ _ s1 t1 z1 vJ (fun _ _=>True.intro) (vU 0 n.toNat)⟩
  ·cases q2
 ·cases q2⟩
def kI(e:DE)(fr:List Nat):DE:=fr.map fun i=>(e[i]?).getD none
A9 Qw{H:Hp}{e:DE}{σ:St}{fr:List Nat}{d:D}{x:V}(re:oW K H e σ)(r:Rv K H d x):oW K H (some d::kI e fr) (some x::Cq σ fr):=fun i d' h=>by
 cases i with
 | zero=>simp at h;subst h;~⟨x,rfl,r⟩
 | succ i=>
  rw[List.getElem?_cons_succ]at h ⊢
  A8 kI at h
  A8 Cq
  rw[C3]at h ⊢
  cases q:fr[i]? with
  | none=>rw[q]at h;cases h
  | some j=>
   rw[q]at h
   have h:(e[j]?).getD none=some d':=E1 h
   have h2:e[j]?=some (some d'):=by
    cases q2:e[j]? with
    | none=>rw[q2]at h;cases h
    | some o=>rw[q2]at h;rw[show o=some d' from h]
   A7⟨v,h3,h4⟩:=re j d' h2
   &⟨v,?_,h4⟩
   show some (σ.getD j none)=_
   rw[F5,h3]
   rfl
def kJ(c:D→Option Bool)(el:D→Option D):List D→Option (List D)
 | []=>some []
 | x::xs=>(c x).bind fun b=>if b=true then(el x).bind fun y=>(kJ c el xs).map (y::·)else kJ c el xs
def bU(fi:FA)(fr:List Nat)(fc:FT)(fe:FE):FE:=fun e=>(fi e).bind fun xs=>if xs.length≤100000 then(kJ (fun x=>fc (some x::kI e fr)) (fun x=>fe (some x::kI e fr)) xs).map D.lst else none
A9 Dj{H:Hp}{p:Addr}{o:HO}(n:nR H p):oZ K H (upd H p o):=fun a xs h=>h.upd n
A9 Fq{wi:TI}{fi:FA}{fr:List Nat}{te:TE}{fe:FE}(hi:JD K wi fi)(hc:Ks K tc fc)(he:Ci K te fe):Ci K (Ac wi 1 fr (dR 0) tc te) (bU fi fr fc fe):=by
 intro σ H e d Q re q k
 A8 bU at q
 A7⟨xs,q1,q⟩:=aP q
 split at q
 ·rename_i hlen
  A7⟨ds,q2,rfl⟩:=iG q
  &hi σ H H e xs _ (Zn.self K H) re q1 fun J H1 Z1 P vs s1 t1 z1 hJ hP rvs=>?_
  intro D0 hD
  have hl:=rvs.length
  have QW:H D0=none:=s1.free hD
  generalize hcc:(fun x=>fc (some x::kI e fr))=cc at q2
  generalize hel:(fun x=>fe (some x::kI e fr))=el at q2
  &⟨fun i m ys H2=>∃Yo GF A,m=vs.length-i∧i≤vs.length∧ds=Yo++GF∧kJ cc el (xs.drop i)=some GF∧aH H1 H2∧H2 D0=some (.lst ys)∧cZ K H2 Yo A ys∧(∀a,A a→H1 a=none∧a≠D0)∧ys.length≤i,
   ⟨vs.length,[],ds,nil,by simp,L4 _,rfl,by simpa using q2,bT hD _,bI,by A8 cZ;~⟨fun _ z=>z,rfl⟩,fun _ z=>z.elim,B7 _⟩,?_⟩
  rintro i m ys H2 ⟨Yo,GF,A,rfl,hi',hds,hcl,s2,hD2,ow,fr2,hyl⟩
  A7⟨j1,j2,j3⟩:=hJ i H2 (hP H2 (z1.sm.trans s2))
  &⟨hD2,?_⟩
  by_cases hlt:i<vs.length
  ·&.inr ⟨j1 hlt,fun x H' y=>?_⟩
   A7⟨e1,ex⟩:=j2 x H' y
   subst e1
   have hx:=ex hlt
   have hxi:i<xs.length:=by omega
   have hxs:xs.drop i=xs[i]::xs.drop (i+1):=J6 hxi
   A7⟨x',hx',rx⟩:=rvs.get (B4 hxi)
   rw[hx]at hx'
   cases hx'
   rw[hxs]at hcl
   A8 kJ at hcl
   A7⟨bb,c1,c2⟩:=aP hcl
   show Kp 1 σ fr (some x::Cq σ fr)∧_
   &⟨⟨by simp[blk],fun j v hv=>?_⟩,?_⟩
   ·cases j with
    | zero=>simp[blk]at hv
    | succ j=>simpa[blk]using hv
   have NQ:oW K H' (some xs[i]::kI e fr) (some x::Cq σ fr):=Qw (re.same (s1.trans s2)) ((z1.sm.trans s2).rv _ _ rx)
   &hc _ H' _ bb _ NQ (by rw[←hcc]at c1;~c1) fun H3 s3=>?_
   have JG:=s3 _ _ hD2
   cases bb with
   | false=>
    rw[if_neg A5]at c2 ⊢
    ~⟨vs.length-(i+1),by omega,Yo,GF,A,rfl,by omega,hds,c2,s2.trans s3,JG,ow.same s3,fr2,by omega⟩
   | true=>
    rw[if_pos rfl]at c2 ⊢
    A7⟨dy,c3,c4⟩:=aP c2
    A7⟨QX,c5,rfl⟩:=iG c4
    &he _ H3 _ dy _ (NQ.same s3) (by rw[←hel]at c3;~c3) fun yv H4 s4 n4=>?_
    have NT:=s4 _ _ JG
    &⟨NT,Kw A3,vs.length-(i+1),by omega,Yo++[dy],QX,?_⟩
    A7⟨B,oB,fB⟩:=n4
    have hB:∀a,B a→H1 a=none∧a≠D0:=fun a qa=>⟨(s2.trans s3).free (fB a qa),fun z=>by have q0:=fB a qa;rw[z,JG]at q0;cases q0⟩
    &⟨dY A B,rfl,by omega,by rw[hds];simp,c5,fun b o eb=>?_,bI,?_,fun a qa=>qa.elim (fr2 a) (hB a),by rw[D2];simp;~hyl⟩
    ·rw[aX (dM eb hD)]
     ~(s2.trans (s3.trans s4)) b o eb
    ·have o4:=(ow.same s3).same s4
     have ap:Apart A B:=fun a qa qb=>by
      A7⟨⟨u,eu⟩,_⟩:=cZ.cells _ _ _ (ow.same s3) a qa
      rw[fB a qb]at eu;cases eu
     have all:cZ K H4 (Yo++[dy]) (dY A B) (ys++[yv]):=dI.mpr ((dI.mp o4).snoc oB ap)
     ~cZ.frame (Dj (mC NT)) _ _ _ all fun a qa=>aX (qa.elim (fun z=>(fr2 a z).2) fun z=>(hB a z).2)
  ·have ei:i=vs.length:=by omega
   subst ei
   have:xs.drop vs.length=[]:=List.drop_eq_nil_of_le A3
   rw[this]at hcl
   A8 kJ at hcl
   cases hcl
   rw[J5]at hds
   subst hds
   &.inl ⟨j3 (B7 _),k _ H2 (s1.trans s2) ⟨dY (·=D0) A,?_,fun a qa=>qa.elim (fun z=>by cases z;~QW) fun z=>s1.free (fr2 a z).1⟩⟩
   A8 Ow
   ~⟨D0,ys,A,rfl,hD2,fun z=>(fr2 D0 z).2 rfl,fun _=>Iff.rfl,ow⟩
 ·cases q
def cV:FT:=fun _=>some true
structure JH(K:aA)(X:Cx)(ifs:List Expr)(t:TT)(f:FT):Prop where
 NZ:Yk X ifs t
 ev:Ks K t f
A9 dJ:JH K X [] Zt cV:=⟨Pz,fun σ H e b Q re q k=>by cases q;~k H (aH.refl _)⟩
A9 gW{tg elt iter:Expr}{ifs:List Expr}{scope:Scope}{wi:TI}{fi:FA}{te:TE}{fe:FE}(N:List Str)(fr:List Nat)(hcalm:X.calm=true)(B:cQ X.env.scope scope X.N N 1 fr)(hi:XI K X tg iter wi fi)
  (hg:∀cl fp s H C,PG (cL X scope N cl fp s H C) tg (dR 0)) (hc:∀cl fp s H C,JH K (cL X scope N cl fp s H C) ifs tc fc) (he:∀cl fp s H C,XN K (cL X scope N cl fp s H C) elt te fe)
  (hs:∀x,foldedSetIterable iter X.env x=pure x:=by intro _;rfl):XN K X (.ListComp elt [⟨tg,iter,ifs,0⟩] scope pos) (Ac wi 1 fr (dR 0) tc te) (bU fi fr fc fe):=
 ⟨hi.hk,Qd N 1 fr hcalm B hi.pi hg (fun cl fp s H C=>(hc cl fp s H C).NZ) (fun cl fp s H C=>(he cl fp s H C).pe) hs,
  Fq hi.ev (hc [] [] X.s₀ X.H₀ 0).ev (he [] [] X.s₀ X.H₀ 0).ev⟩
def kO(K:aA)(n:Nat)(F:List D→Option D):Sp:=fun vs H Q _=>∃ds d,ds.length=n∧bG K H ds vs∧F ds=some d∧∀v H',aH H H'→Ag K H H' d v→Q v H'
def bJ(n:Nat)(F:List D→Option D)(fs:FA):FE:=fun e=>(fs e).bind fun ds=>if ds.length=n then F ds else none
A9 bF{x:Str}{k n:Nat}{F:List D→Option D}{p:Pos}(C:jF X.prog X.w X.K X.mg X.base x k n (kO K n F))(hr:gF k X.A)(hg:Gl X x)(ha:XA K X (e::es) tA fs)(hdb:(x==("__debug__" : Str))=false:=by decide)
  (he:starEach (e::es) X.env=(false,eval e X.env)::starEach es X.env:=by rfl) (hpl:(backTo pos (starEach es X.env)).any (·.1)=false:=by rfl):XN K X (.Call (.Name x p) (e::es) [] pos) (zW (kO K n F) [] E0 tA) (bJ n F fs):=
 ⟨ha.hk,Wk C hr hg ha.pa hdb he hpl,fun σ H e d Q re q k=>by
  A8 bJ at q
  A7⟨ds,q1,q2⟩:=aP q
  split at q2
  ·rename_i hl
   &call_of (ha.ev σ H H e ds _ (Zn.self K H) re q1 fun vs H1 Z1 s1 t1 z1 rs=>?_)
   ~⟨ds,d,hl,z1.sm.Je _ _ rs,q2,fun v H2 s2 n=>k v H2 (s1.trans s2) (n.back s1)⟩
  ·cases q2⟩
end
end L2


namespace L2
open PySem PySem.Spec PyProof.Rows
inductive SD where
  | no | fro (d:D) | own (d:D) | inn (v:V) (d:D)
def SD.z:SD→Option D
 | .fro d=>some d
 | .own d=>if d.cY=true then some d else none
 | .inn _ d=>if d.cY=true then some d else none
 | .no=>none
def SD.r:SD→Option D
 | .fro d=>some d
 | .own d=>some d
 | .inn _ d=>some d
 | .no=>none
abbrev EN:=List SD
def zE(env:EN):DE:=env.map SD.z
def rE(env:EN):DE:=env.map SD.r
def fX(K:aA)(H Z:Hp):SD→Fp→Option V→Prop
 | .no,A,_=>None A
 | .fro d,A,y=>None A∧∃v,y=some v∧Rv K Z d v
 | .own d,A,y=>∃v,y=some v∧Ow K H d A v
 | .inn v d,A,y=>y=some v∧Ow K H d A v
def Rel(K:aA)(B:Hp)(env:EN)(σ:St)(H:Hp):Prop:=∃A,cN (fX K H (out H A)) env A σ∧aH B (out H A)
section
variable{K:aA}{B B' H H' Z Z':Hp}{env:EN}{σ:St}{A:Fp}
A9 cN.all{α β:Type}{R:α→Fp→β→Prop}{Pr:Addr→Prop}:∀{ds:List α} {A:Fp} {ys:List β},cN R ds A ys→(∀d B y,R d B y→∀a,B a→Pr a)→∀a,A a→Pr a
 | [],A,ys,h,_,a,q=>absurd q (h.1 a)
 | d::ds,A,ys,⟨y,yt,A1,A2,h1,h2,h3,h4,h5⟩,m,a,q=>((h3 a).mp q).elim (m _ _ _ h4 a) (cN.all h5 m a)
A9 fX.cells{s:SD}{y:Option V}(h:fX K H Z s A y):∀a,A a→mZ H a:=by
 cases s with
 | no=>~fun a q=>absurd q (h a)
 | fro d=>~fun a q=>absurd q (h.1 a)
 | own d=>A7⟨v,_,o⟩:=h;~Ow.cells d A v o
 | inn v d=>~Ow.cells d A v h.2
A9 eX(h:cN (fX K H Z) env A σ):∀a,A a→mZ H a:=cN.all h fun _ _ _ q=>q.cells
A9 Rel.mono(h:Rel K B' env σ H)(s:aH B B'):Rel K B env σ H:=let ⟨A,a,b⟩:=h;⟨A,a,s.trans b⟩
A9 gJ{A A':Fp}(s:aH H H')(h:∀a,A' a→A a∨H a=none):aH (out H A) (out H' A'):=fun b o e=>by
 A7⟨e1,e2⟩:=aZ.mp e
 &aZ.mpr ⟨fun q=>?_,s b o e2⟩
 rcases h b q with q | q
 ·~e1 q
 ·rw[q]at e2;cases e2
A9 fX.same{s:SD}{y:Option V}(h:fX K H Z s A y)(e:aH H H')(z:aH Z Z'):fX K H' Z' s A y:=by
 cases s with
 | no=>~h
 | fro d=>A7⟨h1,v,h2,h3⟩:=h;~⟨h1,v,h2,z.rv _ _ h3⟩
 | own d=>A7⟨v,h1,h2⟩:=h;~⟨v,h1,h2.same e⟩
 | inn v d=>~⟨h.1,h.2.same e⟩
A9 Rel.same(h:Rel K B env σ H)(s:aH H H'):Rel K B env σ H':=by
 A7⟨A,a,b⟩:=h
 have g:aH (out H A) (out H' A):=gJ s fun a q=>.inl q
 ~⟨A,a.mono fun e C z _ q=>q.same s g,b.trans g⟩
A9 Dk(h:cN (fX K H (out H A)) env A σ):Zn K A (out H A) H:=⟨gH H A,Kr fun a q=>(eX h a q).2,fun a q=>⟨by
 A8 out;rw[if_pos q],fun z=>by A7⟨⟨o,e⟩,_⟩:=eX h a q;rw[z]at e;cases e⟩⟩
A9 Rel.r(h:Rel K B env σ H):oW K H (rE env) σ:=fun i d q=>by
 A7⟨A,a,b⟩:=h
 A8 rE at q
 rw[C3]at q
 cases e:env[i]? with
 | none=>rw[e]at q;cases q
 | some s=>
  rw[e]at q
  A7⟨y,A1,C,h1,h2,h3,h4,_⟩:=a.focus e
  cases s with
  | no=>cases q
  | fro d0=>cases q;A7⟨_,v,rfl,h5⟩:=h4;~⟨v,h1,(gH H A).rv _ _ h5⟩
  | own d0=>cases q;A7⟨v,rfl,h5⟩:=h4;~⟨v,h1,Ow.rv _ _ _ h5⟩
  | inn v d0=>cases q;A7⟨rfl,h5⟩:=h4;~⟨v,h1,Ow.rv _ _ _ h5⟩
A9 BL(a:cN (fX K H (out H A)) env A σ):oW K (out H A) (zE env) σ:=fun i d q=>by
 A8 zE at q
 rw[C3]at q
 cases e:env[i]? with
 | none=>rw[e]at q;cases q
 | some s=>
  rw[e]at q
  A7⟨y,A1,C,h1,h2,h3,h4,_⟩:=a.focus e
  cases s with
  | no=>cases q
  | fro d0=>cases q;A7⟨_,v,rfl,h5⟩:=h4;~⟨v,h1,h5⟩
  | own d0=>
   A7⟨v,rfl,h5⟩:=h4
   have q:(if d0.cY=true then some d0 else none)=some d:=E1 q
   split at q
   ·rename_i im
    cases q
    ~⟨v,h1,(rP _ v im (Ow.rv _ _ _ h5)).out (fun _ z=>z.elim) fun x hx=>(eX a x hx).2⟩
   ·cases q
  | inn v d0=>
   A7⟨rfl,h5⟩:=h4
   have q:(if d0.cY=true then some d0 else none)=some d:=E1 q
   split at q
   ·rename_i im
    cases q
    ~⟨v,h1,(rP _ v im (Ow.rv _ _ _ h5)).out (fun _ z=>z.elim) fun x hx=>(eX a x hx).2⟩
   ·cases q
A9 Rel.own{i:Nat}{d:D}{v:V}(h:Rel K B env σ H)(hi:i<env.length)(s:aH H H')(n:Ag K H H' d v):Rel K B (env.set i (.own d)) (σ.set i (some v)) H':=by
 A7⟨A,a,b⟩:=h
 A7⟨N,o,f⟩:=n
 have cl:=eX a
 A7⟨y,A1,C,h1,h2,h3,h4,k⟩:=a.focus (B4 hi)
 have g:aH (out H A) (out H' (dY N C)):=gJ s fun x q=>q.elim (fun q=>.inr (f x q)) fun q=>.inl ((h3 x).mpr (.inr q))
 &⟨dY N C,k (fX K H' (out H' (dY N C))) (fun e D z _ q=>q.same s g) (.own d) (some v) N (fun x q c=>?_) ⟨v,rfl,o⟩,b.trans g⟩
 A7⟨⟨u,e⟩,_⟩:=cl x ((h3 x).mpr (.inr c))
 rw[f x q]at e;cases e
A9 Ft{i:Nat}{d:D}{v:V}(a:cN (fX K H (out H A)) env A σ)(b:aH B (out H A))(hi:i<env.length)(s:aH H H')(t:aH (out H A) Z')(z:Zn K A Z' H')(r:Rv K Z' d v):Rel K B (env.set i (.fro d)) (σ.set i (some v)) H':=by
 A7⟨y,A1,C,h1,h2,h3,h4,k⟩:=a.focus (B4 hi)
 have hC:∀x,dY nil C x→A x:=fun x q=>q.elim False.elim fun q=>(h3 x).mpr (.inr q)
 have g:aH (out H A) (out H' (dY nil C)):=gJ s fun x q=>.inl (hC x q)
 have g2:aH Z' (out H' (dY nil C)):=fun x o e=>aZ.mpr ⟨fun q=>(by rw[(z.no x (hC x q)).1]at e;cases e),z.sm x o e⟩
 ~⟨dY nil C,k (fX K H' (out H' (dY nil C))) (fun e D z _ q=>q.same s g) (.fro d) (some v) nil (fun x q c=>q) ⟨fun _ z=>z,v,rfl,g2.rv _ _ r⟩,b.trans g⟩
def Li(env:EN)(j:Nat):EN:=match env[j]? with
 | some (.own d)=>env.set j (.fro d)
 | _=>env
def oX(js:List Nat)(env:EN):EN:=js.foldl Li env
A9 set_same{α:Type}{l:List α}{i:Nat}{x:α}(h:l[i]?=some x):l.set i x=l:=by
 apply List.ext_getElem?
 intro j
 rw[List.getElem?_set]
 by_cases c:i=j
 ·subst c
  rw[if_pos rfl,h]
  split
  ·rfl
  ·rename_i q;rw[List.getElem?_eq_none A3]at h;cases h
 ·rw[if_neg c]
A9 Rel.Li{j:Nat}(h:Rel K B env σ H):Rel K B (Li env j) σ H:=by
 A8 L2.Li
 cases e:env[j]? with
 | none=>~h
 | some s=>
  cases s with
  | no=>~h
  | fro d=>~h
  | inn v d=>~h
  | own d=>
   A7⟨A,a,b⟩:=h
   have cl:=eX a
   A7⟨y,A1,C,h1,h2,h3,h4,k⟩:=a.focus e
   A7⟨v,rfl,o⟩:=h4
   have g:aH (out H A) (out H (dY nil C)):=gJ (aH.refl _) fun x q=>q.elim False.elim fun q=>.inl ((h3 x).mpr (.inr q))
   have:=k (fX K H (out H (dY nil C))) (fun e D z _ q=>q.same (aH.refl _) g) (.fro d) (some v) nil (fun x q c=>q)
    ⟨fun _ z=>z,v,rfl,o.out (fun x q c=>h2 x q (c.elim False.elim id)) fun x q=>(cl x ((h3 x).mpr (.inr (q.elim False.elim id)))).2⟩
   rw[set_same h1]at this
   ~⟨dY nil C,this,b.trans g⟩
A9 Rel.oX{js:List Nat}(h:Rel K B env σ H):Rel K B (oX js env) σ H:=by
 A8 L2.oX
 induction js generalizing env with
 | nil=>~h
 | cons j js ih=>~ih h.Li
end
inductive SR where
  | next (env:EN) | ret (d:D) | brk (env:EN) | cont (env:EN) | bad | rete (d:D) (env:EN)
def Dl(K:aA)(B:Hp)(E:Ends):SR→Prop
 | .next env=>∀σ H,Rel K B env σ H→E.nx σ H
 | .ret d=>∀v H A,aH B (out H A)→Ow K H d A v→E.rt v H
 | .brk env=>∀σ H,Rel K B env σ H→E.bk σ H
 | .cont env=>∀σ H,Rel K B env σ H→E.ct σ H
 | .bad=>False
 | .rete d env=>∀v σ H,Rel K B (env++[.own d]) (σ++[some v]) H→E.rt v H
A9 Dl.mono{K:aA}{B B':Hp}{E:Ends}{r:SR}(h:Dl K B E r)(s:aH B B'):Dl K B' E r:=by
 cases r with
 | next env=>~fun σ H q=>h σ H (q.mono s)
 | ret d=>~fun v H A q=>h v H A (s.trans q)
 | brk env=>~fun σ H q=>h σ H (q.mono s)
 | cont env=>~fun σ H q=>h σ H (q.mono s)
 | bad=>~h
 | rete d env=>~fun v σ H q=>h v σ H (q.mono s)
abbrev GS:=EN→SR
def DS(K:aA)(t:TS)(g:GS):Prop:=∀(B:Hp)(E:Ends)(σ:St)(H:Hp)(env:EN),Rel K B env σ H→Dl K B E (g env)→t E σ H
def BP(K:aA)(B:Hp)(E:Ends)(σ:St):SR→Prop
 | .next env=>∀H,Rel K B env σ H→E.nx σ H
 | r=>Dl K B E r
def BR(K:aA)(t:TS)(g:GS):Prop:=∀(B:Hp)(E:Ends)(σ:St)(H:Hp)(env:EN),Rel K B env σ H→BP K B E σ (g env)→t E σ H
A9 BR.ds{K:aA}{t:TS}{g:GS}(h:BR K t g):DS K t g:=fun B E σ H env r p=>h B E σ H env r (by
 cases q:g env with
 | next e=>rw[q]at p;~fun H' r'=>p σ H' r'
 | ret d=>rw[q]at p;~p
 | brk e=>rw[q]at p;~p
 | cont e=>rw[q]at p;~p
 | bad=>rw[q]at p;~p
 | rete d e=>rw[q]at p;~p)
structure YS(K:aA)(X:Cx)(st:Stmt)(t:TS)(g:GS):Prop where
 ps:PS X st t
 ev:DS K t g
structure YB(K:aA)(X:Cx)(st:List Stmt)(t:TS)(g:GS):Prop where
 ps:Es X st t
 ev:DS K t g
section
variable{K:aA}{X:Cx}{st:Stmt}{sts:List Stmt}{t u:TS}{g g1 g2:GS}{e a b c:Expr}{te ta tb:TE}{f fa fb:FE}{tc:TT}{fc:FT}{pos:Pos}
def aR(g1 g2:GS):GS:=fun env=>match g1 env with
 | .next env'=>g2 env'
 | r=>r
A9 Wy(h1:DS K t g1)(h2:DS K u g2):DS K (Vh t u) (aR g1 g2):=fun B E σ H env r p=>by
 A8 aR at p
 &h1 B {E with nx:=u E} σ H env r ?_
 cases q:g1 env with
 | next env'=>rw[q]at p;~fun σ' H' r'=>h2 B E σ' H' env' r' p
 | ret d=>rw[q]at p;~p
 | brk d=>rw[q]at p;~p
 | cont d=>rw[q]at p;~p
 | bad=>rw[q]at p;~p
 | rete d e=>rw[q]at p;~p
def bV:GS:=fun env=>.next env
A9 cG:YB K X [] Tn bV:=⟨Oo,fun B E σ H env r p=>p σ H r⟩
A9 aQ(h:YS K X st t g):YB K X [st] t g:=⟨Oq h.ps,h.ev⟩
A9 aK(h:YS K X st t g1)(h2:YB K X sts u g2):YB K X (st::sts) (Vh t u) (aR g1 g2):=⟨Ji h.ps h2.ps,Wy h.ev h2.ev⟩
def cX(i:Nat)(f:FE):GS:=fun env=>match f (rE env)with
 | some d=>if i<env.length then .next (env.set i (.own d))else .bad
 | none=>.bad
A9 Lj{i:Nat}(h:Ci K te f):DS K (Gy te (dR i)) (cX i f):=fun B E σ H env r p=>by
 A8 cX at p
 split at p
 ·rename_i d q
  split at p
  ·rename_i hi
   ~h σ H (rE env) d _ r.r q fun v H' s n=>p _ _ (r.own hi s n)
  ·~p.elim
 ·~p.elim
A9 bQ{i:Nat}{x:Str}{pos':Pos}(h:XN K X e te f)(hp:PE X e te→PS X (.Assign [.Name x pos'] e pos) (Gy te (dR i))):YS K X (.Assign [.Name x pos'] e pos) (Gy te (dR i)) (cX i f):=⟨hp h.pe,Lj h.ev⟩
def cA(f:FE):GS:=fun env=>match f (rE env)with
 | some d=>.ret d
 | none=>.bad
A9 bC(h:XN K X e te f):YS K X (.Return (some e) pos) (Vi te) (cA f):=⟨Jj h.pe,fun B E σ H env r p=>by
 A8 cA at p
 split at p
 ·rename_i d q
  &h.ev σ H (rE env) d _ r.r q fun v H' s ⟨N,o,fr⟩=>p v H' N (fun x u ex=>?_) o
  A7⟨A,a,b⟩:=r
  have h1:=(aZ.mp (b x u ex)).2
  ~aZ.mpr ⟨fun z=>(by rw[fr x z]at h1;cases h1),s x u h1⟩
 ·~p.elim⟩
def mW(i:Nat):GS:=fun env=>match env[i]? with
 | some (.own d)=>.ret d
 | some (.fro d)=>if d.cY=true then .ret d else .bad
 | _=>.bad
A9 yD{i:Nat}(h:PE X e (jA i)):YS K X (.Return (some e) pos) (Vi (jA i)) (mW i):=⟨Jj h,fun B E σ H env r p=>by
 A8 mW at p
 A7⟨A,a,b⟩:=r
 split at p
 ·rename_i d q
  A7⟨y,A1,C,h1,h2,h3,h4,_⟩:=a.focus q
  A7⟨v,rfl,o⟩:=h4
  ~⟨v,h1,p v H A1 (b.trans (gJ (aH.refl _) fun x z=>.inl ((h3 x).mpr (.inl z)))) o⟩
 ·rename_i d q
  split at p
  ·rename_i im
   A7⟨y,A1,C,h1,h2,h3,h4,_⟩:=a.focus q
   A7⟨_,v,rfl,rv⟩:=h4
   ~⟨v,h1,p v H nil (b.trans (gJ (aH.refl _) fun x z=>z.elim)) (rP d v im ((gH H A).rv _ _ rv))⟩
  ·~p.elim
 ·~p.elim⟩
def kZ(f:FT)(g1 g2:GS):GS:=fun env=>match f (rE env)with
 | some true=>g1 env
 | some false=>g2 env
 | none=>.bad
A9 eG{s1 s2:List Stmt}(hc:XT K X c tc fc)(h1:YB K X s1 t g1)(h2:YB K X s2 u g2):YS K X (.If c s1 s2 pos) (Yw tc t u) (kZ fc g1 g2):=⟨Yx hc.pt h1.ps h2.ps,fun B E σ H env r p=>by
 A8 kZ at p
 split at p
 ·rename_i q
  &hc.ev σ H (rE env) true _ r.r q fun H' s=>?_
  rw[if_pos rfl]
  ~h1.ev B E σ H' env (r.same s) p
 ·rename_i q
  &hc.ev σ H (rE env) false _ r.r q fun H' s=>?_
  rw[if_neg A5]
  ~h2.ev B E σ H' env (r.same s) p
 ·~p.elim⟩
def pG(i:Nat)(g:GS):List D→EN→SR
 | [],env=>.next env
 | x::xs,env=>if i<env.length then match g (env.set i (.fro x))with
   | .next env'=>pG i g xs env'
   | .cont env'=>pG i g xs env'
   | .brk env'=>.next env'
   | r=>r
  else .bad
def yE(js:List Nat)(i:Nat)(fi:FA)(g:GS):GS:=fun env=>match fi (zE (oX js env))with
 | some xs=>pG i g xs (oX js env)
 | none=>.bad
A9 Wz{js:List Nat}{i:Nat}{wi:TI}{fi:FA}{tb:TS}(hi:JD K wi fi)(h:DS K tb g):DS K (Jp wi (dR i) tb) (yE js i fi g):=fun B E σ H env r p=>by
 A8 yE at p
 have r':Rel K B (oX js env) σ H:=r.oX
 generalize oX js env=pH at r' p
 split at p
 ·rename_i xs q
  A7⟨A,a,b⟩:=r'
  &hi σ H (out H A) (zE pH) xs _ (Dk a) (BL a) q fun J H1 Z1 P vs s t z hJ hP rvs=>?_
  have hl:=rvs.length
  have g0:aH Z1 (out H1 A):=fun x o e=>aZ.mpr ⟨fun qa=>(by rw[(z.no x qa).1]at e;cases e),z.sm x o e⟩
  have JK:Rel K Z1 pH σ H1:=⟨A,a.mono fun e D y _ qq=>qq.same s (gJ s fun x q=>.inl q),g0⟩
  have bz:aH B Z1:=b.trans t
  have p':=p.mono bz
  &Fb hJ (fun k σ2 H2=>∃mO,Rel K Z1 mO σ2 H2∧Dl K Z1 E (pG i g (xs.drop k) mO)) ⟨pH,JK,by simpa using p'⟩ (fun k σ2 H2 _ ⟨mO,⟨A2,a2,b2⟩,_⟩=>hP H2 (b2.trans (gH H2 A2))) ?_ ?_
  ·rintro k x σ2 H2 hx ⟨mO,r2,p2⟩
   have hk:k<xs.length:=by
    have:=B8.mp hx
    A7⟨h1,_⟩:=this
    omega
   rw[J6 hk]at p2
   A8 pG at p2
   A7⟨x',hx',rx⟩:=rvs.get (B4 hk)
   rw[hx]at hx'
   cases hx'
   split at p2
   ·rename_i hlen
    A7⟨A2,a2,b2⟩:=r2
    have r3:Rel K Z1 (mO.set i (.fro xs[k])) (σ2.set i (some x)) H2:=Ft a2 b2 hlen (aH.refl _) (aH.refl _) (Dk a2) (b2.rv _ _ rx)
    &h Z1 _ _ H2 _ r3 ?_
    split at p2
    ·rename_i env' q2;rw[q2];~fun σ' H' r'=>⟨env',r',p2⟩
    ·rename_i env' q2;rw[q2];~fun σ' H' r'=>⟨env',r',p2⟩
    ·rename_i env' q2;rw[q2];~p2
    ·rename_i n1 n2 n3
     cases q2:g (mO.set i (.fro xs[k]))with
     | next e=>~absurd q2 (n1 e)
     | cont e=>~absurd q2 (n2 e)
     | brk e=>~absurd q2 (n3 e)
     | ret d=>rw[q2]at p2;~p2
     | bad=>rw[q2]at p2;~p2
     | rete d e=>rw[q2]at p2;~p2
   ·~p2.elim
  ·rintro σ2 H2 ⟨mO,r2,p2⟩
   rw[hl,Q6]at p2
   ~p2 σ2 H2 r2
 ·~p.elim
A9 Dm{tg iter:Expr}{body:List Stmt}{wi:TI}{fi:FA}{tb:TS}{i:Nat}(js:List Nat)(hp:PassesOwn (model X.prog X.w) X.A X.env X.xe)(Xa:X.calm=true)(hi:XI K X tg iter wi fi)(hg:PG X tg (dR i))(hb:YB K X body tb g)
  (hs:∀x,foldedSetIterable iter X.env x=pure x:=by intro _;rfl):YS K X (.For tg iter body [] pos) (Jp wi (dR i) tb) (yE js i fi g):=⟨Jq hp Xa hi.pi hg hb.ps hs,Wz hi.ev hb.ev⟩
end
end L2


namespace L2
open PySem PySem.Spec PyProof.Rows
inductive Step where
  | ix (k:Nat) | key (k:Key) | fld (C:Addr) (f:Str)
def kids:D→List D
 | .lst ds=>ds
 | .dk _ ds=>ds
 | .ins _ _ ds=>ds
 | _=>[]
def sJ:D→List D→D
 | .lst _,ds=>.lst ds
 | .dk ks _,ds=>.dk ks ds
 | .ins C nm _,ds=>.ins C nm ds
 | d,_=>d
def uQ:Step→D→Option Nat
 | .ix k,.lst ds=>some k
 | .key k,.dk ks _=>posK ks k
 | .fld C f,.ins C' nm _=>if C'=C then posK nm f else none
 | _,_=>none
def pI:List Step→D→Option D
 | [],d=>some d
 | s::p,d=>(uQ s d).bind fun j=>((kids d)[j]?).bind (pI p)
def pJ:List Step→D→D→D
 | [],_,d'=>d'
 | s::p,d,d'=>match uQ s d with
  | some j=>(match (kids d)[j]? with
   | some c=>sJ d ((kids d).set j (pJ p c d'))
   | none=>d)
  | none=>d
def stepV(H:Hp)(s:Step)(v:V):Option V:=match v with
 | .ref a=>(match s,H a with
  | .ix k,some (.lst xs)=>xs[k]?
  | .key k,some (.dK kvs)=>Hr kvs k
  | .fld C f,some (.ins C' _ fs)=>if C'=C then fs.lookup f else none
  | _,_=>none)
 | _=>none
def Fv(H:Hp):List Step→V→Option V
 | [],v=>some v
 | s::p,v=>(stepV H s v).bind (Fv H p)
A9 Dn{nm:List Str}{xs:List V}{f:Str}(h:nm.length=xs.length):(nm.zip xs).lookup f=(posK nm f).bind fun j=>xs[j]?:=by
 induction nm generalizing xs with
 | nil=>A8 posK;rfl
 | cons a nm ih=>
  cases xs with
  | nil=>simp at h
  | cons x xs=>
   have ih:=ih (xs:=xs) (by simpa using h)
   A8 posK
   rw[P4,K3]
   by_cases c:a=f
   ·subst c;simp
   ·have c2:(f==a)=false:=by
     rw[beq_eq_false_iff_ne];~fun z=>c z.symm
    rw[c2,if_neg c,ih]
    cases posK nm f<;>rfl
A9 Ow.kids{K:aA}{H:Hp}{d:D}{A:Fp}{v:V}{s:Step}{j:Nat}(h:Ow K H d A v)(q:uQ s d=some j):∃xs T Bt,(∀x,xs[j]?=some x→stepV H s v=some x)∧cZ K H (kids d) Bt xs∧Is A (dY T Bt)∧Apart T Bt ∧
  ∀H' ds' B',ds'.length=(kids d).length→cZ K H' ds' B' xs→(∀a,T a→H' a=H a)→Apart T B'→Ow K H' (sJ d ds') (dY T B') v:=by
 cases d with
 | lst ds=>
  A8 Ow at h
  A7⟨a,xs,B,rfl,h2,h3,h4,h5⟩:=h
  cases s with
  | ix k=>
   A8 uQ at q
   cases q
   &⟨xs,(·=a),B,fun x hx=>?_,h5,h4,fun x qx qb=>h3 (qx▸qb),fun H' ds' B' hl o f ap=>?_⟩
   ·A8 stepV;dsimp only;rw[h2];~hx
   ·show Ow K H' (.lst ds') _ _
    A8 Ow
    ~⟨a,xs,B',rfl,(f a rfl).trans h2,ap a rfl,fun _=>Iff.rfl,o⟩
  | _=>A8 uQ at q;cases q
 | dk ks ds=>
  A8 Ow at h
  A7⟨a,xs,B,rfl,h2,h2',h3,h4,h5⟩:=h
  cases s with
  | key k=>
   have q:posK ks k=some j:=q
   &⟨xs,(·=a),B,fun x hx=>?_,h5,h4,fun x qx qb=>h3 (qx▸qb),fun H' ds' B' hl o f ap=>?_⟩
   ·A8 stepV;dsimp only;rw[h2];show Hr (ks.zip xs) k=_;rw[Ai h2',q];~hx
   ·show Ow K H' (.dk ks ds') _ _
    A8 Ow
    ~⟨a,xs,B',rfl,(f a rfl).trans h2,h2',ap a rfl,fun _=>Iff.rfl,o⟩
  | _=>A8 uQ at q;cases q
 | ins C nm ds=>
  A8 Ow at h
  A7⟨a,dx,xs,B,rfl,h2,h2',h3,h3',h3'',h4,h5⟩:=h
  cases s with
  | fld C0 k=>
   have q:(if C=C0 then posK nm k else none)=some j:=q
   by_cases hc:C=C0
   rotate_left
   ·rw[if_neg hc]at q;cases q
   rw[if_pos hc]at q
   &⟨xs,(fun x=>x=a∨x=dx),B,fun x hx=>?_,h5,h4,fun x qx qb=>qx.elim (fun z=>h3' (z▸qb)) fun z=>h3'' (z▸qb),fun H' ds' B' hl o f ap=>?_⟩
   ·A8 stepV;dsimp only;rw[h2];show (if C=C0 then(nm.zip xs).lookup k else none)=_;rw[if_pos hc,Dn h3,q];~hx
   ·show Ow K H' (.ins C nm ds') _ _
    A8 Ow
    ~⟨a,dx,xs,B',rfl,(f a (.inl rfl)).trans h2,(f dx (.inr rfl)).trans h2',h3,ap a (.inl rfl),ap dx (.inr rfl),fun _=>Iff.rfl,o⟩
  | _=>A8 uQ at q;cases q
 | _=>cases s<;>(A8 uQ at q;cases q)
A9 Ow.at{K:aA}{H:Hp}:∀{p:List Step} {d d1:D} {A:Fp} {v:V},Ow K H d A v→pI p d=some d1→∃w A1 C,Fv H p v=some w∧Apart A1 C∧Is A (dY A1 C)∧Ow K H d1 A1 w ∧
    ∀H' d' A',Apart A' C→(∀a,C a→H' a=H a)→oZ K H H'→Ow K H' d' A' w→Ow K H' (pJ p d d') (dY A' C) v
  | [],d,d1,A,v,h,q=>by
    A8 pI at q
    cases q
    ~⟨v,A,nil,rfl,fun _ _ z=>z,fun x=>⟨.inl,fun z=>z.elim id False.elim⟩,h,fun H' d' A' _ _ _ o=>o.congr fun x=>⟨.inl,fun z=>z.elim id False.elim⟩⟩
  | s::p,d,d1,A,v,h,q=>by
    A8 pI at q
    A7⟨j,q1,q2⟩:=aP q
    A7⟨c,q3,q4⟩:=aP q2
    A7⟨xs,T,Bt,k1,k2,k3,k4,k5⟩:=h.kids q1
    A7⟨y,B1,C1,f1,f2,f3,f4,f5⟩:=(dI.mp k2).focus q3
    A7⟨w,A1,C2,g1,g2,g3,g4,g5⟩:=Ow.at f4 q4
    &⟨w,A1,dY T (dY C1 C2),?_,?_,?_,g4,fun H' d' A' ap fr tk o=>?_⟩
    · A8 Fv
      rw[k1 y f1]
      ~g1
    · intro x qx qc
      have b1:B1 x:=(g3 x).mpr (.inl qx)
      rcases qc with qc | qc | qc
      · ~k4 x qc ((f3 x).mpr (.inl b1))
      · ~f2 x b1 qc
      · ~g2 x qx qc
    · intro x
      rw[k3 x]
      constructor
      · rintro(z | z)
        · ~.inr (.inl z)
        · rcases(f3 x).mp z with z | z
          · rcases(g3 x).mp z with z | z
            · ~.inl z
            · ~.inr (.inr (.inr z))
          · ~.inr (.inr (.inl z))
      · rintro(z | z | z | z)
        · ~.inr ((f3 x).mpr (.inl ((g3 x).mpr (.inl z))))
        · ~.inl z
        · ~.inr ((f3 x).mpr (.inr z))
        · ~.inr ((f3 x).mpr (.inl ((g3 x).mpr (.inr z))))
    · have o1:Ow K H' (pJ p c d') (dY A' C2) y:=g5 H' d' A' (fun x a b=>ap x a (.inr (.inr b))) (fun a z=>fr a (.inr (.inr z))) tk o
      have QZ:Apart (dY A' C2) C1:=fun x a b=>a.elim (fun z=>ap x z (.inr (.inl b))) fun z=>f2 x ((g3 x).mpr (.inr z)) b
      have o2:=f5 (Ow K H') (fun e B z hb qq=>Ow.frame tk e B z qq fun a za=>fr a (.inr (.inl (hb a za)))) (pJ p c d') y (dY A' C2) QZ o1
      rw[set_same f1]at o2
      have o3:=k5 H' ((L2.kids d).set j (pJ p c d')) _ (by rw[List.length_set]) (dI.mpr o2) (fun a z=>fr a (.inl z)) (fun x a b=>by
        rcases b with (b | b) | b
        · ~ap x b (.inl a)
        · ~k4 x a ((f3 x).mpr (.inl ((g3 x).mpr (.inr b))))
        · ~k4 x a ((f3 x).mpr (.inr b)))
      have e:pJ (s::p) d d'=sJ d ((L2.kids d).set j (pJ p c d')):=by
        show (match uQ s d with | some j=>_ | none=>_)=_
        rw[q1]
        show (match (L2.kids d)[j]? with | some c=>_ | none=>_)=_
        rw[q3]
      rw[e]
      &o3.congr fun x=>?_
      show (T x∨(A' x∨C2 x)∨C1 x)↔(A' x∨T x∨C1 x∨C2 x)
      constructor
      · rintro(z | (z | z) | z)
        · ~.inr (.inl z)
        · ~.inl z
        · ~.inr (.inr (.inr z))
        · ~.inr (.inr (.inl z))
      · rintro(z | z | z | z)
        · ~.inr (.inl (.inl z))
        · ~.inl z
        · ~.inr (.inr z)
        · ~.inr (.inl (.inr z))
section
variable{K:aA}{B H:Hp}{env:EN}{σ:St}
A9 Rel.at{i:Nat}{p:List Step}{d0 d:D}(h:Rel K B env σ H)(e:env[i]?=some (.own d0))(q:pI p d0=some d):∃v0 w A1 C,σ[i]?=some (some v0)∧Fv H p v0=some w∧Ow K H d A1 w∧Apart A1 C∧(∀a,C a→mZ H a) ∧
    ∀H' d' A',Apart A' C→(∀a,C a→H' a=H a)→oZ K H H'→Ow K H' d' A' w→aH (out H (dY A1 C)) (out H' (dY A' C))→Rel K B (env.set i (.own (pJ p d0 d'))) σ H':=by
  A7⟨A,a,b⟩:=h
  have cl:=eX a
  A7⟨y,A1,C,h1,h2,h3,h4,k⟩:=a.focus e
  A7⟨v0,rfl,o⟩:=h4
  A7⟨w,B1,C1,g1,g2,g3,g4,g5⟩:=o.at q
  &⟨v0,w,B1,dY C1 C,h1,g1,g4,fun x z1 z2=>?_,fun x z=>?_,fun H' d' A' ap fr tk o' sm=>?_⟩
  · ~z2.elim (g2 x z1) (h2 x ((g3 x).mpr (.inl z1)))
  · ~cl x ((h3 x).mpr (z.elim (fun z=>.inl ((g3 x).mpr (.inr z))) .inr))
  · have o2:=g5 H' d' A' (fun x z1 z2=>ap x z1 (.inl z2)) (fun x z=>fr x (.inl z)) tk o'
    have RB:Apart (dY A' C1) C:=fun x z1 z2=>z1.elim (fun z=>ap x z (.inr z2)) fun z=>h2 x ((g3 x).mpr (.inr z)) z2
    have hA:Is A (dY B1 (dY C1 C)):=fun x=>by
      rw[h3 x]
      constructor
      · rintro(z | z)
        · ~((g3 x).mp z).elim .inl fun z=>.inr (.inl z)
        · ~.inr (.inr z)
      · rintro(z | z | z)
        · ~.inl ((g3 x).mpr (.inl z))
        · ~.inl ((g3 x).mpr (.inr z))
        · ~.inr z
    have g:aH (out H A) (out H' (dY (dY A' C1) C)):=fun x u ex=>by
      A7⟨e1,e2⟩:=aZ.mp ex
      have:=sm x u (aZ.mpr ⟨fun z=>e1 ((hA x).mpr z),e2⟩)
      A7⟨e3,e4⟩:=aZ.mp this
      ~aZ.mpr ⟨fun z=>e3 (z.elim (fun z=>z.elim .inl fun z=>.inr (.inl z)) fun z=>.inr (.inr z)),e4⟩
    have s:=k (fX K H' (out H' (dY (dY A' C1) C))) (fun s D z hb qq=>by
      cases s with
      | no=>~qq
      | fro d=>A7⟨q1,v,q2,q3⟩:=qq;~⟨q1,v,q2,g.rv _ _ q3⟩
      | inn v d=>~⟨qq.1,Ow.frame tk _ _ _ qq.2 fun x zx=>fr x (.inr (hb x zx))⟩
      | own d=>A7⟨v,q1,q2⟩:=qq;~⟨v,q1,Ow.frame tk _ _ _ q2 fun x zx=>fr x (.inr (hb x zx))⟩) (.own (pJ p d0 d')) (some v0) (dY A' C1) RB ⟨v0,rfl,o2⟩
    rw[set_same h1]at s
    ~⟨_,s,b.trans g⟩
A9 Rel.Xb{i:Nat}{p:List Step}{d0:D}{ds:List D}(h:Rel K B env σ H)(e:env[i]?=some (.own d0))(q:pI p d0=some (.lst ds)):∃v0 a xs Bs,σ[i]?=some (some v0)∧Fv H p v0=some (.ref a)∧H a=some (.lst xs)∧¬Bs a∧cZ K H ds Bs xs ∧
    ∀H2 ds' xs' Bn,aH H H2→cZ K H2 ds' Bn xs'→(∀b,Bn b→Bs b∨H b=none)→Rel K B (env.set i (.own (pJ p d0 (.lst ds')))) σ (upd H2 a (.lst xs')):=by
  A7⟨v0,w,A1,C,h1,h2,h3,h4,h5,h6⟩:=h.at e q
  A8 Ow at h3
  A7⟨a,xs,Bs,rfl,o2,o3,o4,o5⟩:=h3
  &⟨v0,a,xs,Bs,h1,h2,o2,o3,o5,fun H2 ds' xs' Bn s o hb=>?_⟩
  have OD:¬Bn a:=fun z=>(hb a z).elim o3 fun z=>by rw[o2]at z;cases z
  have hC:∀x,C x→¬x=a:=fun x z y=>h4 x ((o4 x).mpr (.inl y)) z
  have BV:H2 a=some (.lst xs):=s a _ o2
  &h6 _ (.lst ds') (dY (·=a) Bn) (fun x z1 z2=>?_) (fun x z=>?_) (s.tk.trans (Dj (mC BV))) ?_ (fun x u ex=>?_)
  · rcases z1 with z1 | z1
    · ~hC x z2 z1
    · rcases hb x z1 with z | z
      · ~h4 x ((o4 x).mpr (.inr z)) z2
      · A7⟨⟨u,eu⟩,_⟩:=h5 x z2
        rw[z]at eu;cases eu
  · A7⟨⟨u,eu⟩,_⟩:=h5 x z
    rw[aX (hC x z),eu,s x u eu]
  · A8 Ow
    &⟨a,xs',Bn,rfl,bI,OD,fun _=>Iff.rfl,cZ.frame (Dj (mC BV)) _ _ _ o fun x zx=>aX fun y=>OD (y▸zx)⟩
  · A7⟨e1,e2⟩:=aZ.mp ex
    have na:x≠a:=fun y=>e1 (.inl ((o4 x).mpr (.inl y)))
    &aZ.mpr ⟨fun z=>?_,by rw[aX na];~s x u e2⟩
    rcases z with (z | z) | z
    · ~na z
    · rcases hb x z with z | z
      · ~e1 (.inl ((o4 x).mpr (.inr z)))
      · rw[z]at e2;cases e2
    · ~e1 (.inr z)
end
end L2


namespace L2
open PySem PySem.Spec PyProof.Rows
abbrev FP:=DE→Option (List Step)
def JL(K:aA)(t:TE)(i:Nat)(π:FP):Prop:=∀(σ:St)(H:Hp)(e:DE)(v0:V)(p:List Step)(v:V)(Q:VK),oW K H e σ→σ[i]?=some (some v0)→π e=some p→Fv H p v0=some v→(∀H',aH H H'→Q v H')→t σ H Q
structure XP(K:aA)(X:Cx)(e:Expr)(t:TE)(i:Nat)(π:FP):Prop where
 hk:X.K=K
 pe:PE X e t
 ev:JL K t i π
A9 An{H:Hp}{s:Step}:∀{p:List Step} {v0 v:V},Fv H (p++[s]) v0=some v→∃w,Fv H p v0=some w∧stepV H s w=some v
 | [],v0,v,h=>by
  rw[R4]at h
  A8 Fv at h
  A7⟨w,h1,h2⟩:=aP h
  A8 Fv at h2
  cases h2
  ~⟨v0,rfl,h1⟩
 | s'::p,v0,v,h=>by
  rw[J4]at h
  A8 Fv at h
  A7⟨u,h1,h2⟩:=aP h
  A7⟨w,h3,h4⟩:=An h2
  &⟨w,?_,h4⟩
  A8 Fv
  rw[h1]
  ~h3
A9 Lk{H:Hp}{k:Nat}{w v:V}(h:stepV H (.ix k) w=some v):∃a xs,w=.ref a∧H a=some (.lst xs)∧xs[k]?=some v:=by
 cases w with
 | ref a=>
  A8 stepV at h
  dsimp only at h
  cases q:H a with
  | none=>rw[q]at h;cases h
  | some o=>
   rw[q]at h
   cases o with
   | lst xs=>~⟨a,xs,rfl,q,h⟩
   | _=>cases h
 | _=>A8 stepV at h;cases h
def qQ:FP:=fun _=>some []
def BW(π:FP)(g:FE):FP:=fun e=>(π e).bind fun p=>(g e).bind fun d=>match d with
 | .int k=>if 0≤k then some (p++[.ix k.toNat])else none
 | _=>none
section
variable{K:aA}{X:Cx}{e a b c:Expr}{es:List Expr}{t ta tb te:TE}{f g:FE}{tA:TA}{fs:FA}{pos:Pos}{i j:Nat}{π:FP}{st:Stmt}
A9 Ln(h:PE X e (jA i))(hk:X.K=K:=by rfl):XP K X e (jA i) i qQ:=⟨hk,h,fun σ H e v0 p v Q re h1 h2 h3 k=>by
 cases h2
 A8 Fv at h3
 cases h3
 ~⟨v0,h1,k H (aH.refl _)⟩⟩
A9 BX(h:XP K X a ta i π)(hb:XR K X b tb g)(hs:qW b):XP K X (.Subscript a b pos) (zM (GC K) ta tb) i (BW π g):=⟨h.hk,Jy (Tz h.hk) h.pe hb.pe hs,fun σ H e v0 p v Q re h1 h2 h3 k=>by
 A8 BW at h2
 A7⟨p0,q1,q2⟩:=aP h2
 A7⟨d,q3,q4⟩:=aP q2
 split at q4
 ·rename_i n
  split at q4
  ·rename_i hn
   cases q4
   A7⟨w,w1,w2⟩:=An h3
   A7⟨ad,xs,rfl,w3,w4⟩:=Lk w2
   &h.ev σ H e v0 p0 _ _ re h1 q1 w1 fun H1 s1=>hb.ev σ H1 H1 e _ _ (Zn.self K H1) (re.same s1) q3 fun y H2 Z2 s2 t2 z2 ry=>?_
   A8 Rv at ry
   ~.inl ⟨ad,xs,n,v,rfl,ry,iH.of (s2 _ _ (s1 _ _ w3)),JB hn w4,k H2 (s1.trans s2)⟩
  ·cases q4
 ·cases q4⟩
def sO(i:Nat)(π:FP)(f:FE):GS:=fun env=>match env[i]?,π (rE env),f (rE env)with
 | some (.own d0),some p,some d=>(match pI p d0 with
  | some (.lst ds)=>if ds.length<100000 then .next (env.set i (.own (pJ p d0 (.lst (ds++[d])))))else .bad
  | _=>.bad)
 | _,_,_=>.bad
A9 Lp{H H1:Hp}{A:Fp}{ds:List D}{xs:List V}{N:Fp}(o:cZ K H ds A xs)(fr:∀a,N a→H a=none):Apart A N:=fun x q1 q2=>by
 A7⟨⟨u,eu⟩,_⟩:=cZ.cells _ _ _ o x q1
 rw[fr x q2]at eu;cases eu
A9 Xc(h:JL K ta i π)(he:Ci K te f):BR K (mQ (Hq K "list" jE ta (dD te jD))) (sO i π f):=fun B E σ H env r p=>by
 A8 sO at p
 split at p
 ·rename_i d0 pp d q1 q2 q3
  split at p
  ·rename_i ds q4
   split at p
   ·rename_i hl
    A7⟨v0,a,xs,Bs,k1,k2,k3,k4,k5,k6⟩:=r.Xb q1 q4
    &h σ H (rE env) v0 pp _ _ r.r k1 q2 k2 fun H1 s1=>⟨.inl ⟨rfl,xs,iH.of (s1 _ _ k3)⟩,?_⟩
    &he σ H1 (rE env) d _ (r.r.same s1) q3 fun y H2 s2 n=>?_
    A7⟨N,o,fr⟩:=n.back s1
    have s12:=s1.trans s2
    &⟨a,xs,y,rfl,rfl,s12 _ _ k3,Kw (by rw[(cZ.rv _ _ _ k5).length];omega),p _ ?_⟩
    ~k6 H2 (ds++[d]) (xs++[y]) (dY Bs N) s12 (dI.mpr ((dI.mp (k5.same s12)).snoc o (Lp (H1:=H) k5 fr))) fun b z=>z.imp id (fr b)
   ·~p.elim
  ·~p.elim
 ·~p.elim
A9 yF{m:Str}{apos cpos:Pos}(h:XP K X a ta i π)(he:XN K X e te f)(hp:PE X a ta→PE X e te→PS X (.Expr (.Call (.Attribute a m apos) [e] [] cpos) pos) (mQ (Hq K "list" jE ta (dD te jD)))):YS K X (.Expr (.Call (.Attribute a m apos) [e] [] cpos) pos) (mQ (Hq K "list" jE ta (dD te jD))) (sO i π f):=⟨hp h.pe he.pe,(Xc h.ev he.ev).ds⟩
def pK(i:Nat)(π:FP):GS:=fun env=>match env[i]?,π (rE env)with
 | some (.own d0),some p=>(match pI p d0 with
  | some (.lst ds)=>.next (env.set i (.own (pJ p d0 (.lst []))))
  | _=>.bad)
 | _,_=>.bad
A9 Lq(h:JL K ta i π):BR K (mQ (Px K "list" xH ta)) (pK i π):=fun B E σ H env r p=>by
 A8 pK at p
 split at p
 ·rename_i d0 pp q1 q2
  split at p
  ·rename_i ds q4
   A7⟨v0,a,xs,Bs,k1,k2,k3,k4,k5,k6⟩:=r.Xb q1 q4
   &h σ H (rE env) v0 pp _ _ r.r k1 q2 k2 fun H1 s1=>⟨.inl ⟨rfl,xs,iH.of (s1 _ _ k3)⟩,a,xs,rfl,rfl,s1 _ _ k3,p _ ?_⟩
   ~k6 H1 [] [] nil s1 (by A8 cZ;~⟨fun _ z=>z,rfl⟩) fun b z=>z.elim
  ·~p.elim
 ·~p.elim
A9 Lr{m:Str}{apos cpos:Pos}(h:XP K X a ta i π)(hp:PE X a ta→PS X (.Expr (.Call (.Attribute a m apos) [] [] cpos) pos) (mQ (Px K "list" xH ta))):YS K X (.Expr (.Call (.Attribute a m apos) [] [] cpos) pos) (mQ (Px K "list" xH ta)) (pK i π):=⟨hp h.pe,(Lq h.ev).ds⟩
end
end L2


namespace L2
open PySem PySem.Spec PyProof.Rows
def RC(K:aA)(B:Hp)(R:Fp)(env:EN)(σ:St)(H:Hp):Prop:=∃A,cN (fX K H (out H (dY A R))) env A σ∧Apart A R∧aH B (out H (dY A R))
section
variable{K:aA}{B H H':Hp}{env:EN}{σ:St}{R R' A1:Fp}
end
section
variable{K:aA}{X:Cx}{e a b c:Expr}{es:List Expr}{t ta tb te:TE}{f g:FE}{tA:TA}{fs:FA}{pos:Pos}{i j:Nat}{π:FP}{st:Stmt}
inductive Xd(K:aA)(H:Hp):V→Value→Prop where
 | bl (x:Bool):Xd K H (.bl x) (.type "bool")
 | int (i:Int):Xd K H (.int i) (.type "int")
 | lst {a:Addr} {xs:List V} (e:iH K H a xs):Xd K H (.ref a) (.type "list")
 | tup {a:Addr} {xs:List V} (e:lB K H a xs):Xd K H (.ref a) (.type "tuple")
A9 yG:eO X (.builtin "isinstance") (fun xs H Q=>∃x T t b,xs=[x,.ty T]∧Xd X.K H x t∧C8 X.K t (.type T)=some b∧Q (.bl b) H):=by
 intro pins s σ H xs us Q I r h
 A7⟨x,T,t,b,rfl,ty,hk,q⟩:=h
 A7⟨u,w',rfl,rx,rt⟩:=vals2 r
 cases rt
 cases ty with
 | bl y=>~oY I rx (.bl y) hk fun tk=>⟨.bl b,H,I.tok _,rfl,q⟩
 | int i=>~oY I rx (.int i) hk fun tk=>⟨.bl b,H,I.tok _,rfl,q⟩
 | @lst a xs e=>
  cases(show u=Value.ref a from rx)
  A7⟨its,_,pl,_⟩:=I.list e
  A7⟨o,n,h1,h2,_⟩:=pl
  ~D6 M0 I.wO ⟨o,h1,h2⟩ hk (fun z=>nomatch z) fun tk=>⟨.bl b,H,I.tok _,rfl,q⟩
 | @tup a xs e=>
  cases(show u=Value.ref a from rx)
  A7⟨its,_,pl,_⟩:=I.tuple e
  A7⟨o,h1,h2,_⟩:=pl
  ~D6 P2 I.wO ⟨o,h1,h2⟩ hk (fun z=>nomatch z) fun tk=>⟨.bl b,H,I.tok _,rfl,q⟩
def Ao(T:String)(d:D):Option D:=match d with
 | .int _=>if T = "int" then some (.bl true)else if T = "bool" then some (.bl false)else none
 | .bl _=>if T = "bool" then some (.bl true)else none
 | .lst _=>if T = "list" then some (.bl true)else none
 | .tup _=>if T = "tuple" then some (.bl true)else none
 | _=>none
def qR(T:String)(f:FE):FE:=fun e=>(f e).bind (Ao T)
def BZ(K:aA):List V→Hp→VK→Prop:=fun xs H Q=>∃x T t b,xs=[x,.ty T]∧Xd K H x t∧C8 K t (.type T)=some b∧Q (.bl b) H
A9 Xe{H:Hp}{T:String}{d r:D}{v:V}(h:Ao T d=some r)(rv:Rv K H d v):∃t b,Xd K H v t∧C8 K t (.type T)=some b∧r=.bl b:=by
 cases d with
 | int i=>
  A8 Ao at h
  dsimp only at h
  A8 Rv at rv
  subst rv
  split at h
  ·rename_i c;cases h;subst c;~⟨_,_,.int i,Af,rfl⟩
  ·split at h
   ·rename_i c;cases h;subst c;~⟨_,_,.int i,xM,rfl⟩
   ·cases h
 | bl b=>
  A8 Ao at h
  dsimp only at h
  A8 Rv at rv
  subst rv
  split at h
  ·rename_i c;cases h;subst c;~⟨_,_,.bl b,uL,rfl⟩
  ·cases h
 | lst ds=>
  A8 Ao at h
  dsimp only at h
  A8 Rv at rv
  A7⟨a,xs,rfl,r2,_⟩:=rv
  split at h
  ·rename_i c;cases h;subst c;~⟨_,_,.lst r2,uM,rfl⟩
  ·cases h
 | tup ds=>
  A8 Ao at h
  dsimp only at h
  A8 Rv at rv
  A7⟨a,xs,rfl,r2,_⟩:=rv
  split at h
  ·rename_i c;cases h;subst c;~⟨_,_,.tup r2,qP,rfl⟩
  ·cases h
 | _=>A8 Ao at h;cases h
A9 Xf(hk:X.K=K):eO X (.builtin "isinstance") (BZ K):=by subst hk;~yG
A9 nC{T:String}{p:Pos}{eT:Expr}(h:XR K X e t f)(hT:PE X eT (tC (.ty T)))(hg:Gl X "isinstance") (hm:X.mg "isinstance" = none) (hst:starEach (e::[eT]) X.env=(false,eval e X.env)::starEach [eT] X.env:=by rfl) (hst2:starEach [eT] X.env=(false,eval eT X.env)::starEach [] X.env:=by rfl)
  (hpl:(backTo pos (starEach [eT] X.env)).any (·.1)=false:=by rfl):XN K X (.Call (.Name "isinstance" p) [e,eT] [] pos) (Vx (BZ K) (dD t (dD (tC (.ty T)) jD))) (qR T f):=
 ⟨h.hk,rH (Xf h.hk) hg hm L3 (bD h.pe (bD hT cB hst2) hst) A5 A5 hst hpl,fun σ H e d Q re q k=>by
  A8 qR at q
  A7⟨d0,q1,q2⟩:=aP q
  &h.ev σ H H e d0 _ (Zn.self K H) re q1 fun v H1 Z1 s1 t1 z1 rv=>?_
  A7⟨ty,b,b1,b2,rfl⟩:=Xe q2 (z1.sm.rv _ _ rv)
  ~⟨v,T,ty,b,rfl,b1,b2,k _ H1 s1 (.cY rfl (by A8 Rv;rfl))⟩⟩
structure Fw(mg:Str→Option Value)(x:Str)(i:Int):Prop where
 ex:∃t,mg x=some (.int i t)
structure vV(K:aA)(mg:Str→Option Value)(x:Str)(ns:List Int):Prop where
 ex:∃a,mg x=some (.ref a)∧∀H:Hp,lB K H a (ns.map V.int)
A9 CG{x:Str}{i:Int}(G:Fw X.mg x i)(hg:Gl X x)(hd:(x==("__debug__" : Str))=false:=by decide) (hk:X.K=K:=by rfl):XN K X (.Name x pos) (tC (.int i)) (fC (.int i)):=by
 A7⟨t,h⟩:=G.ex
 ~⟨hk,wU hg h ⟨t,rfl⟩ hd,Ku i⟩
def RD(K:aA)(ns:List Int):TE:=fun _ H Q=>∀a,lB K H a (ns.map V.int)→Q (.ref a) H
def dTup(ns:List Int):D:=.tup (ns.map D.int)
A9 Ue{x:Str}{ns:List Int}(G:vV K X.mg x ns)(hg:Gl X x)(hd:(x==("__debug__" : Str))=false:=by decide) (hk:X.K=K:=by rfl):XN K X (.Name x pos) (RD K ns) (fC (dTup ns)):=by
 A7⟨a,h,hq⟩:=G.ex
 &⟨hk,fun pins s σ H Q I w=>?_,fun σ H e d Q re q k=>?_⟩
 ·~wU (v:=.ref a) hg h rfl hd pins s σ H Q I (w a (hq H))
 ·cases q
  intro a' ha
  &k _ H (aH.refl _) (.cY ?_ ?_)
  ·A8 dTup D.cY;~jJ ns
  ·A8 dTup Rv;~⟨a',_,rfl,ha,nY.mpr rfl⟩
end
def fV(n m:Nat)(g:GS):List D→Option D:=fun ds=>if ds.length=m then(match g (ds.map SD.fro++D7 (n-m) SD.no)with
  | .ret d=>some d
  | .next _=>some .non
  | _=>none)else none
A9 Aq{K:aA}{H Z:Hp}{k:Nat}:∀{ds:List D} {vs:List V},bG K Z ds vs→cN (fX K H Z) (ds.map SD.fro++D7 k SD.no) nil (vs.map some++D7 k none)
 | [],vs,h=>by
  A8 bG at h
  subst h
  simp only[G1,R4]
  induction k with
  | zero=>~⟨fun _ z=>z,rfl⟩
  | succ k ih=>
   rw[O8,O8]
   ~⟨none,_,nil,nil,rfl,fun _ z=>z.elim,fun x=>⟨.inl,fun z=>z.elim id id⟩,fun _ z=>z,ih⟩
 | d::ds,vs,h=>by
  A8 bG at h
  A7⟨y,ys,rfl,h1,h2⟩:=h
  rw[C9,C9,J4,J4]
  ~⟨some y,_,nil,nil,rfl,fun _ z=>z.elim,fun x=>⟨.inl,fun z=>z.elim id id⟩,⟨fun _ z=>z,y,rfl,h1⟩,Aq h2⟩
A9 vW{K:aA}{H:Hp}{k:Nat}{ds:List D}{vs:List V}(h:bG K H ds vs):Rel K H (ds.map SD.fro++D7 k SD.no) (vs.map some++D7 k none) H:=by
 have g:aH H (out H nil):=fun x u e=>aZ.mpr ⟨fun z=>z,e⟩
 ~⟨nil,Aq (g.Je _ _ h),g⟩
A9 Raw.lK{P:Program}{w:World}{K:aA}{mg:Str→Option Value}{base:Heap}{x:Str}{st:Stmt}{N ps:List Str}{k:Nat}{g:GS}(R:Raw K mg x st)(S:bA N ps (aF st))
  (hb:∀(kV doc pm:Value)(an:Option Addr)(cdv ct:Value)(us:List Value),us.length=ps.length→bindArgs (E2 x x (cW st) (bN st) (aF st) .none kV doc pm an cdv ct) ⟨us,[]⟩=pure (ps.zip us))
  (hbody:∀(f:Addr)(cdv:Value)(A:Around)(outer:List Env)(s:Shared)(H:Hp)(E:XK),gF k (A.deeper (envOfC x (aF st) s.heap.objs.size f cdv)) →
   ∃t,YB K (wW Jd P w K mg base N x (aF st) f cdv A outer s H E).Vg (bN st) t g):jF P w K mg base x (k+1) ps.length (kO K ps.length (fV N.length ps.length g)):=by
 &R.cal S (fun vs H Q E h=>?_) hb (fun f cdv A outer s H vs Q E hr h=>?_)
 ·A7⟨ds,d,h1,h2,_⟩:=h
  rw[h2.length];~h1
 A7⟨ds,d,h1,h2,h3,kk⟩:=h
 A7⟨t,yb⟩:=hbody f cdv A outer s H E hr
 &⟨t,yb.ps,yb.ev H _ _ H (ds.map SD.fro++D7 (N.length-ps.length) SD.no) ?_ ?_⟩
 ·have hl:vs.length=ps.length:=by rw[h2.length];~h1
  have:=vW (k:=N.length-ps.length) h2
  A8 start
  rw[hl]
  ~this
 ·A8 fV at h3
  rw[if_pos h1]at h3
  cases q:g (ds.map SD.fro++D7 (N.length-ps.length) SD.no)with
  | ret d'=>
   rw[q]at h3
   cases h3
   &fun v H' A' s' o=>kk v H' (s'.trans (gH _ _)) ⟨A',o,fun a qa=>?_⟩
   cases e:H a with
   | none=>rfl
   | some u=>~absurd qa (aZ.mp (s' a u e)).1
  | next env'=>
   rw[q]at h3
   cases h3
   &fun σ' H' ⟨A',_,s'⟩=>kk .non H' (s'.trans (gH _ _)) (.cY rfl (by A8 Rv;rfl))
  | brk env'=>rw[q]at h3;cases h3
  | cont env'=>rw[q]at h3;cases h3
  | bad=>rw[q]at h3;cases h3
  | rete d e=>rw[q]at h3;cases h3
end L2


namespace L2
open PySem PySem.Spec PyProof.Rows
section
variable{K:aA}{X:Cx}{e a b c:Expr}{es:List Expr}{t ta tb te:TE}{f g:FE}{tA:TA}{fs:FA}{pos:Pos}{i j:Nat}{π:FP}{st:Stmt}{gb:GS}{tc:TT}{fc:FT}
def Av(f:FE):FE:=fun e=>(f e).bind fun d=>match d with | .int i=>some (.int (-i)) | _=>none
A9 yH(ha:XR K X a ta f):XN K X (.UnaryOp .USub a pos) (HW (rU fun i=>.int (-i)) ta) (Av f):=Wx ha
A9 qY{tg elt iter:Expr}{ifs:List Expr}{scope:Scope}{spos py:Pos}{y:Str}{wi:TI}{fi:FA}{fe:FE}(N:List Str)(fr:List Nat)(hcalm:X.calm=true)(B:cQ X.env.scope scope X.N N 1 fr)(hN:X.N.Nodup)(hy:X.N[i]?=some y)(hx:Loc X.env.scope y)(hi:XI K X tg iter wi fi)
  (hg:∀cl fp s H C,PG (cL X scope N cl fp s H C) tg (dR 0)) (hc:∀cl fp s H C,JH K (cL X scope N cl fp s H C) ifs tc fc) (he:∀cl fp s H C,XN K (cL X scope N cl fp s H C) elt te fe)
  (hsw:swapsWith (.ListComp elt [⟨tg,iter,ifs,0⟩] scope pos) (some (.Name y py)) spos.line X.env=pure true:=by rfl)
  (hs:∀x,foldedSetIterable iter X.env x=pure x:=by intro _;rfl) (hf:X.fn y=true∨X.env.scope.names.lookup y=some .local:=by first | ~.inl rfl | ~.inr rfl | assumption) :
  YS K X (.Assign [.Name y py] (.ListComp elt [⟨tg,iter,ifs,0⟩] scope pos) spos) (Gy (Ac wi 1 fr (dR 0) tc te) (dR i)) (cX i (bU fi fr fc fe)):=
 ⟨Qe N 1 fr hcalm B hN hy hx hi.pi hg (fun cl fp s H C=>(hc cl fp s H C).NZ) (fun cl fp s H C=>(he cl fp s H C).pe) hsw hs hf,Lj (Fq hi.ev (hc [] [] X.s₀ X.H₀ 0).ev (he [] [] X.s₀ X.H₀ 0).ev)⟩
def OJ(K:aA)(wi:TI)(fi:FA):Prop:=∀(σ:St)(H:Hp)(e:DE)(ds:List D)(R:It→Hp→Prop),oW K H e σ→fi e=some ds →
 (∀J H' P vs,aH H H'→Wf J P vs→(∀H2,P H2)→(∀Z,bG K Z ds vs)→R J H')→wi σ H R
structure XJ(K:aA)(X:Cx)(tg iter:Expr)(wi:TI)(fi:FA):Prop where
 pi:PI X tg iter wi
 ev:OJ K wi fi
A9 mD{tg:Expr}{p:Pos}(hg:Gl X "range") (hm:X.mg "range" = none) (ha:XA K X [a] tA fs) (hs:starEach [a] X.env=[(false,eval a X.env)]:=by rfl):XJ K X tg (.Call (.Name "range" p) [a] [] pos) (Jo tA) (iK fs):=⟨uZ hg hm ha.pa hs,fun σ H e ds R re q k=>by
 A8 iK at q
 A7⟨es,q1,q2⟩:=aP q
 split at q2
 ·rename_i n
  split at q2
  ·rename_i hl
   cases q2
   have hl:=Lh hl
   &ha.ev σ H H e _ _ (Zn.self K H) re q1 fun vs H1 Z1 s1 t1 z1 rs=>?_
   A7⟨v,rfl,r⟩:=jH rs
   A8 Rv at r
   subst r
   ~⟨n,rfl,by omega,by omega,k _ H1 _ _ s1 vJ (fun _=>True.intro) fun Z=>vU 0 n.toNat⟩
  ·cases q2
 ·cases q2⟩
def kW(i:Nat)(fi:FA)(g:GS):GS:=fun env=>match fi (rE env)with
 | some xs=>pG i g xs env
 | none=>.bad
A9 Qx{wi:TI}{fi:FA}{tb:TS}(hi:OJ K wi fi)(h:DS K tb gb):DS K (Jp wi (dR i) tb) (kW i fi gb):=fun B E σ H env r p=>by
 A8 kW at p
 split at p
 ·rename_i xs q
  &hi σ H (rE env) xs _ r.r q fun J H1 P vs s hJ hP rvs=>?_
  have hl:=(rvs H).length
  &Fb hJ (fun k σ2 H2=>∃mO,Rel K B mO σ2 H2∧Dl K B E (pG i gb (xs.drop k) mO)) ⟨env,r.same s,by simpa using p⟩ (fun k σ2 H2 _ _=>hP H2) ?_ ?_
  ·rintro k x σ2 H2 hx ⟨mO,r2,p2⟩
   have hk:k<xs.length:=by
    A7⟨h1,_⟩:=B8.mp hx
    omega
   rw[J6 hk]at p2
   A8 pG at p2
   split at p2
   ·rename_i hlen
    A7⟨A2,a2,b2⟩:=r2
    A7⟨x',hx',rx⟩:=(rvs (out H2 A2)).get (B4 hk)
    rw[hx]at hx'
    cases hx'
    have r3:Rel K B (mO.set i (.fro xs[k])) (σ2.set i (some x)) H2:=Ft a2 b2 hlen (aH.refl _) (aH.refl _) (Dk a2) rx
    &h B _ _ H2 _ r3 ?_
    split at p2
    ·rename_i env' q2;rw[q2];~fun σ' H' r'=>⟨env',r',p2⟩
    ·rename_i env' q2;rw[q2];~fun σ' H' r'=>⟨env',r',p2⟩
    ·rename_i env' q2;rw[q2];~p2
    ·rename_i n1 n2 n3
     cases q2:gb (mO.set i (.fro xs[k]))with
     | next e=>~absurd q2 (n1 e)
     | cont e=>~absurd q2 (n2 e)
     | brk e=>~absurd q2 (n3 e)
     | ret d=>rw[q2]at p2;~p2
     | bad=>rw[q2]at p2;~p2
     | rete d e=>rw[q2]at p2;~p2
   ·~p2.elim
  ·rintro σ2 H2 ⟨mO,r2,p2⟩
   rw[hl,Q6]at p2
   ~p2 σ2 H2 r2
 ·~p.elim
A9 qZ{tg iter:Expr}{body:List Stmt}{wi:TI}{fi:FA}{tb:TS}(hp:PassesOwn (model X.prog X.w) X.A X.env X.xe)(Xa:X.calm=true)(hi:XJ K X tg iter wi fi)(hg:PG X tg (dR i))(hb:YB K X body tb gb)
  (hs:∀x,foldedSetIterable iter X.env x=pure x:=by intro _;rfl):YS K X (.For tg iter body [] pos) (Jp wi (dR i) tb) (kW i fi gb):=⟨Jq hp Xa hi.pi hg hb.ps hs,Qx hi.ev hb.ev⟩
end
def JM(K:aA):Sp:=fun vs H Q _=>∃(a:Addr)(ns:List Int),vs=[.ref a]∧iH K H a (ns.map V.int)∧ns.length≤63∧∀H',Q (.bl true) H'
A9 Oh.RG{P:Program}{w:World}{K:aA}{mg:Str→Option Value}{base:Heap}{x:Str}{st:Stmt}{N:List Str}{k:Nat}{g:GS}{f:Addr}{fd:FuncData}(F:Oh K x x st f fd)(S:bA N ["script"] (aF st))
  (hbody:∀(cdv:Value)(A:Around)(outer:List Env)(s:Shared)(H:Hp)(E:XK),gF k (A.deeper (envOfC x (aF st) s.heap.objs.size f cdv)) →
   ∃t,YB K (wW Jd P w K mg base N x (aF st) f cdv A outer s H E).Vg (bN st) t g)
  (Xg:∀ns:List Int,ns.length≤63→fV N.length 1 g [.lst (ns.map D.int)]=some (.bl true)):rG P w K mg base Jd (k+1) f fd ["script"] (JM K):=by
 &F.ok S (fun vs H Q E h=>?_) (fun cdv A outer s H vs Q E hr h=>?_)
 ·A7⟨a,ns,rfl,_⟩:=h
  rfl
 A7⟨a,ns,rfl,hS,hl,q⟩:=h
 A7⟨t,yb⟩:=hbody cdv A outer s H E hr
 have h3:=Xg ns hl
 have rv:bG K H [.lst (ns.map D.int)] [.ref a]:=by
  A8 bG
  ~⟨_,_,rfl,by A8 Rv;~⟨a,_,rfl,hS,nY.mpr rfl⟩,by A8 bG;rfl⟩
 &⟨t,yb.ps,yb.ev H _ _ H ([D.lst (ns.map D.int)].map SD.fro++D7 (N.length-1) SD.no) (vW rv) ?_⟩
 A8 fV at h3
 rw[if_pos (show [D.lst (ns.map D.int)].length=1 from rfl)]at h3
 cases qq:g ([D.lst (ns.map D.int)].map SD.fro++D7 (N.length-1) SD.no)with
 | ret d'=>
  rw[qq]at h3
  cases h3
  &fun v H' A' s' o=>?_
  have:=Ow.rv _ _ _ o
  A8 Rv at this
  subst this
  ~q H'
 | next env'=>rw[qq]at h3;cases h3
 | brk env'=>rw[qq]at h3;cases h3
 | cont env'=>rw[qq]at h3;cases h3
 | bad=>rw[qq]at h3;cases h3
 | rete d e=>rw[qq]at h3;cases h3
A9 Dp{K:aA}{st:Stmt}{f:Addr}{fd:FuncData}(F:Oh K "law" "law" st f fd) (hb:∀(kV doc pm:Value)(an:Option Addr)(cdv ct:Value)(u:Value),bindArgs (E2 "law" "law" (cW st) (bN st) (aF st) .none kV doc pm an cdv ct) ⟨[u],[]⟩=pure [(("script" : Str),u)]):∀(s:Shared)(u:Value),BindsTo s fd ⟨[u],[]⟩ [("script", u)]:=by
 A7⟨oc,od,kV,doc,pm,an,cdv,ct,osl,rfl,lk,hcd⟩:=F.ex
 ~fun s u=>.of_eq (hb kV doc pm an cdv ct u)
A9 Ls{K:aA}{h:Heap}{mg:Str→Option Value}{x:Str}{i:Int}{t:Tok}(X:K.In h)(G:h.Ns mainGlobals mg)(a:K9 K mainGlobals x=some (some (.int i t))):Fw mg x i:=⟨t,L7 X G a⟩
A9 Aw{K:aA}{h:Heap}{mg:Str→Option Value}{x:Str}{ns:List Int}{p:Addr}{od:Option Addr}{its:Array Value}{n:Nat}{osl:Array (Option Value)}(X:K.In h)(G:h.Ns mainGlobals mg)(a:K9 K mainGlobals x=some (some (.ref p)))
  (l:K.lookup p=some ⟨.type "tuple", od,.seq its n,osl⟩) (v:Vals (ns.map V.int) its.toList) (hs:ns.length≤100):vV K mg x ns:=
 ⟨p,L7 X G a,fun H=>.inr ⟨_,its,n,l,rfl,rfl,by
  have h1:(ns.map V.int).length=its.toList.length:=v.length
  have h2:its.toList.length=its.size:=G8
  rw[B6]at h1
  ~gR A3,v⟩⟩
end L2


namespace L2
open PySem PySem.Spec PyProof.Rows
section
variable{K:aA}{X:Cx}{e a b c:Expr}{es:List Expr}{t ta tb te:TE}{f g:FE}{tA:TA}{fs:FA}{pos:Pos}{i j:Nat}{π:FP}{st:Stmt}
variable{lo hi:Option Expr}{tl th:TO}{fl fh:FO}{p2:Pos}
end
end L2


namespace L2
open PySem PySem.Spec PyProof.Rows
def Led(b:Bool)(t:SetTable):Prop:=t.led=b∧(t.plain=true→t.place.toList.Pairwise (·<·)∧t.dummies=#[])
end L2


namespace L2
open PySem PySem.Spec PyProof.Rows
section
variable{prog:Program}{w:World}{A:Around}{E:Value→Shared→Prop}{s:Shared}{b:Bool}
def RJ(prog:Program)(w:World)(b:Bool)(h:Heap)(a:Addr)(S:Int→Bool)(n:Nat):Prop:=
 ∃o es ep t,h.get? a=some o∧o.ExactSet∧o.data=.set es ep t∧ElemsOf (intKind prog w) es.toList∧(∀k,S k=true↔∃e∈es.toList,(intKind prog w).is k e.2=true)∧es.size<scanBound∧t.fits es.size=true∧es.size=n∧Led b t
end
section
variable{prog:Program}{w:World}{A:Around}{R:Result→Shared→Prop}{I:Addr}{fp wr:List Addr}{G:Array GenState→Array GenState→Prop}{n:Nat}{P:Nat→Value→Prop}{St:Nat→Shared→Prop}{b:Bool}
end
end L2


namespace L2
open PySem PySem.Spec PyProof.Rows
section
variable{prog:Program}{w:World}{A:Around}{E:Value→Shared→Prop}{s:Shared}
end
end L2


namespace L2
open PySem PySem.Spec PyProof.Rows
def TQ(h:Heap)(I:Addr)(f:Value)(i:Nat)(a:Addr)(n ep:Nat):Prop:=∃o,h.get? I=some o∧o.cls=.type "set_iterator" ∧ o.data=.fields #[f,.int (i:Int) 0,.ref a,.int (n:Int) 0,.int (ep:Int) 0]
def TV(h:Heap)(a:Addr)(es:Array (Int×Value))(ep:Nat)(t:SetTable):Prop:=∃o,h.get? a=some o∧o.cls=.type "set" ∧ o.data=.set es ep t∧t.fits es.size=true
section
variable{prog:Program}{w:World}{A:Around}{E:Value→Shared→Prop}{s:Shared}{I a T:Addr}{f:Value}{i n ep:Nat}{es:Array (Int×Value)}{t:SetTable}
end
end L2


namespace L2
open PySem PySem.Spec PyProof.Rows
section
variable{prog:Program}{w:World}{A:Around}{E:Value→Shared→Prop}{s:Shared}{I a T:Addr}{f:Value}{i n ep:Nat}{es:Array (Int×Value)}{t:SetTable}
end
end L2


namespace L2
open PySem PySem.Spec PySem.Calls PyProof.Rows PyProof.V
section
variable{prog:Program}{w:World}{A:Around}{E:Value→Shared→Prop}{s:Shared}{I a T:Addr}{n:Nat}{S:Int→Bool}
end
end L2


namespace L2
open PySem PySem.Spec PySem.Calls PyProof.Rows PyProof.V
section
variable{X:Cx}{e:Expr}{t:TE}{x y:Str}{p p2 pos pos2:Pos}
end
end L2


namespace L2
open PySem PySem.Spec PySem.Calls PyProof.Rows PyProof.V
section
variable{prog:Program}{w:World}{A:Around}{E:Value→Shared→Prop}{s:Shared}{I l:Addr}
end
section
variable{K:aA}{X:Cx}{e:Expr}{t:TE}{f:FE}{x y:Str}{p p2 pos pos2:Pos}
end
end L2


namespace L2
open PySem PySem.Spec PySem.Calls PyProof.Rows PyProof.V PySem.W Att
section
variable{K:aA}{X:Cx}{e a b c:Expr}{es:List Expr}{t ta tb te:TE}{f g:FE}{pos:Pos}
def Ug(i j:Int):Prop:=Builtin.Int.intBits i≤4000000∧Builtin.Int.intBits j≤4000000
instance (i j:Int):Decidable (Ug i j):=by A8 Ug;~inferInstance
variable{lo hi:Option Expr}{tl th:TO}{fl fh:FO}{p2:Pos}
end
end L2


namespace L2
open PySem PySem.Spec PySem.Calls PyProof.Rows PyProof.V
section
variable{K:aA}{X:Cx}
end
end L2


namespace L2
open PySem PySem.Spec PySem.Calls PyProof.Rows PyProof.V
section
variable{X:Cx}{pins:List (Addr×Obj)}{σ:St}{H:Hp}{s:Shared}{h':Heap}
end
section
variable{K:aA}{X:Cx}{e a b c:Expr}{es:List Expr}{t ta tb te:TE}{f g fe:FE}{tc:TT}{fc:FT}{pos p p2:Pos}{x:Str}
end
end L2


namespace L2
open PySem PySem.Spec PySem.Calls PyProof.Rows PyProof.V
section
variable{K:aA}{B H:Hp}{env:EN}{σ:St}{i:Nat}{v:V}{d:D}
end
section
variable{K:aA}{X:Cx}{st:Stmt}{sts:List Stmt}{t u tb:TS}{g g1 g2:GS}{e a b c:Expr}{es:List Expr}{te ta t0:TE}{f f0 fa fb:FE}{gk:FE}{tA:TA}{fs:FA}{tc:TT}{fc:FT}{pos:Pos}{i:Nat}{π:FP}
end
end L2


namespace L2
open PySem PySem.Spec PySem.Calls PyProof.Rows PyProof.V
section
variable{α β:Type}{R:α→Fp→β→Prop}
A9 cN.Lw:∀{ds:List α} {A:Fp} {ys:List β} {d:α} {y:β},cN R (ds++[d]) A (ys++[y])→∃A0 A1,cN R ds A0 ys∧R d A1 y∧Apart A0 A1∧Is A (dY A0 A1)
  | [],A,ys,d,y,h=>by
    A7⟨y0,yt,A1,A2,h1,h2,h3,h4,h5,h6⟩:=h
    subst h6
    cases ys with
    | nil=>
      cases h1
      ~⟨nil,A1,⟨fun _ z=>z,rfl⟩,h4,fun _ z=>z.elim,fun x=>⟨fun q=>((h3 x).mp q).elim .inr fun z=>absurd z (h5 x),fun q=>q.elim False.elim fun z=>(h3 x).mpr (.inl z)⟩⟩
    | cons z zs=>
      injection h1 with _ h1
      cases zs<;>cases h1
  | d0::ds,A,ys,d,y,h=>by
    A7⟨y0,yt,A1,A2,h1,h2,h3,h4,h5⟩:=h
    have hl:=h5.len
    cases ys with
    | nil=>
      injection h1 with _ h1
      subst h1
      have hl:0=(ds++[d]).length:=hl
      rw[D2]at hl
      simp at hl
    | cons z zs=>
      injection h1 with e1 e2
      subst e1 e2
      A7⟨B0,B1,k1,k2,k3,k4⟩:=cN.Lw h5
      &⟨dY A1 B0,B1,⟨z,zs,A1,B0,rfl,fun x q q'=>h2 x q ((k4 x).mpr (.inl q')),fun x=>Iff.rfl,h4,k1⟩,k2,fun x q q'=>?_,fun x=>?_⟩
      · rcases q with q | q
        · ~h2 x q ((k4 x).mpr (.inr q'))
        · ~k3 x q q'
      · rw[h3 x]
        constructor
        · rintro(q | q)
          · ~.inl (.inl q)
          · ~((k4 x).mp q).elim (fun z=>.inl (.inr z)) .inr
        · rintro((q | q) | q)
          · ~.inl q
          · ~.inr ((k4 x).mpr (.inl q))
          · ~.inr ((k4 x).mpr (.inr q))
end
section
variable{K:aA}{B H H':Hp}{env:EN}{σ:St}{i:Nat}{v:V}{d:D}
A9 Rel.give(h:Rel K B env σ H)(e:env[i]?=some (.own d)):∃v,σ[i]?=some (some v)∧Rel K B (env.set i .no++[.own d]) (σ++[some v]) H:=by
 A7⟨A,a,b⟩:=h
 A7⟨y,A1,C,h1,h2,h3,h4,k⟩:=a.focus e
 A7⟨v,rfl,o⟩:=h4
 have eA:A=dY A1 C:=funext fun x=>propext (h3 x)
 subst eA
 have s:=k _ (fun _ _ _ _ q=>q) .no (some v) nil (fun _ z=>z.elim) (fun _ z=>z)
 rw[set_same h1]at s
 have s2:=cN.snoc (d:=SD.own d) (y:=some v) (A1:=A1) s ⟨v,rfl,o⟩ (fun x q q'=>q.elim False.elim (h2 x q'))
 have RK:(dY (dY nil C) A1)=dY A1 C:=funext fun x=>propext ⟨fun q=>q.elim (fun q=>q.elim False.elim .inr) .inl,fun q=>q.elim .inr fun q=>.inl (.inr q)⟩
 rw[RK]at s2
 ~⟨v,h1,_,s2,b⟩
end
def Lx:GS:=fun _=>.bad
A9 yI{K:aA}{X:Cx}{st:Stmt}:YS K X st Jk Lx:=⟨Jl,fun _ _ _ _ _ _ p=>p.elim⟩
section
variable{K:aA}{X:Cx}{st:Stmt}{sts:List Stmt}{t u tb:TS}{g g1 g2:GS}{e a b c o:Expr}{es:List Expr}{te ta t0 tv:TE}{f f0 fa fb:FE}{gk:FE}{tA:TA}{fs:FA}{tc:TT}{fc:FT}{pos apos:Pos}{i:Nat}{π:FP}
structure RL(K:aA)(C:Addr)(nm:List Str):Prop where
 cl:FW K C
 no:∀f∈nm,Vs K C f
end
section
variable{K:aA}{B H:Hp}{env:EN}{σ:St}
end
section
variable{K:aA}{X:Cx}{st:Stmt}{sts:List Stmt}{t u tb:TS}{g g1 g2:GS}{e a b c o:Expr}{es:List Expr}{te ta t0 tv:TE}{f f0 fa fb:FE}{gk:FE}{tA:TA}{fs:FA}{tc:TT}{fc:FT}{pos apos:Pos}{i:Nat}{π:FP}
end
end L2


namespace L2
open PySem PySem.Spec PySem.Calls PyProof.Rows PyProof.V
section
variable{K:aA}{B H H':Hp}{env:EN}{σ:St}{i:Nat}{p:List Step}{d0 d:D}
end
abbrev GM:=EN→Option (D×EN)
def RM(K:aA)(t:TE)(g:GM):Prop:=∀(B:Hp)(σ:St)(H:Hp)(env:EN)(d:D)(env':EN)(Q:VK),Rel K B env σ H→g env=some (d,env')→(∀v H',Rel K B (env'++[.own d]) (σ++[some v]) H'→Q v H')→t σ H Q
structure XM(K:aA)(X:Cx)(e:Expr)(t:TE)(g:GM):Prop where
 hk:X.K=K
 pe:PE X e t
 ev:RM K t g
abbrev GB:=EN→Option (Bool×EN)
def CJ(K:aA)(t:TT)(g:GB):Prop:=∀(B:Hp)(σ:St)(H:Hp)(env:EN)(b:Bool)(env':EN)(Q:Bool→Hp→Prop),Rel K B env σ H→g env=some (b,env')→(∀H',Rel K B env' σ H'→Q b H')→t σ H Q
structure TX(K:aA)(X:Cx)(e:Expr)(t:TT)(g:GB):Prop where
 hk:X.K=K
 pt:PT X e t
 ev:CJ K t g
structure TY(K:aA)(X:Cx)(e:Expr)(t:TT)(g:GB):Prop where
 hk:X.K=K
 pw:PW X e t
 ev:CJ K t g
abbrev FA2:=DE→DE→Option (List D)
def JN(K:aA)(t:TA)(fs:FA2):Prop:=∀(A1:Fp)(σ:St)(H:Hp)(eF eZ:DE)(ds:List D)(Q:List V→Hp→Prop),(∀x,A1 x→mZ H x)→oW K H eF σ→oW K (out H A1) eZ σ→fs eF eZ=some ds →
 (∀vs H',aH H H'→bG K (out H' A1) ds vs→Q vs H')→t σ H Q
structure UG(K:aA)(X:Cx)(es:List Expr)(t:TA)(fs:FA2):Prop where
 hk:X.K=K
 pa:PA X es t
 ev:JN K t fs
section
variable{K:aA}{X:Cx}{st:Stmt}{sts:List Stmt}{t u tb:TS}{g:GM}{g1 g2:GS}{e a b c o:Expr}{es rest:List Expr}{te ta t0 tv:TE}{f f0 fa fb:FE}{tA:TA}{fs:FA2}{tc td:TT}{fc:FT}{gb gc:GB}{pos apos:Pos}{i:Nat}{π:FP}
structure RN(P:Program)(w:World)(K:aA)(mg:Str→Option Value)(base:Heap)(C:Addr)(m:Str)(k n:Nat)(df:Bool)(sp:Sp):Prop where
 ex:∃f fd ps,ps.length=n∧rG P w K mg base Jd k f fd ps sp∧Binds K fd ps []∧(df=true→Binds K fd ps [Value.none])∧Meth K C m f
structure RP(P:Program)(w:World)(K:aA)(mg:Str→Option Value)(base:Heap)(x:Str)(C:Addr)(k n:Nat)(sp:Sp):Prop where
 ex:∃f fd ps,ps.length=n∧rG P w K mg base Jd k f fd ps sp∧Binds K fd ps []∧Mk K C f∧mg x=some (.ref C)
end
end L2


namespace L2
open PySem PySem.Spec PySem.Calls PyProof.Rows PyProof.V
def JP(K:aA)(dN:Bool)(dV:Value):Prop:=match dN with
 | false=>dV=.none
 | true=>∃T o n,dV=.ref T∧K.lookup T=some o∧o.data=.seq #[.none] n
structure CK(K:aA)(f:Addr)(m q:Str)(st:Stmt)(dN:Bool):Prop where
 ex:∃(oc:Value)(od:Option Addr)(dV kV doc pm:Value)(an:Option Addr)(cdv ct:Value)(osl:Array (Option Value)),
  K.lookup f=some ⟨oc,od,.func (E2 m q (cW st) (bN st) (aF st) dV kV doc pm an cdv ct),osl⟩∧J1 K cdv q=true∧JP K dN dV
structure RQ(K:aA)(C:Addr)(m q:Str)(st:Stmt)(dN:Bool):Prop where
 ex:∃f,CK K f m q st dN∧Meth K C m f
structure RT(K:aA)(mg:Str→Option Value)(x:Str)(C:Addr)(q:Str)(st:Stmt):Prop where
 ex:∃f,CK K f "__init__" q st false∧Mk K C f∧mg x=some (.ref C)
def HB(x q:Str)(st:Stmt)(ps:List Str):Prop:=∀(kV doc pm:Value)(an:Option Addr)(cdv ct:Value)(us:List Value),us.length=ps.length→bindArgs (E2 x q (cW st) (bN st) (aF st) .none kV doc pm an cdv ct) ⟨us,[]⟩=pure (ps.zip us)
def RV(x q:Str)(st:Stmt)(ps:List Str):Prop:=∀(T:Addr)(kV doc pm:Value)(an:Option Addr)(cdv ct:Value)(us:List Value),(us.length=ps.length→∃k,bindArgs (E2 x q (cW st) (bN st) (aF st) (.ref T) kV doc pm an cdv ct) ⟨us,[]⟩=seqItems? (Value.ref T) >>= k∧k (some #[Value.none])=pure (ps.zip us)) ∧
 (us.length+1=ps.length→∃k,bindArgs (E2 x q (cW st) (bN st) (aF st) (.ref T) kV doc pm an cdv ct) ⟨us,[]⟩=seqItems? (Value.ref T) >>= k∧k (some #[Value.none])=pure (ps.zip (us++[Value.none])))
def UJ(dN:Bool)(x q:Str)(st:Stmt)(ps:List Str):Prop:=match dN with
 | false=>HB x q st ps
 | true=>RV x q st ps
section
variable{P:Program}{w:World}{K:aA}{mg:Str→Option Value}{base:Heap}
end
section
variable{K:aA}{X:Cx}{st:Stmt}{g g1 g2 gb:GS}{e a b c o:Expr}{es rest:List Expr}{te ta tb tc t0 tv:TE}{f f0 fa fb fc:FE}{tA:TA}{fs:FA}{pos apos:Pos}{i j:Nat}{π:FP}{PB:TS}
def Dq(φ φ':D→D→Option D)(f g h:FE):FT:=fun e=>(f e).bind fun a=>(g e).bind fun b=>(φ a b).bind fun r=>match r with
  | .bl true=>(h e).bind fun c=>(φ' b c).bind fun r2=>match r2 with | .bl k=>some k | _=>none
  | .bl false=>some false
  | _=>none
A9 Ax{op op':CmpOp}{r r':R2}{φ φ':D→D→Option D}(ho:jC X (compareOp op) r)(ho':jC X (compareOp op') r')(hd:Dc K r φ)(hd':Dc K r' φ')(ha:XR K X a ta fa)(hb:XR K X b tb fb)(hc:XR K X c tc fc)(hm:lastMarks [op,op'] [b,c]=false:=by with_unfolding_all rfl):XT K X (.Compare a [op,op'] [b,c] pos) (zV (wV r r' ta tb tc)) (Dq φ φ' fa fb fc):=⟨ha.hk,Ju ho ho' ha.pe hb.pe hc.pe hm,fun σ H e k Q re q kk=>by
 A7⟨d1,q1,q⟩:=aP q
 A7⟨d2,q2,q⟩:=aP q
 A7⟨d3,q3,q⟩:=aP q
 &ha.ev σ H H e d1 _ (Zn.self K H) re q1 fun x H1 Z1 s1 t1 z1 rx=>hb.ev σ H1 H1 e d2 _ (Zn.self K H1) (re.same s1) q2 fun y H2 Z2 s2 t2 z2 ry=>?_
 &hd x y H2 d1 d2 d3 _ (s2.rv _ _ (z1.sm.rv _ _ rx)) (z2.sm.rv _ _ ry) q3 fun z H3 s3 n=>?_
 have rz:=n.rv
 split at q
 ·A7⟨d4,q4,q⟩:=aP q
  A7⟨d5,q5,q⟩:=aP q
  A8 Rv at rz
  &⟨true,rz,?_⟩
  rw[if_pos rfl]
  &hc.ev σ H3 H3 e d4 _ (Zn.self K H3) (re.same (s1.trans (s2.trans s3))) q4 fun w H4 Z4 s4 t4 z4 Vz=>?_
  &hd' y w H4 d2 d4 d5 _ ((s3.trans s4).rv _ _ (z2.sm.rv _ _ ry)) (z4.sm.rv _ _ Vz) q5 fun v H5 s5 n5=>?_
  have r5:=n5.rv
  split at q
  ·cases q
   A8 Rv at r5
   ~⟨_,r5,kk H5 (s1.trans (s2.trans (s3.trans (s4.trans s5))))⟩
  ·cases q
 ·cases q
  A8 Rv at rz
  &⟨false,rz,?_⟩
  rw[if_neg A5]
  ~⟨_,rfl,kk H3 (s1.trans (s2.trans s3))⟩
 ·cases q⟩
end
end L2


namespace L2
open PySem PySem.Spec PySem.Calls PyProof.Rows PyProof.V
section
variable{K:aA}{B H:Hp}{env:EN}{σ:St}
end
abbrev FK:=DE→Option (List Key)
def RW(K:aA)(t:TE)(fk:FK):Prop:=∀(σ:St)(H:Hp)(e:DE)(k:List Key)(Q:VK),oW K H e σ→fk e=some k→(∀b H',aH H H'→H' b=some (.tup (k.map kV))→Q (.ref b) H')→t σ H Q
structure UL(K:aA)(X:Cx)(e:Expr)(t:TE)(fk:FK):Prop where
 hk:X.K=K
 pe:PE X e t
 ev:RW K t fk
section
variable{K:aA}{X:Cx}{st:Stmt}{e a b c o:Expr}{es rest:List Expr}{te ta tb tc t0 tv:TE}{f fa fb:FE}{g:FK}{gd:FE}{tA:TA}{fs:FA}{pos apos:Pos}{i j:Nat}{π:FP}{PB:TS}
def JQ(K:aA)(t:TA)(fs:FA)(i:Nat):Prop:=∀(σ:St)(H:Hp)(e:DE)(ds:List D)(v:V)(Q:List V→Hp→Prop),oW K H e σ→fs e=some ds→σ[i]?=some (some v)→(∀vs H',aH H H'→xP K H H' ds vs→Q (vs++[v]) H')→t σ H Q
structure UT(K:aA)(X:Cx)(es:List Expr)(t:TA)(fs:FA)(i:Nat):Prop where
 hk:X.K=K
 pa:PA X es t
 ev:JQ K t fs i
end
end L2


namespace L2
open PySem PySem.Spec PySem.Calls PyProof.Rows PyProof.V
section
variable{K:aA}{X:Cx}{st:Stmt}{e a b c o:Expr}{es rest:List Expr}{te ta tb tc t0 tv:TE}{f fa fb g:FE}{gk:FK}{gd:FE}{tA:TA}{fs:FA}{pos apos:Pos}{i j:Nat}{π:FP}{PB:TS}{gm:GM}
end
end L2
namespace L2
open PySem PySem.Spec PySem.Calls PyProof.Rows PyProof.V
end L2


namespace L2
open PySem PySem.Spec PySem.Calls PyProof.Rows PyProof.V
section
variable{K:aA}{X:Cx}{e stx:Expr}{te ts:TE}{f g:FE}{pos p2:Pos}
end
end L2


namespace L2
open PySem PySem.Spec PySem.Calls PyProof.Rows PyProof.V
abbrev FE2:=DE→DE→Option D
def RX(K:aA)(t:TE)(f:FE2):Prop:=∀{N:Fp}(σ:St)(H Z:Hp)(eF eZ:DE)(d:D)(Q:VK),Zn K N Z H→oW K H eF σ→oW K Z eZ σ→f eF eZ=some d →
 (∀v H' Z',aH H H'→aH Z Z'→Zn K N Z' H'→Rv K Z' d v→Q v H')→t σ H Q
def JR(K:aA)(t:TA)(f:FA2):Prop:=∀{N:Fp}(σ:St)(H Z:Hp)(eF eZ:DE)(ds:List D)(Q:List V→Hp→Prop),Zn K N Z H→oW K H eF σ→oW K Z eZ σ→f eF eZ=some ds →
 (∀vs H' Z',aH H H'→aH Z Z'→Zn K N Z' H'→bG K Z' ds vs→Q vs H')→t σ H Q
structure XZ(K:aA)(X:Cx)(e:Expr)(t:TE)(f:FE2):Prop where
 hk:X.K=K
 pe:PE X e t
 ev:RX K t f
structure UW(K:aA)(X:Cx)(es:List Expr)(t:TA)(f:FA2):Prop where
 hk:X.K=K
 pa:PA X es t
 ev:JR K t f
section
variable{K:aA}{X:Cx}{e a b:Expr}{es:List Expr}{te ta tb:TE}{f:FE}{g h:FE2}{tA:TA}{fs:FA2}{pos:Pos}{i:Nat}
end
end L2


namespace L2
open PySem PySem.Spec PySem.Calls PyProof.Rows PyProof.V
inductive Ar where
  | ch (i:Nat) | rd (f:FE) | nw (f:FE)
def GJ:List Ar→List Nat
 | []=>[]
 | .ch i::as=>i::GJ as
 | .rd _::as=>GJ as
 | .nw _::as=>GJ as
def GK:List Ar→DE→DE→Option (List D)
 | [],_,_=>some []
 | .ch _::as,eF,eZ=>GK as eF eZ
 | .rd f::as,eF,eZ=>(f eZ).bind fun d=>(GK as eF eZ).map fun r=>d::r
 | .nw f::as,eF,eZ=>(f eF).bind fun d=>(GK as eF eZ).map fun r=>d::r
def Fx(K:aA)(Z:Hp)(σ:St):List Ar→List D→List V→Prop
 | [],ds,vs=>ds=[]∧vs=[]
 | .ch i::as,ds,vs=>∃v r,vs=v::r∧σ[i]?=some (some v)∧Fx K Z σ as ds r
 | .rd _::as,ds,vs=>∃d dr v r,ds=d::dr∧vs=v::r∧Rv K Z d v∧Fx K Z σ as dr r
 | .nw _::as,ds,vs=>∃d dr v r,ds=d::dr∧vs=v::r∧Rv K Z d v∧Fx K Z σ as dr r
def PJ(σ:St):List Nat→List V→Prop
 | [],vs=>vs=[]
 | j::js,vs=>∃v r,vs=v::r∧σ[j]?=some (some v)∧PJ σ js r
section
variable{K:aA}{X:Cx}{e:Expr}{es:List Expr}{te:TE}{f:FE}{tA:TA}{as:List Ar}{pos:Pos}{i:Nat}
def JS(K:aA)(t:TA)(as:List Ar):Prop:=∀(A1:Fp)(σ:St)(H:Hp)(eF eZ:DE)(ds:List D)(cv:List V)(Q:List V→Hp→Prop),(∀x,A1 x→mZ H x)→oW K H eF σ→oW K (out H A1) eZ σ→PJ σ (GJ as) cv→GK as eF eZ=some ds →
 (∀vs H',aH H H'→Fx K (out H' A1) σ as ds vs→Q vs H')→t σ H Q
structure VB(K:aA)(X:Cx)(es:List Expr)(t:TA)(as:List Ar):Prop where
 hk:X.K=K
 pa:PA X es t
 ev:JS K t as
end
section
variable{K:aA}{H H' Z Z' B:Hp}{σ:St}
end
section
variable{K:aA}{X:Cx}{e:Expr}{es:List Expr}{tA:TA}{as:List Ar}{pos pf:Pos}
end
section
variable{P:Program}{w:World}{K:aA}{mg:Str→Option Value}{base:Heap}
end
section
variable{K:aA}{X:Cx}{a b:Expr}{rest:List Expr}{ta tb:TE}{g h:GM}{f:FE}{pos:Pos}
end
end L2


namespace L2
open PySem PySem.Spec PySem.Calls PyProof.Rows PyProof.V
section
variable{prog:Program}{w:World}{A:Around}{R:Result→Shared→Prop}{I:Addr}{fp wr:List Addr}{n:Nat}{P:Nat→Value→Prop}{St:Nat→Heap→Prop}{kw:List (Str×Value)}
end
section
variable{prog:Program}{w:World}{A:Around}{E:Value→Shared→Prop}{s:Shared}
end
section
variable{K:aA}{X:Cx}{e e2:Expr}{te t2:TE}{f g:FE}{x:Str}{p pos kp:Pos}
end
end L2


namespace L2
open PySem PySem.Spec PySem.Calls PyProof.Rows PyProof.V
section
variable{X:Cx}
end
section
variable{K:aA}{X:Cx}{a b e:Expr}{ta tb te:TE}{f g:FE}{i:Nat}{π:FP}{pos apos cpos:Pos}{m:Str}
end
end L2


namespace L2
open PySem PySem.Spec PySem.Calls PyProof.Rows PyProof.V
def Xh(ks:List Key)(vs:List V):List (V×V):=(ks.zip vs).map fun kv=>(kV kv.1,kv.2)
def JT(K:aA)(t:List (TE×TE))(ks:List Key)(is:List Nat)(fs:FA):Prop:=∀(σ:St)(H:Hp)(e:DE)(ds:List D)(xs:List V)(Q:List (V×V)→Hp→Prop),oW K H e σ→fs e=some ds→xs.length=is.length →
 (∀(k i:Nat),is[k]?=some i→∃x,xs[k]?=some x∧σ[i]?=some (some x))→(∀vs H',aH H H'→xP K H H' ds vs→Q (Xh ks (xs++vs)) H')→Cp t σ H Q
structure VD(K:aA)(X:Cx)(p:Pos)(keys:List (Option Expr))(vals:List Expr)(t:List (TE×TE))(ks:List Key)(is:List Nat)(fs:FA):Prop where
 hk:X.K=K
 VF:QF X p keys vals t
 ev:JT K t ks is fs
section
variable{K:aA}{X:Cx}{st:Stmt}{e:Expr}{vals:List Expr}{keys:List (Option Expr)}{te:TE}{f:FE}{fs:FA}{pos p p1:Pos}{i j:Nat}{t:List (TE×TE)}{ks:List Key}{is:List Nat}{x:Str}
end
section
variable{X:Cx}{K:aA}{x y:Str}{p p2 pos pos2:Pos}{a b:Expr}{t:TA}{fs:FA}
end
end L2


namespace L2
open PySem PySem.Spec PySem.Calls PyProof.Rows PyProof.V
section
variable{K:aA}{X:Cx}{a e:Expr}{ta te:TE}{f:FE}{π:FP}{i:Nat}{m:Str}{apos cpos pos:Pos}
end
end L2


namespace L2
open PySem PySem.Spec PySem.Calls PyProof.Rows PyProof.V
section
variable{K:aA}{X:Cx}{a b e:Expr}{es:List Expr}{ta tb te t:TE}{f g:FE}{tA:TA}{fs:FA}{pos apos cpos p2:Pos}{m:Str}
def PK(a b:D):Option D:=match a,b with
 | .str x,.str y=>if x.length+y.length≤100000 then some (.str (x++y))else none
 | _,_=>none
def Ly(x y:Str):Bool:=!(Builtin.Str.occurrences x y 0 x.length 1).isEmpty
def Lz(a b:D):Option D:=match a,b with
 | .str y,.str x=>some (.bl (Ly x y))
 | _,_=>none
def CN:R2:=fun x y H Q=>∃i j,x=.str i∧y=.str j∧Q (.bl (!(Builtin.Str.occurrences j i 0 j.length 1).isEmpty)) H
A9 Xi:Dc K CN Lz:=fun x y H a b d Q ra rb q k=>by
 A8 Lz at q
 split at q
 ·cases q
  A8 Rv at ra rb
  ~⟨_,_,ra,rb,k _ H (aH.refl _) (.cY rfl (by A8 Rv Ly;rfl))⟩
 ·cases q
A9 Xj:jC X (compareOp .In) CN:=Hi
def Ie(a b:D):Option D:=match a,b with
 | .str x,.int i=>if x.length≤100000 then(Aa x.cps.toList i).map fun c=>.str ⟨#[c]⟩else none
 | _,_=>none
A9 Xk(ha:XR K X a ta f)(hb:XR K X b tb g)(hs:qW b):XN K X (.Subscript a b pos) (zM Vy ta tb) (f2 Ie f g):=
 ⟨ha.hk,Jy Jz ha.pe hb.pe hs,Ff (fun x y H a b d Q ra rb q k=>by
  A8 Ie at q
  split at q
  ·split at q
   ·rename_i c
    A7⟨u,q1,rfl⟩:=iG q
    A8 Rv at ra rb
    ~⟨_,_,u,ra,rb,gR c,q1,k _ H (aH.refl _) (.cY rfl (by A8 Rv;rfl))⟩
   ·cases q
  ·cases q) ha.ev hb.ev⟩
def vX:List D→Option D
 | [.str x]=>if x.length≤100000 then some (.int x.length)else none
 | _=>none
A9 Qy:mU K (fun xs H Q=>∃z,xs=[.str z]∧z.length≤sizeLine∧Q (.int z.length) H) vX:=fun vs H ds d Q rs q k=>by
 A8 vX at q
 split at q
 ·split at q
  ·rename_i c
   cases q
   A7⟨v,rfl,r⟩:=jH rs
   A8 Rv at r
   subst r
   ~⟨_,rfl,gR c,k _ H (aH.refl _) (.cY rfl (by A8 Rv;rfl))⟩
  ·cases q
 ·cases q
def yJ(i:Int):Str:=J8 (toString i)
def vY:List D→Option D
 | [.int i]=>if i.natAbs.log2<1920 then some (.str (yJ i))else none
 | _=>none
A9 Fy:mU K (fun xs H Q=>∃i,xs=[.int i]∧i.natAbs.log2<1920∧Q (.str (toString i)) H) vY:=fun vs H ds d Q rs q k=>by
 A8 vY at q
 split at q
 ·split at q
  ·rename_i c
   cases q
   A7⟨v,rfl,r⟩:=jH rs
   A8 Rv at r
   subst r
   ~⟨_,rfl,c,k _ H (aH.refl _) (.cY rfl (by A8 Rv yJ;rfl))⟩
  ·cases q
 ·cases q
noncomputable def Ma:List D→Option D
 | [.str x]=>if x.length≤640 then(J2 x).map .int else none
 | _=>none
def Uh:List V→Hp→VK→Prop:=fun xs H Q=>∃x n,xs=[.str x]∧J2 x=some n∧x.length≤640∧Q (.int n) H
A9 Qz:eO X (.type "int") Uh:=by
 intro pins s σ H xs us Q I r h
 A7⟨x,n,rfl,hn,hl,q⟩:=h
 A7⟨u,rfl,t,rfl⟩:=vals1 r
 ~PySem.W.KIN.call_text hn hl ⟨.int n,H,I.tok _,⟨_,rfl⟩,q⟩
A9 Ra:mU K Uh Ma:=fun vs H ds d Q rs q k=>by
 A8 Ma at q
 split at q
 ·split at q
  ·rename_i c
   A7⟨n,q1,rfl⟩:=iG q
   A7⟨v,rfl,r⟩:=jH rs
   A8 Rv at r
   subst r
   ~⟨_,n,rfl,q1,c,k _ H (aH.refl _) (.cY rfl (by A8 Rv;rfl))⟩
  ·cases q
 ·cases q
A9 Ay:C8 K (.type "str") (.type "str")=some true:=by with_unfolding_all rfl
def Dr(f:FE):FE:=fun e=>(f e).bind fun d=>match d with | .str _=>some (.bl true) | _=>none
def CP(K:aA):List V→Hp→VK→Prop:=fun xs H Q=>∃x,xs=[.str x,.ty "str"]∧Q (.bl true) H
A9 Xl:eO X (.builtin "isinstance") (CP K):=by
 intro pins s σ H xs us Q I r h
 A7⟨x,rfl,q⟩:=h
 A7⟨u,w',rfl,rx,rt⟩:=vals2 r
 cases rt
 ~oY I rx (.str x) Ay fun tk=>⟨.bl true,H,I.tok _,rfl,q⟩
A9 Ds{p:Pos}{eT:Expr}(h:XR K X e t f)(hT:PE X eT (tC (.ty "str"))) (hg:Gl X "isinstance") (hm:X.mg "isinstance" = none) (hst:starEach (e::[eT]) X.env=(false,eval e X.env)::starEach [eT] X.env:=by rfl) (hst2:starEach [eT] X.env=(false,eval eT X.env)::starEach [] X.env:=by rfl)
  (hpl:(backTo pos (starEach [eT] X.env)).any (·.1)=false:=by rfl):XN K X (.Call (.Name "isinstance" p) [e,eT] [] pos) (Vx (CP K) (dD t (dD (tC (.ty "str")) jD))) (Dr f):=
 ⟨h.hk,rH Xl hg hm L3 (bD h.pe (bD hT cB hst2) hst) A5 A5 hst hpl,fun σ H e d Q re q k=>by
  A8 Dr at q
  A7⟨d0,q1,q2⟩:=aP q
  split at q2
  ·cases q2
   &h.ev σ H H e _ _ (Zn.self K H) re q1 fun v H1 Z1 s1 t1 z1 rv=>?_
   A8 Rv at rv
   subst rv
   ~⟨_,rfl,k _ H1 s1 (.cY rfl (by A8 Rv;rfl))⟩
  ·cases q2⟩
structure fO(mg:Str→Option Value)(x:Str)(i:Str):Prop where
 ex:∃t,mg x=some (.str i t)
A9 iM{K:aA}{h:Heap}{mg:Str→Option Value}{x:Str}{i:Str}{t:Tok}(X:K.In h)(G:h.Ns mainGlobals mg)(a:K9 K mainGlobals x=some (some (.str i t))):fO mg x i:=⟨t,L7 X G a⟩
A9 mX{x:Str}{i:Str}(G:fO X.mg x i)(hg:Gl X x)(hd:(x==("__debug__" : Str))=false:=by decide) (hk:X.K=K:=by rfl):XN K X (.Name x pos) (tC (.str i)) (fC (.str i)):=by
 A7⟨t,h⟩:=G.ex
 ~⟨hk,wU hg h ⟨t,rfl⟩ hd,Kv i⟩
def Dt:V→List V→Hp→VK→Prop:=fun x vs H Q=>∃z y,x=.str z∧vs=[.str y]∧Q (.bl (Txt.startswith z y)) H
A9 Mf:Zj X "str.startswith" Dt:=by
 intro pins s σ H x vs v us Q I rx rv h
 A7⟨z,y,rfl,rfl,q⟩:=h
 A7⟨t,rfl⟩:=rx
 A7⟨u,rfl,ru⟩:=rv.one
 A7⟨t',rfl⟩:=ru
 ~PySem.SC.startswith ⟨.bl _,H,I,rfl,q⟩
def yK(a b:D):Option D:=match a,b with
 | .str x,.str y=>some (.bl (Txt.startswith x y))
 | _,_=>none
A9 Mg(ha:XR K X a ta f)(hb:XR K X b tb g)(hp:PE X a ta→PE X b tb→PE X (.Call (.Attribute a m apos) [b] [] cpos) (Hq X.K "str" Dt ta (dD tb jD))):XN K X (.Call (.Attribute a m apos) [b] [] cpos) (Hq X.K "str" Dt ta (dD tb jD)) (f2 yK f g):=
 ⟨ha.hk,hp ha.pe hb.pe,fun σ H e d Q re q k=>by
  A7⟨x,y,q1,q2,q3⟩:=nU q
  A8 yK at q3
  split at q3
  ·cases q3
   &ha.ev σ H H e _ _ (Zn.self K H) re q1 fun v H1 Z1 s1 t1 z1 rx=>?_
   A8 Rv at rx
   subst rx
   &⟨rfl,hb.ev σ H1 H1 e _ _ (Zn.self K H1) (re.same s1) q2 fun v' H2 Z2 s2 t2 z2 ry=>?_⟩
   A8 Rv at ry
   subst ry
   ~⟨_,_,rfl,rfl,k _ H2 (s1.trans s2) (.cY rfl (by A8 Rv;rfl))⟩
  ·cases q3⟩
def CQ:V→Option Int→Option Int→Hp→VK→Prop:=fun x lo hi H Q=>∃z,x=.str z∧lo=some 1∧hi=none∧1≤z.length∧z.length≤sizeLine∧Q (.str ⟨(z.cps.toList.drop 1).toArray⟩) H
A9 Xm(n:Nat):Builtin.Str.strSliceIndices (some 1) none 1 n=Builtin.Str.strSliceIndices (some ((1:Nat):Int)) (some (n:Int)) 1 n:=by
 have h2:¬((n:Int)<0):=by omega
 have e2:max (0:Int) (min (n:Int) (n:Int))=n:=by omega
 simp only[Builtin.Str.strSliceIndices,h2,if_false,e2,show ((1:Int) > 0)=True from by simp,if_true]
 rfl
A9 Xn:FZ X CQ:=by
 intro pins s σ H x v vl vu lo hi sl Q I rx hs pl pu h
 A7⟨z,rfl,rfl,rfl,h1,hz,q⟩:=h
 A7⟨t,rfl⟩:=rx
 cases pl with
 | int i t'=>
  cases pu
  have Ui:slicePicked z (some (1,t')) none none=(E9 (z.length-1)).map (fun k=>1+k):=by
   A8 slicePicked
   show Builtin.Str.strSliceIndices (some 1) none 1 z.length=_
   rw[Xm,StrLaws.strSliceIndices_plain h1 (B7 _)]
  have hm:sliceMade z t (some (1,t')) none none=.str ⟨(z.cps.toList.drop 1).toArray⟩:=by
   A8 sliceMade
   rw[if_neg]
   ·congr 1
    have e:slicePicked z (some (1,t')) none none=Builtin.Str.strSliceIndices (some ((1:Nat):Int)) (some (z.length:Int)) 1 z.length:=by
     rw[Ui,StrLaws.strSliceIndices_plain h1 (B7 _)]
    rw[e,StrLaws.sliced_plain z h1 (B7 _),List.take_of_length_le]
    rw[M8]
    ~B7 _
   ·rw[Ui]
    simp
    omega
  &⟨"str", _,F.slot_str_getitem.lookup,typeIs_str _ _ _,wpAny_getItem_str_slice (l:=some (1,t')) (u:=none) (st:=none) hs rfl ?_⟩
  rw[hm]
  &⟨?_,.str _,H,I.tok _,⟨_,rfl⟩,q⟩
  show (z.cps.toList.drop 1).toArray.size≤sizeLine
  rw[B3,M8]
  have:z.cps.toList.length=z.length:=G8
  omega
def Rb(d:D)(lo hi:Option Int):Option D:=match d with
 | .str z=>if lo=some 1∧hi=none∧1≤z.length∧z.length≤100000 then some (.str ⟨(z.cps.toList.drop 1).toArray⟩)else none
 | _=>none
def Rc(f:FE)(fl fh:FO):FE:=fun e=>(f e).bind fun d=>(fl e).bind fun lo=>(fh e).bind fun hi=>Rb d lo hi
A9 Xo{lo hi:Option Expr}{tl th:TO}{fl fh:FO}(h:XR K X e t f)(hl:XO K X lo tl fl)(hu:XO K X hi th fh):XN K X (.Subscript e (.Slice lo hi none p2) pos) (IK CQ t tl th) (Rc f fl fh):=⟨h.hk,zY Xn h.pe hl.po hu.po,fun σ H e d Q re q k=>by
 A8 Rc at q
 A7⟨d0,q1,qa⟩:=aP q
 A7⟨lo,q2,qb⟩:=aP qa
 A7⟨hi,q3,qc⟩:=aP qb
 clear q qa qb
 A8 Rb at qc
 split at qc
 ·split at qc
  ·rename_i c
   cases qc
   &h.ev σ H H e _ _ (Zn.self K H) re q1 fun v H1 Z1 s1 t1 z1 rv=>hl.ev σ H1 e lo _ (re.same s1) q2 fun H2 s2=>hu.ev σ H2 e hi _ (re.same (s1.trans s2)) q3 fun H3 s3=>?_
   A8 Rv at rv
   subst rv
   ~⟨_,rfl,c.1,c.2.1,c.2.2.1,gR c.2.2.2,k _ H3 (s1.trans (s2.trans s3)) (.cY rfl (by A8 Rv;rfl))⟩
  ·cases qc
 ·cases qc⟩
def Uj(i j:Int):Prop:=0<j∧j.natAbs.log2<9000
instance:∀i j,Decidable (Uj i j):=fun i j=>by A8 Uj;~inferInstance
end
def JV(x:Str):It:=⟨fun i _=>i<x.cps.size,fun i H v H'=>H'=H∧∃c,x.cps[i]?=some c∧v=.str ⟨#[c]⟩,fun i _=>x.cps.size≤i⟩
section
variable{P:Program}{w:World}{K:aA}{tg:Expr}
A9 Az{it:Addr}{ty:String}{x:Str}{t:Tok}(W:∀A:Around,A.handled=none→Walks P w A it [it] [it] x.cps.size (SignAt x) (fun i h=>h.IsStrIter it ty x t i))
  (hn:["enumerate", "zip", "dict_itemiterator", "dict_reverseitemiterator", "odict_iterator", "itertools.zip_longest", "itertools.pairwise"].contains ty=false)
  (hd:∀(A:Around)(s:Shared)(i:Nat)(Q:Option Value→Shared→Prop)(E:Value→Shared→Prop),A.handled=none→s.heap.IsStrIter it ty x t i→x.cps[i]?=none→(∀h',Heap.ExtBut it s.heap h'→Q none {s with heap:=h'})→wpAny (model P w) A (pyNext (.ref it)) Q E s)
  (hs:∀(A:Around)(i:Nat)(s:Shared)(Q:Value→Shared→Prop)(E:Value→Shared→Prop),s.heap.IsStrIter it ty x t i→Q (.ref it) s→wpAny (model P w) A (pyIter (.ref it)) Q E s):Turn P w K tg (JV x) [it] it (fun i h=>h.IsStrIter it ty x t i) where
 mem:=by simp
 obj:=fun i h st b hb=>by
  have e:b=it:=by simpa using hb
  subst e
  A7⟨o,e,c,d⟩:=st
  ~⟨o,e,fun v z=>by rw[d]at z;cases z⟩
 keep:=fun i h h' st k=>let ⟨o,ho,r⟩:=st;⟨o,k it (by simp) o ho,r⟩
 item:=by
  intro X hP hw hK hc i pins s σ H E I hf st hg
  subst hP hw hK
  A7⟨f0,f1,f2,f3,f4,f5⟩:=hf it (by simp)
  &(W X.A (I.ok.hd hc)).item i s _ _ hg st fun v h' tk hv st' kk=>?_
  A7⟨c,u,hx,rfl⟩:=hv
  have I1:Inv X pins σ H {s with heap:=h',toks:=tk}:=I.turned (fun b o hb e=>kk b o (by simpa using hb) e) f0 f1 f3 f4 f5
  A7⟨o,e,c',d⟩:=id st'
  ~⟨_,rfl,Eu (s:={s with heap:=h',toks:=tk}) e c' d hn ⟨.str ⟨#[c]⟩,H,I1,⟨u,rfl⟩,⟨rfl,c,hx,rfl⟩,st',fun b hb=>(hf b hb).1⟩⟩
 done:=by
  intro X hP hw hK hc i pins s σ H E I hf st hg
  subst hP hw hK
  A7⟨f0,f1,f2,f3,f4,f5⟩:=hf it (by simp)
  have hg:x.cps.size≤i:=hg
  ~hd X.A s i _ _ (I.ok.hd hc) st (by simp;omega) fun h' eb=>⟨rfl,I.turned (t':=s.toks) (fun b o hb e=>eb b o hb e) f0 f1 f3 f4 f5⟩
 self:=fun A i s Q E st h=>hs A i s Q E st h
end
section
variable{K:aA}{X:Cx}{tg e l:Expr}{t tl:TE}{f:FE}
def CT(tl:TE):TI:=fun σ H R=>tl σ H fun x H1=>∃z,x=.str z∧R (JV z) H1
A9 Xp(hl:PE X l tl):PI X tg l (CT tl):=by
 intro pins s σ H R I h
 &dW (hl pins s σ H _ I h) fun v s1 ⟨x,H1,I1,r1,q1⟩=>?_
 A7⟨z,e,q⟩:=q1
 subst e
 A7⟨t,rfl⟩:=r1
 have fin:∀b,b∈[s1.heap.objs.size]→uG X pins H1 b:=fun b hb=>by
  have e:b=s1.heap.objs.size:=by simpa using hb
  subst e
  ~I1.Ot (B7 _) (I1.hok.fresh (B7 _))
 cases ha:z.cps.all (·<128)
 ·~wpAny_pyIter_wide ha ⟨s1.heap.objs.size,[s1.heap.objs.size],_,_,H1,rfl,I1.kept (t':=s1.toks) fun b o e=>Heap.get?_push_of_some _ e,Az (t:=t) (fun A hA=>Walks.strWide hA _ z t) A5 (fun A s i Q E hh st hx hQ=>wpAny_pyNext_wide_end hh st hx hQ) (fun A i s Q E st h=>wpAny_pyIter_striter_wide st h),⟨_,Heap.get?_push_size _ rfl,rfl,rfl⟩,fin,q⟩
 ·~wpAny_pyIter_ascii ha ⟨s1.heap.objs.size,[s1.heap.objs.size],_,_,H1,rfl,I1.kept (t':=s1.toks) fun b o e=>Heap.get?_push_of_some _ e,Az (t:=t) (fun A hA=>Walks.strAscii hA _ z t) A5 (fun A s i Q E hh st hx hQ=>wpAny_pyNext_ascii_end hh st hx hQ) (fun A i s Q E st h=>wpAny_pyIter_striter_ascii st h),⟨_,Heap.get?_push_size _ rfl,rfl,rfl⟩,fin,q⟩
def Xq(x:Str):List V:=x.cps.toList.map fun c=>V.str ⟨#[c]⟩
def JW(x:Str):List D:=x.cps.toList.map fun c=>D.str ⟨#[c]⟩
A9 Rf{x:Str}:Wf (JV x) (fun _=>True) (Xq x):=fun i H _=>by
 have hl:(Xq x).length=x.cps.size:=by A8 Xq;rw[B6,G8]
 &⟨fun h=>show i<x.cps.size by omega,fun v H' ⟨e,c,hc,hv⟩=>⟨e,fun h=>?_⟩,fun h=>show x.cps.size≤i by omega⟩
 subst hv
 A8 Xq
 rw[C3,Array.getElem?_toList,hc]
 rfl
A9 Xr{H:Hp}(x:Str):bG K H (JW x) (Xq x):=by
 A8 JW Xq
 &bG.of (by simp) fun i d v h1 h2=>?_
 rw[C3]at h1 h2
 cases q:x.cps.toList[i]? with
 | none=>rw[q]at h1;cases h1
 | some j=>rw[q]at h1 h2;cases h1;cases h2;A8 Rv;rfl
def Mh(f:FE):FA:=fun e=>(f e).bind fun d=>match d with | .str z=>some (JW z) | _=>none
A9 Xu(h:XR K X e t f):XI K X tg e (CT t) (Mh f):=⟨h.hk,Xp h.pe,fun σ H Z e ds R z re q k=>by
 A8 Mh at q
 A7⟨d,q1,q2⟩:=aP q
 split at q2
 ·rename_i x
  cases q2
  &h.ev σ H Z e _ _ z re q1 fun v H1 Z1 s1 t1 z1 rv=>?_
  A8 Rv at rv
  subst rv
  ~⟨x,rfl,k _ H1 Z1 _ (Xq x) s1 t1 z1 Rf (fun _ _=>trivial) (Xr x)⟩
 ·cases q2⟩
end
end L2


namespace L2
open PySem PySem.Spec PySem.Calls PyProof.Rows PyProof.V
section
variable{K:aA}{X:Cx}{a b c e:Expr}{ta tb tc te t:TE}{f g fa fb fc:FE}{pos apos cpos:Pos}{m:Str}
def Rg(φ φ':D→D→Option D)(f g h:FE):FE:=fun e=>(Dq φ φ' f g h e).map .bl
A9 Mi{op op':CmpOp}{r r':R2}{φ φ':D→D→Option D}(ho:jC X (compareOp op) r)(ho':jC X (compareOp op') r')(hd:Dc K r φ)(hd':Dc K r' φ')(ha:XR K X a ta fa)(hb:XR K X b tb fb)(hc:XR K X c tc fc)(hm:lastMarks [op,op'] [b,c]=false:=by with_unfolding_all rfl):XN K X (.Compare a [op,op'] [b,c] pos) (wV r r' ta tb tc) (Rg φ φ' fa fb fc):=⟨ha.hk,Jt ho ho' ha.pe hb.pe hc.pe hm,fun σ H e k Q re q kk=>by
 A7⟨k,q0,rfl⟩:=iG q
 clear q
 A7⟨d1,q1,q⟩:=aP q0
 clear q0
 A7⟨d2,q2,q⟩:=aP q
 A7⟨d3,q3,q⟩:=aP q
 &ha.ev σ H H e d1 _ (Zn.self K H) re q1 fun x H1 Z1 s1 t1 z1 rx=>hb.ev σ H1 H1 e d2 _ (Zn.self K H1) (re.same s1) q2 fun y H2 Z2 s2 t2 z2 ry=>?_
 &hd x y H2 d1 d2 d3 _ (s2.rv _ _ (z1.sm.rv _ _ rx)) (z2.sm.rv _ _ ry) q3 fun z H3 s3 n=>?_
 have rz:=n.rv
 split at q
 ·A7⟨d4,q4,q⟩:=aP q
  A7⟨d5,q5,q⟩:=aP q
  A8 Rv at rz
  &⟨true,rz,?_⟩
  rw[if_pos rfl]
  &hc.ev σ H3 H3 e d4 _ (Zn.self K H3) (re.same (s1.trans (s2.trans s3))) q4 fun w H4 Z4 s4 t4 z4 Vz=>?_
  &hd' y w H4 d2 d4 d5 _ ((s3.trans s4).rv _ _ (z2.sm.rv _ _ ry)) (z4.sm.rv _ _ Vz) q5 fun v H5 s5 n5=>?_
  have r5:=n5.rv
  split at q
  ·cases q
   ~kk v H5 (s1.trans (s2.trans (s3.trans (s4.trans s5)))) (.cY rfl r5)
  ·cases q
 ·cases q
  A8 Rv at rz
  &⟨false,rz,?_⟩
  rw[if_neg A5]
  ~kk _ H3 (s1.trans (s2.trans s3)) (.cY rfl (by A8 Rv;rfl))
 ·cases q⟩
A9 Ba:∀{xs:List Str} {us:List Value},Vals (xs.map V.str) us→∃l:List (Str×Tok),strValues l=us∧l.map (·.1)=xs
 | [],_,.nil=>⟨[],rfl,rfl⟩
 | x::xs,u::us,.cons r rs=>by
  A7⟨t,rfl⟩:=r
  A7⟨l,h1,h2⟩:=Ba rs
  ~⟨(x,t)::l,by rw[←h1];rfl,by rw[←h2];rfl⟩
def rJoin(K:aA):V→List V→Hp→VK→Prop:=fun x vs H Q=>∃z p xs,x=.str z∧vs=[.ref p]∧iH K H p (xs.map V.str)∧JoinOk z xs=true∧Q (.str (Txt.join z xs)) H
A9 mF:Zj X "str.join" (rJoin X.K):=by
 intro pins s σ H x vs v us Q I rx rv h
 A7⟨z,p,xs,rfl,rfl,hq,hok,q⟩:=h
 A7⟨t,rfl⟩:=rx
 A7⟨u,rfl,ru⟩:=rv.one
 cases ru
 A7⟨its,r,pl,hz⟩:=I.list hq
 A7⟨l,h1,h2⟩:=Ba r
 subst h1
 ~PySem.SC.join pl.isList h2 hok fun t' k=>⟨.str _,H,I.tok _,⟨_,rfl⟩,q⟩
def strsOf:List D→Option (List Str)
 | []=>some []
 | .str x::ds=>(strsOf ds).map fun r=>x::r
 | _::_=>none
A9 sU:∀xs:List Str,strsOf (xs.map D.str)=some xs
 | []=>rfl
 | x::xs=>by rw[C9];A8 strsOf;rw[sU xs];rfl
A9 vZ{H:Hp}:∀{ds:List D} {xs:List Str} {vs:List V},strsOf ds=some xs→bG K H ds vs→vs=xs.map V.str
 | [],xs,vs,h,r=>by A8 strsOf at h;cases h;A8 bG at r;~r
 | d::ds,xs,vs,h,r=>by
  A8 bG at r
  A7⟨y,ys,rfl,r1,r2⟩:=r
  A8 strsOf at h
  split at h
  ·rename_i hh;cases hh
  ·rename_i x ds' hh
   cases hh
   A7⟨l,h1,rfl⟩:=iG h
   A8 Rv at r1
   rw[r1,vZ h1 r2]
   rfl
  ·cases h
def nZ(a b:D):Option D:=match a,b with
 | .str z,.lst ds=>(strsOf ds).bind fun xs=>if JoinOk z xs=true then some (.str (Txt.join z xs))else none
 | _,_=>none
A9 mG(ha:XR K X a ta f)(hb:XR K X b tb g)(hp:PE X a ta→PE X b tb→PE X (.Call (.Attribute a m apos) [b] [] cpos) (Hq X.K "str" (rJoin X.K) ta (dD tb jD))):XN K X (.Call (.Attribute a m apos) [b] [] cpos) (Hq X.K "str" (rJoin X.K) ta (dD tb jD)) (f2 nZ f g):=
 ⟨ha.hk,hp ha.pe hb.pe,fun σ H e d Q re q k=>by
  have hk:=ha.hk
  A7⟨x,y,q1,q2,q3⟩:=nU q
  A8 nZ at q3
  split at q3
  ·A7⟨xs,q4,q5⟩:=aP q3
   split at q5
   ·rename_i hok
    cases q5
    &ha.ev σ H H e _ _ (Zn.self K H) re q1 fun v H1 Z1 s1 t1 z1 rx=>?_
    A8 Rv at rx
    subst rx
    &⟨rfl,hb.ev σ H1 H1 e _ _ (Zn.self K H1) (re.same s1) q2 fun v' H2 Z2 s2 t2 z2 ry=>?_⟩
    have ry:=z2.sm.rv _ _ ry
    A8 Rv at ry
    A7⟨p,vs,rfl,r2,r3⟩:=ry
    rw[vZ q4 r3]at r2
    subst hk
    ~⟨_,p,xs,rfl,rfl,r2,hok,k _ H2 (s1.trans s2) (.cY rfl (by A8 Rv;rfl))⟩
   ·cases q5
  ·cases q3⟩
A9 Rh(xs:List Str):∀tk:Nat,Vals (xs.map V.str) (strsFrom tk xs):=by
 induction xs with
 | nil=>intro tk;~.nil
 | cons x xs ih=>intro tk;~.cons ⟨tk,rfl⟩ (ih (tk+1))
def Du:V→List V→Hp→VK→Prop:=fun x vs H Q=>∃z y,x=.str z∧vs=[.str y]∧(y.length==0)=false∧z.length≤90000∧∀l,H l=none→Q (.ref l) (upd H l (.lst ((Txt.split z y).map V.str)))
A9 sV:Zj X "str.split" Du:=by
 intro pins s σ H x vs v us Q I rx rv h
 A7⟨z,y,rfl,rfl,hy,hz,q⟩:=h
 A7⟨t,rfl⟩:=rx
 A7⟨u,rfl,ru⟩:=rv.one
 A7⟨t',rfl⟩:=ru
 have hle:=PyProof.Rows.split_le z y
 have q:=q _ I.fresh
 cases h1:(decide (z.length<y.length)||decide (Builtin.Str.strKind z<Builtin.Str.strKind y))
 ·cases hf:(Builtin.Str.occurrences z y 0 z.length (z.length+1)).isEmpty
  ·have e:Txt.split z y=Builtin.Str.partsBetween z (Builtin.Str.occurrences z y 0 z.length (z.length+1)) y.length:=by
    A8 Txt.split
    rw[if_neg (ne_true_of_eq_false h1),if_neg (ne_true_of_eq_false hf)]
   rw[e]at q hle
   &call_meets F.slot_str_split (typeIs_str _ _ _) F.entry_str_split (F.args_str_split_2 _ _) (meets_str_split_sep z y t t' h1 hy hf (gR A3) (gR A3)) ?_
   ~⟨.ref _,_,I.Kc (Rh _ _) (by rw[B6];~gR A3),rfl,q⟩
  ·have e:Txt.split z y=[z]:=by
    A8 Txt.split
    rw[if_neg (ne_true_of_eq_false h1),if_pos hf]
   rw[e]at q
   &call_meets F.slot_str_split (typeIs_str _ _ _) F.entry_str_split (F.args_str_split_2 _ _) (meets_str_split_not_found z y t t' h1 hy hf) ?_
   ~⟨.ref _,_,I.Kc (t':=s.toks) (ys:=[.str z]) (its:=[.str z t]) (.cons ⟨t,rfl⟩ .nil) (gR (n:=1) A5),rfl,q⟩
 ·have e:Txt.split z y=[z]:=by
   A8 Txt.split
   rw[if_pos h1]
  rw[e]at q
  &call_meets F.slot_str_split (typeIs_str _ _ _) F.entry_str_split (F.args_str_split_2 _ _) (meets_str_split_cannot_occur z y t t' h1) ?_
  ~⟨.ref _,_,I.Kc (t':=s.toks) (ys:=[.str z]) (its:=[.str z t]) (.cons ⟨t,rfl⟩ .nil) (gR (n:=1) A5),rfl,q⟩
def jK(a b:D):Option D:=match a,b with
 | .str z,.str y=>if(y.length==0)=false∧z.length≤90000 then some (.lst ((Txt.split z y).map D.str))else none
 | _,_=>none
A9 Bb{H:Hp}:∀xs:List Str,bG K H (xs.map D.str) (xs.map V.str)
 | []=>by A8 bG;rfl
 | x::xs=>by
  rw[C9,C9]
  A8 bG
  ~⟨_,_,rfl,by A8 Rv;rfl,Bb xs⟩
A9 wA:∀xs:List Str,D.cR (xs.map D.str)=true
 | []=>by rw[G1,D.cR]
 | x::xs=>by rw[C9,D.cR,wA xs,Bool.and_true];A8 D.cY;rfl
A9 sW(ha:XR K X a ta f)(hb:XR K X b tb g)(hp:PE X a ta→PE X b tb→PE X (.Call (.Attribute a m apos) [b] [] cpos) (Hq X.K "str" Du ta (dD tb jD))):XN K X (.Call (.Attribute a m apos) [b] [] cpos) (Hq X.K "str" Du ta (dD tb jD)) (f2 jK f g):=
 ⟨ha.hk,hp ha.pe hb.pe,fun σ H e d Q re q k=>by
  A7⟨x,y,q1,q2,q3⟩:=nU q
  A8 jK at q3
  split at q3
  ·split at q3
   ·rename_i hc
    cases q3
    &ha.ev σ H H e _ _ (Zn.self K H) re q1 fun v H1 Z1 s1 t1 z1 rx=>?_
    A8 Rv at rx
    subst rx
    &⟨rfl,hb.ev σ H1 H1 e _ _ (Zn.self K H1) (re.same s1) q2 fun v' H2 Z2 s2 t2 z2 ry=>?_⟩
    A8 Rv at ry
    subst ry
    &⟨_,_,rfl,rfl,hc.1,hc.2,fun l hl=>?_⟩
    ~k _ _ ((s1.trans s2).trans (bT hl _)) (qX (s1.trans s2) (.cR (wA _) (Bb _)) hl)
   ·cases q3
  ·cases q3⟩
end
end L2


namespace L2
open PySem PySem.Spec PySem.Calls PyProof.Rows PyProof.V
section
variable{K:aA}{B H H':Hp}{env:EN}{σ:St}{i j:Nat}{v:V}{d:D}
A9 Rel.Xv(h:Rel K B (env++[.own d]) (σ++[some v]) H):∃H0,Rel K B env σ H0∧aH H0 H∧Ag K H0 H d v:=by
 A7⟨A,a,b⟩:=h
 A7⟨A0,A1,k1,⟨v',e,o⟩,k3,k4⟩:=a.Lw
 cases e
 have cl:=Ow.cells _ _ _ o
 have tk:oZ K H (out H A1):=fun p xs q=>by
  have np:(∃u,H p=some (.tup xs)∨H p=some (.oX u (.tup xs)))→¬A1 p:=fun z z2=>by
   A7⟨u,z⟩:=z
   rcases z with z | z
   ·~(cl p z2).2.1 _ z
   ·~(cl p z2).2.2 _ _ z
  rcases q with (q | ⟨u,q⟩) | q
  ·~.inl (.inl (by rw[xO (np ⟨default,.inl q⟩)];~q))
  ·~.inl (.inr ⟨u,by rw[xO (np ⟨u,.inr q⟩)];~q⟩)
  ·~.inr q
 have g:aH (out H A) (out (out H A1) A0):=fun x u ex=>by
  A7⟨e1,e2⟩:=aZ.mp ex
  ~aZ.mpr ⟨fun z=>e1 ((k4 x).mpr (.inl z)),aZ.mpr ⟨fun z=>e1 ((k4 x).mpr (.inr z)),e2⟩⟩
 &⟨out H A1,⟨A0,k1.mono fun s D z hb qq=>?_,b.trans g⟩,gH _ _,A1,o,fun x z=>?_⟩
 ·have fr:∀x,D x→out H A1 x=H x:=fun x zx=>xO fun z=>k3 x (hb x zx) z
  cases s with
  | no=>~qq
  | fro d=>A7⟨q1,v,q2,q3⟩:=qq;~⟨q1,v,q2,g.rv _ _ q3⟩
  | inn v d=>~⟨qq.1,Ow.frame tk _ _ _ qq.2 fr⟩
  | own d=>A7⟨v,q1,q2⟩:=qq;~⟨v,q1,Ow.frame tk _ _ _ q2 fr⟩
 ·A8 out
  rw[if_pos z]
def wB(i j:Nat):GS:=fun env=>match env[i]?,env[j]? with
 | some (.own (.lst ds)),some (.own d)=>if i≠j∧ds.length<100000 then .next ((env.set j .no).set i (.own (.lst (ds++[d]))))else .bad
 | _,_=>.bad
A9 Ri:BR K (mQ (Hq K "list" jE (jA i) (dD (jA j) jD))) (wB i j):=fun B E σ H env r p=>by
 A8 wB at p
 split at p
 ·rename_i ds d q1 q2
  split at p
  ·rename_i hc
   A7⟨v,hv,r2⟩:=r.give q2
   A7⟨H0,r0,s0,N,o,fr⟩:=r2.Xv
   have RZ:(env.set j .no)[i]?=some (.own (.lst ds)):=by rw[K7 (Ne.symm hc.1)];~q1
   A7⟨v0,a,xs,Bs,k1,k2,k3,k4,k5,k6⟩:=r0.Xb (p:=[]) RZ rfl
   A8 Fv at k2
   cases k2
   &⟨_,k1,.inl ⟨rfl,xs,iH.of (s0 _ _ k3)⟩,v,hv,?_⟩
   &⟨a,xs,v,rfl,rfl,s0 _ _ k3,Kw (by rw[(cZ.rv _ _ _ k5).length];omega),p _ ?_⟩
   ~k6 H (ds++[d]) (xs++[v]) (dY Bs N) s0 (dI.mpr ((dI.mp (k5.same s0)).snoc o (Lp (H1:=H0) k5 fr))) fun b z=>z.imp id (fr b)
  ·~p.elim
 ·~p.elim
A9 Rj{X:Cx}{a e:Expr}{m:Str}{pos apos cpos:Pos}(h:PE X a (jA i))(he:PE X e (jA j))(hp:PE X a (jA i)→PE X e (jA j)→PS X (.Expr (.Call (.Attribute a m apos) [e] [] cpos) pos) (mQ (Hq K "list" jE (jA i) (dD (jA j) jD)))):YS K X (.Expr (.Call (.Attribute a m apos) [e] [] cpos) pos) (mQ (Hq K "list" jE (jA i) (dD (jA j) jD))) (wB i j):=⟨hp h he,Ri.ds⟩
end
end L2


namespace L2
open PySem PySem.Spec PyProof.Rows
abbrev cI(ns:List Int):D:=.lst (ns.map D.int)
A9 pL{i:Nat}{g:GS}(I:Nat→EN→Prop):∀(xs:List D)(env:EN)(n:Nat),I n env→(∀k x env,xs[k]?=some x→I (n+k) env→i<env.length∧∃env',g (env.set i (.fro x))=.next env'∧I (n+k+1) env')→∃env',pG i g xs env=.next env'∧I (n+xs.length) env'
 | [],env,n,h,_=>⟨env,by A8 pG;rfl,h⟩
 | x::xs,env,n,h,st=>by
  A7⟨h1,env',h2,h3⟩:=st 0 x env rfl h
  A7⟨mO,a1,a2⟩:=pL I xs env' (n+1) h3 fun k y e hk hi=>by
   have:=st (k+1) y e (by simpa using hk) (by rw[show n+(k+1)=n+1+k by omega];~hi)
   rw[show n+(k+1)+1=n+1+k+1 by omega]at this
   ~this
  &⟨mO,?_,?_⟩
  ·A8 pG
   rw[if_pos h1,h2]
   ~a1
  ·rw[E3,show n+(xs.length+1)=n+1+xs.length by omega]
   ~a2
A9 gB{g1 g2:GS}{env env':EN}(h:g1 env=.next env'):aR g1 g2 env=g2 env':=by A8 aR;rw[h]
A9 Bc{g1 g2:GS}{env:EN}{d:D}(h:g1 env=.ret d):aR g1 g2 env=.ret d:=by A8 aR;rw[h]
A9 sX{f:FT}{g1 g2:GS}{env:EN}(h:f (rE env)=some true):kZ f g1 g2 env=g1 env:=by A8 kZ;rw[h]
A9 pM{f:FT}{g1 g2:GS}{env:EN}(h:f (rE env)=some false):kZ f g1 g2 env=g2 env:=by A8 kZ;rw[h]
A9 Fz{i:Nat}{f:FE}{env:EN}{d:D}(h:f (rE env)=some d)(hi:i<env.length):cX i f env=.next (env.set i (.own d)):=by A8 cX;rw[h];dsimp only;rw[if_pos hi]
A9 fM{f:FE}{env:EN}{d:D}(h:f (rE env)=some d):cA f env=.ret d:=by A8 cA;rw[h]
A9 Mj{i:Nat}{fi:FA}{g:GS}{env:EN}{xs:List D}(h:fi (rE env)=some xs):kW i fi g env=pG i g xs env:=by A8 kW;rw[h]
A9 Rk{js:List Nat}{i:Nat}{fi:FA}{g:GS}{env pH:EN}{xs:List D}(h0:oX js env=pH)(h:fi (zE pH)=some xs):yE js i fi g env=pG i g xs pH:=by A8 yE;rw[h0,h]
A9 fP{n m:Nat}{g:GS}{ds:List D}{d:D}(hl:ds.length=m)(h:g (ds.map SD.fro++D7 (n-m) SD.no)=.ret d):fV n m g ds=some d:=by A8 fV;rw[if_pos hl,h]
A9 aU{φ:D→D→Option D}{f g:FE}{e:DE}{a b d:D}(h1:f e=some a)(h2:g e=some b)(h:φ a b=some d):f2 φ f g e=some d:=by A8 f2;rw[h1,h2];~h
A9 dF{φ:List D→Option D}{fs:FA}{e:DE}{ds:List D}{d:D}(h1:fs e=some ds)(h:φ ds=some d):fL φ fs e=some d:=by A8 fL;rw[h1];~h
A9 aB{f:FE}{fs:FA}{e:DE}{a:D}{r:List D}(h1:f e=some a)(h2:fs e=some r):aC f fs e=some (a::r):=by A8 aC;rw[h1,h2];rfl
A9 aW{n:Nat}{F:List D→Option D}{fs:FA}{e:DE}{ds:List D}{d:D}(h1:fs e=some ds)(hl:ds.length=n)(h:F ds=some d):bJ n F fs e=some d:=by A8 bJ;rw[h1];dsimp only[C5];rw[if_pos hl];~h
A9 bW{f:FE}{e:DE}{b:Bool}(h:f e=some (.bl b)):fB f e=some b:=by A8 fB;rw[h];rfl
A9 bR{f:FT}{e:DE}{b:Bool}(h:f e=some b):fY f e=some (!b):=by A8 fY;rw[h];rfl
A9 Ga{f g:FT}{e:DE}(h:f e=some false):Fj f g e=g e:=by A8 Fj;rw[h];rfl
A9 Gb{f:FE}{e:DE}{d:D}(h:f e=some d)(i:d.cY=true):Hw f e=some d:=vL.mpr ⟨h,i⟩
A9 gC(i j:Int):fW (.int i) (.int j)=some (.int (i+j)):=rfl
A9 sY(i j:Int):De (.int i) (.int j)=some (.int (i-j)):=by A8 De uN;~if_pos True.intro
A9 sZ{i j:Int}(h:uH i j):rW (.int i) (.int j)=some (.int (i*j)):=by A8 rW uN;~if_pos h
A9 tD{i j:Int}(h:0<j)(h2:j<1073741824):uO (.int i) (.int j)=some (.int (i/j)):=by A8 uO uN;~if_pos (show Hg i j from⟨h,h2⟩)
A9 eH{i j:Int}(h:0<j):gO (.int i) (.int j)=some (.int (i%j)):=by A8 gO uN;~if_pos h
A9 lM{i j:Int}(h:Hh i j):Ah (.int i) (.int j)=some (.int (i ^ j.toNat)):=by A8 Ah uN;~if_pos h
A9 yL(i j:Int):JC (.int i) (.int j)=some (.bl (decide (j<i))):=by A8 JC uN;~if_pos True.intro
A9 yM(i j:Int):Fi (.int i) (.int j)=some (.bl (decide (i≤j))):=by A8 Fi uN;~if_pos True.intro
A9 Gd(i j:Int):decide (V.int i=V.int j)=decide (i=j):=by
 by_cases c:i=j
 ·subst c;simp
 ·rw[decide_eq_false c,decide_eq_false (fun z=>c (by cases z;rfl))]
A9 oE(i j:Int):vN (.int i) (.int j)=some (.bl (decide (i=j))):=by
 A8 vN toV
 dsimp only
 rw[if_pos (by rfl),Gd]
A9 Ge(i j:Int):Hy (.int i) (.int j)=some (.bl (!decide (i=j))):=by
 A8 Hy toV
 dsimp only
 rw[if_pos (by rfl),Gd]
A9 yN{α:Type}{xs:List α}{i:Int}{x:α}(h0:0≤i)(h:xs[i.toNat]?=some x):Aa xs i=some x:=by
 have h1:i.toNat<xs.length:=by
  A7⟨h1,_⟩:=B8.mp h
  ~h1
 A8 Aa Tt
 rw[if_pos h0,if_pos A3]
 ~h
A9 Rm{α:Type}{xs:List α}{x:α}(h:xs.getLast?=some x):Aa xs (-1)=some x:=by
 have hl:0<xs.length:=by
  cases xs with
  | nil=>simp at h
  | cons=>simp
 A8 Aa Tt
 rw[if_neg A3,if_pos A3]
 show xs[((-1:Int)+(xs.length:Int)).toNat]?=some x
 rw[List.getLast?_eq_getElem?]at h
 rw[show ((-1:Int)+(xs.length:Int)).toNat=xs.length-1 by omega]
 ~h
A9 Gf{ds:List D}{i:Int}{d:D}(h0:0≤i)(h:ds[i.toNat]?=some d):sG (.lst ds) (.int i)=some d:=yN h0 h
A9 Rn{ds:List D}{i:Int}{d:D}(h0:0≤i)(h:ds[i.toNat]?=some d):sG (.tup ds) (.int i)=some d:=yN h0 h
A9 Bd{ns:List Int}{i:Int}(h0:0≤i)(h:i<ns.length):sG (cI ns) (.int i)=some (.int (ns.getD i.toNat 0)):=yN h0 (by
 rw[C3,F5,B4 (show i.toNat<ns.length by omega)];rfl)
A9 tE(ds:List D):eE [.lst ds]=some (.int ds.length):=rfl
A9 oF(ds:List D):eE [.tup ds]=some (.int ds.length):=rfl
A9 pN(ns:List Int):eE [cI ns]=some (.int ns.length):=by show some (D.int ((ns.map D.int).length:Nat))=_;rw[B6]
A9 wC{c:D→Option Bool}{el:D→Option D}{φ:D→D}:∀{xs:List D},(∀x∈xs,c x=some true)→(∀x∈xs,el x=some (φ x))→kJ c el xs=some (xs.map φ)
 | [],_,_=>by A8 kJ;rfl
 | x::xs,hc,he=>by
  A8 kJ
  rw[hc x C6,he x C6,wC (xs:=xs) (fun y hy=>hc y (B9 _ hy)) fun y hy=>he y (B9 _ hy)]
  rfl
A9 Be{fi:FA}{fr:List Nat}{fc:FT}{fe:FE}{e:DE}{xs ys:List D}(h1:fi e=some xs)(hl:xs.length≤100000)(h:kJ (fun x=>fc (some x::kI e fr)) (fun x=>fe (some x::kI e fr)) xs=some ys):bU fi fr fc fe e=some (.lst ys):=by
 A8 bU
 rw[h1,C5,if_pos hl,h]
 rfl
A9 tG(lo:Int)(n:Nat):(dC lo n).length=n:=by A8 dC;rw[B6,M4]
A9 tH{lo:Int}{n k:Nat}{x:D}(h:(dC lo n)[k]?=some x):k<n∧x=.int (lo+k):=by
 A8 dC at h
 rw[C3]at h
 cases q:(E9 n)[k]? with
 | none=>rw[q]at h;cases h
 | some j=>
  rw[q]at h
  A7⟨h1,h2⟩:=B8.mp q
  rw[M4]at h1
  rw[P5]at h2
  subst h2
  ~⟨h1,(E1 h).symm⟩
A9 Dv{lo:Int}{n:Nat}{x:D}(h:x∈dC lo n):∃k:Nat,k<n∧x=.int (lo+k):=by
 A7⟨k,hk,e⟩:=O6 h
 A7⟨a1,a2⟩:=tH (k:=k) (x:=x) (by rw[B4 hk,e])
 ~⟨k,a1,a2⟩
A9 Ml{fs:FA}{e:DE}{n:Int}(h:fs e=some [.int n])(h1:-100000≤n)(h2:n≤100000):iK fs e=some (dC 0 n.toNat):=by
 A8 iK
 rw[h]
 dsimp only[C5]
 rw[if_pos (show lim n=true from decide_eq_true ⟨h1,h2⟩)]
A9 JX{i j:Int}(h1:-18446744073709551616<i)(h2:i<18446744073709551616):uH i j:=.inl ⟨h1,h2⟩
A9 JZ{i j:Int}(h1:-18446744073709551616<j)(h2:j<18446744073709551616):uH i j:=.inr ⟨h1,h2⟩
A9 Mm{i:Nat}{f:FE}{env:EN}{ds:List D}{d:D}(h1:env[i]?=some (.own (.lst ds)))(h2:f (rE env)=some d)(hl:ds.length<100000):sO i qQ f env=.next (env.set i (.own (.lst (ds++[d])))):=by
 A8 sO qQ
 rw[h1,h2]
 dsimp only[pI]
 rw[if_pos hl]
 rfl
end L2


namespace L2
open PySem PySem.Spec PyProof.Rows
section
variable{i j:Nat}{f:FE}{c:FT}{g1 g2 g:GS}{env env':EN}{d:D}{r:SR}{ds:List D}
A9 tK(h:f (rE env)=some d)(hi:i<env.length)(k:g (env.set i (.own d))=r):aR (cX i f) g env=r:=(gB (Fz h hi)).trans k
A9 Uk{b:Bool}(h:c (rE env)=some b)(k1:b=true→aR g1 g env=r)(k2:b=false→aR g2 g env=r):aR (kZ c g1 g2) g env=r:=by
 cases b with
 | true=>have k:=k1 rfl;A8 aR at k ⊢;rw[sX h];~k
 | false=>have k:=k2 rfl;A8 aR at k ⊢;rw[pM h];~k
A9 Mp{b:Bool}(h:c (rE env)=some b)(hb:b=false)(k:aR g2 g env=r):aR (kZ c g1 g2) g env=r:=Uk h (fun z=>by rw[hb]at z;cases z) fun _=>k
A9 Xw{b:Bool}(h:c (rE env)=some b)(hb:b=true)(k:aR g1 g env=r):aR (kZ c g1 g2) g env=r:=Uk h (fun _=>k) (fun z=>by rw[hb]at z;cases z)
A9 Ul(k:g env=r):aR bV g env=r:=k
A9 CV(h:f (rE env)=some d)(k:SR.ret d=r):aR (cA f) g env=r:=(Bc (fM h)).trans k
A9 Ig(h:env[i]?=some (.own d)):mW i env=.ret d:=by A8 mW;rw[h]
A9 Gg{fs:FA}{e:DE}(h:fs e=some ds)(hl:ds.length≤100000):Hx fs e=some (.tup ds):=by A8 Hx cap;rw[h];dsimp only[C5];rw[if_pos hl]
A9 Gh{fs:FA}{e:DE}(h:fs e=some ds)(hl:ds.length≤100000):pB fs e=some (.lst ds):=by A8 pB cap;rw[h];dsimp only[C5];rw[if_pos hl]
A9 yO{e:DE}{z:Int}(h:f e=some (.int z)):Av f e=some (.int (-z)):=by A8 Av;rw[h];rfl
A9 jL{e:DE}{T:String}{d':D}(h:f e=some d)(k:Ao T d=some d'):qR T f e=some d':=by A8 qR;rw[h];~k
A9 Mq{e:DE}{b:Bool}(h:f e=some (.bl b)):Aj f e=some (.bl (!b)):=by A8 Aj;rw[bW h];rfl
A9 Ro{e:DE}{f':FE}(h:f e=some (.bl true))(k:f' e=some d):qD f f' e=some d:=by A8 qD;rw[bW h];~k
A9 Mr{e:DE}{f':FE}{a b:Bool}(h:f e=some (.bl a))(k:f' e=some (.bl b)):qD f f' e=some (.bl (a&&b)):=by
 A8 qD;rw[bW h]
 cases a with
 | true=>~k
 | false=>rfl
A9 yP{e:DE}{c':FT}{a b:Bool}(h:c e=some a)(k:c' e=some b):Fj c c' e=some (a||b):=by
 A8 Fj;rw[h]
 cases a with
 | true=>rfl
 | false=>~k
A9 dG{e:DE}(h:f e=some (.lst ds)):gP f e=some ds:=by A8 gP;rw[h];rfl
A9 tL{e:DE}(h:f e=some (.tup ds)):gP f e=some ds:=by A8 gP;rw[h];rfl
A9 Ih{a b:List D}(h:D.cR (a++b)=true)(hl:a.length+b.length≤100000):fW (.lst a) (.lst b)=some (.lst (a++b)):=by
 show (if D.cR (a++b)=true∧a.length+b.length≤100000 then some (D.lst (a++b))else none)=_
 rw[if_pos ⟨h,hl⟩]
A9 Bf{ds:List D}(h:∀d∈ds,d.cY=true):D.cR ds=true:=by
 induction ds with
 | nil=>A8 D.cR;rfl
 | cons d ds ih=>A8 D.cR;rw[h d C6,ih fun e he=>h e (B9 _ he)];rfl
A9 tM(ns:List Int):(dTup ns).cY=true:=by A8 dTup D.cY;~jJ ns
A9 Ii(h:D.cR ds=true):dList [.lst ds]=some (.lst ds):=by
 show (if D.cR ds=true then some (D.lst ds)else none)=_
 rw[if_pos h]
A9 tO(ns:List Int):gU (ns.map D.int)=some (ns.map DV.int):=by
 induction ns with
 | nil=>A8 gU;rfl
 | cons n ns ih=>rw[C9];A8 gU cO;rw[C5,ih];rfl
A9 Rp(ns ms:List Int):vN (dTup ns) (dTup ms)=some (.bl (decide (ns=ms))):=by
 A8 vN dTup toV
 dsimp only
 A8 cO
 rw[tO,tO]
 dsimp only[Option.map_some]
 rw[if_pos (by A8 DV.depth;rw[rN];decide)]
 congr 2
 rw[G0,lF,decide_eq_true_iff]
 constructor
 ·intro z;injection z with z;~Ko.mp z
 ·intro z;rw[z]
end
end L2
namespace L2
A9 Rq{i:Nat}{e:DE}{d:D}(h:e[i]?=some (some d)):aG i e=some d:=by A8 aG;rw[h];rfl
A9 CW{e:DE}{d:D}:fC d e=some d:=rfl
A9 Ms{e:DE}:aM e=some []:=rfl
end L2
namespace L2
A9 Bg{i:Nat}{fi:FA}{gb:GS}{env:EN}{n:Nat}(I:Nat→EN→Prop)(h:fi (rE env)=some (dC 0 n))(h0:I 0 env)
  (st:∀(k:Nat) env,k<n→I k env→i<env.length∧∃env',gb (env.set i (.fro (.int k)))=.next env'∧I (k+1) env'):∃env',kW i fi gb env=.next env'∧I n env':=by
 A7⟨env',h1,h2⟩:=pL (i:=i) (g:=gb) I (dC 0 n) env 0 h0 fun k x e hx hi=>by
  rw[N1]at hi ⊢
  A7⟨hk,rfl⟩:=tH hx
  rw[P6]
  ~st k e hk hi
 rw[N1,tG]at h2
 ~⟨env',(Mj h).trans h1,h2⟩
end L2


namespace L2
open PySem PySem.Spec PyProof.Rows
def Qs(Pr:SR→Prop)(r:SR):Prop:=Pr r
section
variable{i j:Nat}{f:FE}{c:FT}{g1 g2 g gb:GS}{env env':EN}{d:D}{ds:List D}{Pr:SR→Prop}
A9 KC{r:SR}(h:Qs Pr r):Pr r:=h
A9 eU(h:f (rE env)=some d)(hi:i<env.length)(k:Qs Pr (g (env.set i (.own d)))):Qs Pr (aR (cX i f) g env):=by rw[gB (Fz h hi)];~k
A9 KD(h:g1 env=.next env')(k:Qs Pr (g env')):Qs Pr (aR g1 g env):=by rw[gB h];~k
A9 nD(k:Qs Pr (g env)):Qs Pr (aR bV g env):=k
A9 Rr{b:Bool}(h:c (rE env)=some b)(k1:b=true→Qs Pr (aR g1 g env))(k2:b=false→Qs Pr (aR g2 g env)):Qs Pr (aR (kZ c g1 g2) g env):=by
 cases b with
 | true=>have k:=k1 rfl;A8 aR at k ⊢;rw[sX h];~k
 | false=>have k:=k2 rfl;A8 aR at k ⊢;rw[pM h];~k
A9 CZ{b:Bool}(h:c (rE env)=some b)(k1:b=true→Qs Pr (g1 env))(k2:b=false→Qs Pr (g2 env)):Qs Pr (kZ c g1 g2 env):=by
 cases b with
 | true=>rw[sX h];~k1 rfl
 | false=>rw[pM h];~k2 rfl
A9 kY{b:Bool}(h:c (rE env)=some b)(hb:b=false)(k:Qs Pr (aR g2 g env)):Qs Pr (aR (kZ c g1 g2) g env):=Rr h (fun z=>by rw[hb]at z;cases z) fun _=>k
A9 Mt{b:Bool}(h:c (rE env)=some b)(hb:b=false)(k:Qs Pr (g2 env)):Qs Pr (kZ c g1 g2 env):=CZ h (fun z=>by rw[hb]at z;cases z) fun _=>k
A9 DG(h:f (rE env)=some d)(k:Pr (.ret d)):Qs Pr (aR (cA f) g env):=by rw[Bc (fM h)];~k
A9 lN(h:f (rE env)=some d)(k:Pr (.ret d)):Qs Pr (cA f env):=by rw[fM h];~k
A9 Dw(h:env[i]?=some (.own d))(k:Pr (.ret d)):Qs Pr (mW i env):=by rw[Ig h];~k
A9 DK(h1:env[i]?=some (.own (.lst ds)))(h2:f (rE env)=some d)(hl:ds.length<100000)(k:Qs Pr (g (env.set i (.own (.lst (ds++[d])))))):Qs Pr (aR (sO i qQ f) g env):=by rw[gB (Mm h1 h2 hl)];~k
A9 Dy(h1:env[i]?=some (.own (.lst ds)))(h2:f (rE env)=some d)(hl:ds.length<100000)(k:Pr (.next (env.set i (.own (.lst (ds++[d])))))):Qs Pr (sO i qQ f env):=by rw[Mm h1 h2 hl];~k
A9 yQ{fi:FA}{n:Nat}(I:Nat→EN→Prop)(h:fi (rE env)=some (dC 0 n))(h0:I 0 env)
  (st:∀(k:Nat) env,k<n→I k env→i<env.length∧Qs (fun r=>∃env',r=.next env'∧I (k+1) env') (gb (env.set i (.fro (.int k))))) (k:∀env',I n env'→Qs Pr (g env')):Qs Pr (aR (kW i fi gb) g env):=by
 A7⟨env',h1,h2⟩:=Bg (gb:=gb) I h h0 fun k env hk hi=>⟨(st k env hk hi).1,let ⟨e,a,b⟩:=(st k env hk hi).2;⟨e,a,b⟩⟩
 rw[gB h1]
 ~k env' h2
A9 Mu{fi:FA}{n:Nat}(I:Nat→EN→Prop)(h:fi (rE env)=some (dC 0 n))(h0:I 0 env)
  (st:∀(k:Nat) env,k<n→I k env→i<env.length∧Qs (fun r=>∃env',r=.next env'∧I (k+1) env') (gb (env.set i (.fro (.int k))))) (k:∀env',I n env'→Pr (.next env')):Qs Pr (kW i fi gb env):=by
 A7⟨env',h1,h2⟩:=Bg (gb:=gb) I h h0 fun k env hk hi=>⟨(st k env hk hi).1,let ⟨e,a,b⟩:=(st k env hk hi).2;⟨e,a,b⟩⟩
 rw[h1]
 ~k env' h2
A9 Mv{js:List Nat}{fi:FA}{pH:EN}{xs:List D}(I:Nat→EN→Prop)(hf:oX js env=pH)(h:fi (zE pH)=some xs)(h0:I 0 pH)
  (st:∀(k:Nat) x env,xs[k]?=some x→I k env→i<env.length∧Qs (fun r=>∃env',r=.next env'∧I (k+1) env') (gb (env.set i (.fro x)))) (k:∀env',I xs.length env'→Qs Pr (g env')):Qs Pr (aR (yE js i fi gb) g env):=by
 A7⟨env',h1,h2⟩:=pL (i:=i) (g:=gb) I xs pH 0 h0 fun k x e hx hi=>by
  rw[N1]at hi ⊢
  ~⟨(st k x e hx hi).1,let ⟨e,a,b⟩:=(st k x e hx hi).2;⟨e,a,b⟩⟩
 rw[N1]at h2
 rw[gB ((Rk hf h).trans h1)]
 ~k env' h2
A9 gK{n m:Nat}{Pd:D→Prop}(hl:ds.length=m)(h:Qs (fun r=>∃d,r=.ret d∧Pd d) (g (ds.map SD.fro++D7 (n-m) SD.no))):∃d,fV n m g ds=some d∧Pd d:=by
 A7⟨d,h1,h2⟩:=h
 ~⟨d,fP hl h1,h2⟩
A9 oG{fs:FA}{e:DE}{n:Nat}(h:fs e=some [.int (n:Int)])(hn:n≤100000):iK fs e=some (dC 0 n):=by
 rw[Ml h A3 A3,G9]
end
end L2
namespace L2
A9 Dz{fi:FA}{fr:List Nat}{fe:FE}{e:DE}{n:Nat}{φ:Nat→D}(h1:fi e=some (dC 0 n))(hn:n≤1000)(he:∀k:Nat,k<n→fe (some (.int k)::kI e fr)=some (φ k)):bU fi fr cV fe e=some (.lst ((E9 n).map φ)):=by
 &Be h1 (by rw[tG];omega) ?_
 &(wC (c:=fun x=>cV (some x::kI e fr)) (φ:=fun x=>match x with | .int i=>φ i.toNat | d=>d) (fun _ _=>rfl) ?_).trans ?_
 rotate_left
 ·congr 1
  A8 dC
  rw[G2]
  apply O9
  intro k _
  show φ ((0:Int)+(k:Int)).toNat=φ k
  rw[P6,G9]
 ·intro x hx
  A7⟨k,hk,rfl⟩:=Dv hx
  rw[P6]
  show _=some (φ ((k:Int)).toNat)
  rw[G9]
  ~he k hk
A9 bY{fi:FA}{fr:List Nat}{fe:FE}{e:DE}{α:Type}{xs:List α}{ψ φ:α→D}(h1:fi e=some (xs.map ψ))(hn:xs.length≤1000)(he:∀x∈xs,fe (some (ψ x)::kI e fr)=some (φ x)):bU fi fr cV fe e=some (.lst (xs.map φ)):=by
 &Be h1 (by rw[B6];omega) ?_
 clear h1 hn
 induction xs with
 | nil=>rw[G1,G1];A8 kJ;rfl
 | cons x xs ih=>
  rw[C9]
  A8 kJ
  show (some true).bind _=_
  rw[C5,if_pos rfl,he x C6,C5,ih fun y hy=>he y (B9 _ hy)]
  rfl
A9 Xx{b:Bool}{f:FE}{l h:FO}{e:DE}{ds:List D}{lo hi:Option Int}(h1:f e=some (.lst ds))(h2:l e=some lo)(h3:h e=some hi)(h4:b=false∨D.cR (uP ds lo hi)=true):Yn b f l h e=some (.lst (uP ds lo hi)):=by
 A8 Yn
 rw[h1,h2,h3]
 dsimp only[C5]
 rw[if_pos h4]
end L2


namespace L2
open PySem PySem.Spec PyProof.Rows
section
variable{i j:Nat}{f:FE}{c:FT}{g1 g2 g gb:GS}{env env':EN}{d:D}{ds:List D}{Pr:SR→Prop}
A9 Rt{x:D}(h:ds.getLast?=some x):sG (.lst ds) (.int (-1))=some x:=Rm h
A9 Bh{α:Type}(l:List α):uP l none (some (-1))=l.dropLast:=by
 A8 uP
 show (l.drop 0).take (HT.vH l.length l.length (some (-1))-0)=_
 have:HT.vH l.length l.length (some (-1))=l.length-1:=by
  show (if(-1:Int)<0 then((-1:Int)+(l.length:Int)).toNat else min (-1:Int).toNat l.length)=_
  rw[if_pos A5]
  omega
 rw[this,List.drop_zero,Nat.sub_zero,List.dropLast_eq_take]
end
end L2
namespace L2
end L2
namespace L2
end L2


namespace L2
open PySem PySem.Spec PyProof.Rows
A9 qF(ns:List Int):pF [cI ns]=some (dTup ns):=by
 A8 pF
 dsimp only
 rw[show lJ (cI ns)=some (ns.map D.int)from by A8 cI lJ;rfl,C5,if_pos (jJ _)]
 rfl
structure GP where
 DN:Int
 place:Int
 thing:List Int
 needs:List Int
 deriving Inhabited
def SJ(c:GP):D:=.tup [.int c.DN,.int c.place,dTup c.thing,dTup c.needs]
abbrev at_(cs:List GP)(k:Nat):GP:=cs.getD k default
A9 Gi(c:GP):sG (SJ c) (.int 0)=some (.int c.DN):=Rn A5 rfl
end L2
namespace L2
end L2
namespace L2
end L2


namespace L2
open PySem PySem.Spec PyProof.Rows
A9 Ru{e:DE}{f f':FE}{a b:Bool}(h:f e=some (.bl a))(k:f' e=some (.bl b)):Hz f f' e=some (.bl (a||b)):=by
 A8 Hz;rw[bW h]
 cases a with
 | true=>rfl
 | false=>~k
A9 tQ{α:Type}(p:α→Bool)(l:List α):Df [.lst (l.map fun x=>D.bl (p x))]=some (.bl (l.all p)):=by
 show (mV (l.map fun x=>D.bl (p x))).map _=_
 rw[vR]
 show some (D.bl ((l.map p).all id))=_
 rw[List.all_map]
 rfl
end L2


namespace L2
open PySem PySem.Spec PyProof.Rows
section
variable{i j:Nat}{f f':FE}{c:FT}{g1 g2 g gb:GS}{env env':EN}{d d0 d' r:D}{ds:List D}{Pr:SR→Prop}{v:V}{π:FP}{p:List Step}
A9 Mw(h1:env[i]?=some (.own d0))(h2:π (rE env)=some p)(h3:pI p d0=some (.lst ds)):pK i π env=.next (env.set i (.own (pJ p d0 (.lst [])))):=by
 A8 pK
 rw[h1,h2]
 dsimp only
 rw[h3]
A9 Um{f g:FE}{e:DE}(h:c e=some true)(h2:f e=some d):Ua c f g e=some d:=by A8 Ua;rw[h];~h2
A9 Uo{f g:FE}{e:DE}(h:c e=some false)(h2:g e=some d):Ua c f g e=some d:=by A8 Ua;rw[h];~h2
end
end L2


local macro_rules | `(tactic| walk_at "fs")=>`(tactic| ~⟨rfl,rfl,rfl,by decide +kernel,rfl,by decide +kernel,by decide +kernel⟩)
namespace Rs
open PySem L2
def top(i:Nat):Stmt:=PySem.Challenge.pw_ripestone_k54_stones_written.main.body.getD i (.Pass ⟨0,0,0,0⟩)
abbrev tR:Stmt:=top 25
noncomputable def Bj:GS:=aR (kZ (fB (f2 vN (fL eE (aC (aG 0) aM)) (fC (.int 0)))) (cA (fC (.int 0))) bV)
 (aR (cX 2 (f2 uO (aG 1) (fL eE (aC (aG 0) aM))))
 (aR (cX 3 (f2 fW (fC (.int 48271)) (f2 rW (f2 rW (fC (.int 7919)) (aG 2)) (aG 2))))
 (aR (cX 4 (f2 fW (f2 rW (f2 sG (aG 0) (f2 gO (aG 1) (fL eE (aC (aG 0) aM)))) (aG 3)) (f2 rW (f2 rW (aG 1) (aG 1)) (fC (.int 104729)))))
 (aR (cX 4 (f2 gO (aG 4) (fC (.int 2147483647))))
 (cA (f2 gO (f2 rW (aG 4) (aG 4)) (fC (.int 2147483629))))))))
noncomputable def eN:List D→Option D:=fV 5 2 (Bj)
abbrev nF:Stmt:=top 31
noncomputable def tU:GS:=aR (cX 2 (bJ 2 eN (aC (aG 0) (aC (aG 1) aM))))
 (aR (cX 3 (f2 gO (f2 uO (aG 2) (fC (.int 8))) (fC (.int 12))))
 (aR (kZ (fB (f2 vN (f2 gO (aG 2) (fC (.int 8))) (fC (.int 0)))) (cX 3 (Ua (fB (f2 JC (aG 2) (fC (.int 0)))) (f2 gO (f2 fW (f2 Ah (aG 2) (fC (.int 6))) (f2 gO (f2 sG (aG 0) (f2 gO (aG 1) (fL eE (aC (aG 0) aM)))) (f2 Ah (fC (.int 10)) (fC (.int 57))))) (f2 Ah (fC (.int 10)) (fC (.int 57)))) (fC (.int 0)))) bV)
 (aR (kZ (fB (f2 vN (f2 gO (aG 2) (fC (.int 8))) (fC (.int 1)))) (cX 3 (f2 De (f2 De (f2 Ah (fC (.int 10)) (fC (.int 60))) (fC (.int 1))) (f2 gO (f2 uO (aG 2) (fC (.int 8))) (fC (.int 1000))))) bV)
 (aR (kZ (fB (f2 vN (f2 gO (f2 uO (aG 2) (fC (.int 96))) (fC (.int 3))) (fC (.int 0)))) (cA (Av (aG 3))) bV)
 (mW 3)))))
noncomputable def cH:List D→Option D:=fV 4 2 (tU)
abbrev oH:Stmt:=top 32
noncomputable def Bk:GS:=aR (cX 3 (pB aM))
 (aR (kW 4 (iK (aC (aG 1) aM)) (aR (cX 5 (pB aM))
 (aR (kW 6 (iK (aC (aG 2) aM)) (aR (cX 7 (f2 fW (fC (.int 20)) (f2 rW (fC (.int 5)) (f2 fW (f2 rW (aG 4) (aG 2)) (aG 6)))))
 (sO 5 qQ (fL pF (aC (bU (iK (aC (fC (.int 5)) aM)) [0,7] cV (bJ 2 cH (aC (aG 1) (aC (f2 fW (aG 2) (aG 0)) aM)))) aM)))))
 (aR (sO 5 qQ (Hx (aC (bJ 2 cH (aC (aG 0) (aC (f2 fW (fC (.int 10)) (aG 4)) aM))) aM)))
 (wB 3 5)))))
 (mW 3))
noncomputable def lO:List D→Option D:=fV 8 3 (Bk)
abbrev oJ:Stmt:=top 33
noncomputable def Bl:GS:=aR (cX 1 (pB aM))
 (aR (yE [] 2 (gP (aG 0)) (aR (cX 3 (pB aM))
 (aR (yE [2] 4 (gP (aG 2)) (sO 3 qQ (f2 nZ (fC (.str ",")) (bU (gP (aG 4)) [] cV (fL vY (aC (aG 0) aM))))))
 (sO 1 qQ (f2 nZ (fC (.str " ")) (aG 3))))))
 (cA (f2 nZ (fC (.str ";")) (aG 1))))
noncomputable def lQ:List D→Option D:=fV 5 1 (Bl)
abbrev jM:Stmt:=top 16
noncomputable def oK:GS:=cA (fL vY (aC (aG 0) aM))
noncomputable def fZ:List D→Option D:=fV 1 1 (oK)
abbrev gY:Stmt:=top 18
noncomputable def qG:GS:=cA (f2 nZ (fC (.str ",")) (bU (gP (aG 0)) [] cV (bJ 1 fZ (aC (aG 0) aM))))
noncomputable def gZ:List D→Option D:=fV 1 1 (qG)
abbrev jN:Stmt:=top 19
noncomputable def tV:GS:=cA (f2 nZ (fC (.str " ")) (bU (gP (aG 0)) [] cV (bJ 1 gZ (aC (aG 0) aM))))
noncomputable def jO:List D→Option D:=fV 1 1 (tV)
abbrev iB:Stmt:=top 20
noncomputable def qH:GS:=cA (f2 nZ (fC (.str ";")) (bU (gP (aG 0)) [] cV (bJ 1 jO (aC (aG 0) aM))))
noncomputable def iC:List D→Option D:=fV 1 1 (qH)
abbrev mH:Stmt:=top 15
noncomputable def wD:GS:=aR (cX 1 (Ua (fB (f2 yK (aG 0) (fC (.str "-")))) (Rc (aG 0) (yC (fC (.int 1))) (Di)) (Hw (aG 0))))
 (aR (kZ (fY (Dq Fi Fi (fC (.int 1)) (fL vX (aC (aG 1) aM)) (fC (.int (60))))) (cA (fC (.bl false))) bV)
 (aR (kZ (fY (fB (fL Df (aC (bU (Mh (aG 1)) [] cV (f2 Lz (aG 0) (fC (.str "0123456789")))) aM)))) (cA (fC (.bl false))) bV)
 (cA (Hz (f2 Hy (f2 Ie (aG 1) (fC (.int 0))) (fC (.str "0"))) (f2 vN (aG 0) (fC (.str "0")))))))
noncomputable def iQ:List D→Option D:=fV 2 1 (wD)
abbrev lR:Stmt:=top 17
noncomputable def qI:GS:=aR (kZ (Fj (fY (fB (Dr (aG 0)))) (fY (fB (bJ 1 iQ (aC (aG 0) aM))))) Lx bV)
 (cA (fL Ma (aC (aG 0) aM)))
noncomputable def iD:List D→Option D:=fV 1 1 (qI)
abbrev jP:Stmt:=top 21
noncomputable def tW:GS:=aR (cX 2 (bU (gP (f2 jK (aG 0) (fC (.str ",")))) [] cV (bJ 1 iD (aC (aG 0) aM))))
 (aR (kZ (fB (f2 Hy (fL eE (aC (aG 2) aM)) (aG 1))) Lx bV)
 (cA (fL pF (aC (aG 2) aM))))
noncomputable def eY:List D→Option D:=fV 3 2 (tW)
abbrev mJ:Stmt:=top 22
noncomputable def wF:GS:=aR (cX 1 (f2 jK (aG 0) (fC (.str " "))))
 (aR (cX 2 (bU (gP (Yn false (aG 1) (Di) (yC (Av (fC (.int 1)))))) [] cV (bJ 2 eY (aC (aG 0) (aC (fL eE (aC (fC (dTup [0,0,-1,-1,0])) aM)) aM)))))
 (cA (f2 fW (aG 2) (pB (aC (bJ 2 eY (aC (f2 sG (aG 1) (Av (fC (.int 1)))) (aC (fL eE (aC (fC (dTup [0])) aM)) aM))) aM)))))
noncomputable def iR:List D→Option D:=fV 3 1 (wF)
abbrev oM:Stmt:=top 6
noncomputable def Gj:GS:=aR (kZ (Fj (fY (fB (qR "list" (aG 0)))) (fY (Dq Fi Fi (fC (.int 1)) (fL eE (aC (aG 0) aM)) (fC (.int 8))))) (cA (fC (.bl false))) bV)
 (aR (kZ (fY (fB (fL Df (aC (bU (gP (aG 0)) [] cV (qR "list" (aG 0))) aM)))) (cA (fC (.bl false))) bV)
 (cA (qD (Rg Fi Fi (fC (.int 2)) (fL eE (aC (f2 sG (aG 0) (fC (.int 0))) aM)) (fC (.int 9))) (fL Df (aC (bU (gP (aG 0)) [0] cV (f2 vN (fL eE (aC (aG 0) aM)) (fL eE (aC (f2 sG (aG 1) (fC (.int 0))) aM)))) aM)))))
noncomputable def oO:List D→Option D:=fV 1 1 (Gj)
abbrev jQ:Stmt:=top 23
noncomputable def tX:GS:=aR (kZ (fY (fB (Dr (aG 0)))) Lx bV)
 (aR (cX 1 (bU (gP (f2 jK (aG 0) (fC (.str ";")))) [] cV (bJ 1 iR (aC (aG 0) aM))))
 (aR (kZ (fY (fB (bJ 1 oO (aC (aG 1) aM)))) Lx bV)
 (mW 1)))
noncomputable def fD:List D→Option D:=fV 2 1 (tX)
abbrev pO:Stmt:=top 27
noncomputable def wG:GS:=cA (qD (qR "int" (aG 0)) (Aj (qR "bool" (aG 0))))
noncomputable def mK:List D→Option D:=fV 1 1 (wG)
abbrev pP:Stmt:=top 28
noncomputable def wH:GS:=aR (kZ (Fj (fY (fB (qR "tuple" (aG 0)))) (fB (f2 Hy (fL eE (aC (aG 0) aM)) (fL eE (aC (aG 1) aM))))) (cA (fC (.bl false))) bV)
 (aR (yE [] 2 (gP (aG 0)) (kZ (fY (fB (bJ 1 mK (aC (aG 2) aM)))) (cA (fC (.bl false))) bV))
 (cA (f2 vN (aG 0) (aG 1))))
noncomputable def iT:List D→Option D:=fV 3 2 (wH)
abbrev pQ:Stmt:=top 30
noncomputable def wI:GS:=aR (kZ (Fj (fY (fB (qR "list" (aG 0)))) (fB (f2 Hy (fL eE (aC (aG 0) aM)) (fL eE (aC (aG 1) aM))))) (cA (fC (.bl false))) bV)
 (aR (kW 2 (iK (aC (fL eE (aC (aG 1) aM)) aM)) (aR (kZ (Fj (fY (fB (qR "list" (f2 sG (aG 0) (aG 2))))) (fB (f2 Hy (fL eE (aC (f2 sG (aG 0) (aG 2)) aM)) (fL eE (aC (f2 sG (aG 1) (aG 2)) aM))))) (cA (fC (.bl false))) bV)
 (kW 3 (iK (aC (fL eE (aC (f2 sG (aG 1) (aG 2)) aM)) aM)) (kZ (fY (fB (bJ 2 iT (aC (f2 sG (f2 sG (aG 0) (aG 2)) (aG 3)) (aC (f2 sG (f2 sG (aG 1) (aG 2)) (aG 3)) aM))))) (cA (fC (.bl false))) bV))))
 (cA (fC (.bl true))))
noncomputable def fG:List D→Option D:=fV 4 2 (wI)
abbrev Rw:Stmt:=top 34
noncomputable def DP:GS:=aR (cX 1 (f2 fW (fC (.int 1)) (f2 gO (bJ 2 eN (aC (aG 0) (aC (fC (.int 0)) aM))) (fC (.int 8)))))
 (aR (cX 2 (f2 fW (fC (.int 1)) (f2 gO (bJ 2 eN (aC (aG 0) (aC (fC (.int 1)) aM))) (fC (.int 8)))))
 (aR (cX 3 (bJ 3 lO (aC (aG 0) (aC (aG 1) (aC (aG 2) aM)))))
 (aR (cX 4 (bU (gP (aG 3)) [] cV (fL dList (aC (aG 0) aM))))
 (aR (cX 5 (bJ 1 lQ (aC (aG 3) aM)))
 (aR (cX 6 (bJ 1 iC (aC (aG 4) aM)))
 (aR (kZ (Fj (fY (fB (Dr (aG 6)))) (Fj (fB (f2 Hy (aG 6) (aG 5))) (fY (fB (bJ 2 fG (aC (aG 4) (aC (aG 3) aM))))))) (cA (fC (.bl false))) bV)
 (aR (cX 7 (bJ 1 fD (aC (aG 5) aM)))
 (aR (kZ (fY (fB (bJ 2 fG (aC (aG 7) (aC (aG 3) aM))))) (cA (fC (.bl false))) bV)
 (aR (pK 7 (BW qQ (f2 gO (bJ 2 eN (aC (aG 0) (aC (fC (.int 2)) aM))) (aG 1))))
 (cA (bJ 2 fG (aC (bJ 1 fD (aC (aG 5) aM)) (aC (aG 3) aM)))))))))))))
noncomputable def Xy:List D→Option D:=fV 8 1 (DP)
section
variable{P:Program}{w:World}{K:aA}{mg:Str→Option Value}{base:Heap}
A9 iU:bA ["script", "k", "turn", "factor", "mixed"] ["script", "k"] (aF tR):=by walk_at "fs"
A9 Ea(R:Raw K mg "_law_draw" tR) (cP:mg "len" = none):jF P w K mg base "_law_draw" 1 2 (kO K 2 eN):=by
 &R.lK iU (fun _ _ _ _ _ _ us hl=>match us,hl with | [_,_],_=>rfl) (fun _ _ _ _ _ _ _ hr=>?_)
 have dU:=hr.units
 have hu:=eQ hr
 ~⟨_,aK (eG (iI (or_eq dU rfl) sE (XN.r (cU cD (cF rfl) rfl cP C4 (aD (aJ (pv 0)) aL))) (XN.r (aO)) (dX _)) (aQ (bC aO)) cG)
  (aK (bQ (i:=2) (xU (aJ (pv 1)) (XN.r (cU cD (cF rfl) rfl cP C4 (aD (aJ (pv 0)) aL)))) (fun h=>bO iU.nd rfl (by first | ~D5 rfl | ~D3 rfl) h))
  (aK (bQ (i:=3) (fK (XN.r (aO)) (XN.r (lH (XN.r (lH (XN.r (aO)) (aJ (pv 2)))) (aJ (pv 2))))) (fun h=>bO iU.nd rfl (by first | ~D5 rfl | ~D3 rfl) h))
  (aK (bQ (i:=4) (fK (XN.r (lH (iJ (aJ (pv 0)) (XN.r (dZ (aJ (pv 1)) (XN.r (cU cD (cF rfl) rfl cP C4 (aD (aJ (pv 0)) aL))))) (fun _ _=>rfl)) (aJ (pv 3)))) (XN.r (lH (XN.r (lH (aJ (pv 1)) (aJ (pv 1)))) (XN.r (aO))))) (fun h=>bO iU.nd rfl (by first | ~D5 rfl | ~D3 rfl) h))
  (aK (bQ (i:=4) (dZ (aJ (pv 4)) (XN.r (aO))) (fun h=>bO iU.nd rfl (by first | ~D5 rfl | ~D3 rfl) h))
  (aQ (bC (dZ (XN.r (lH (aJ (pv 4)) (aJ (pv 4)))) (XN.r (aO)))))))))⟩
A9 fQ:bA ["script", "k", "some", "number"] ["script", "k"] (aF nF):=by walk_at "fs"
A9 yR(R:Raw K mg "_law_number" nF) (fU:jF P w K mg base "_law_draw" 1 2 (kO K 2 eN)) (cP:mg "len" = none):jF P w K mg base "_law_number" 2 2 (kO K 2 cH):=by
 &R.lK fQ (fun _ _ _ _ _ _ us hl=>match us,hl with | [_,_],_=>rfl) (fun _ _ _ _ _ _ _ hr=>?_)
 have dU:=hr.units
 have hu:=eQ hr
 ~⟨_,aK (bQ (i:=2) (bF fU (hr.mono A5) rfl (aD (aJ (pv 0)) (aD (aJ (pv 1)) aL))) (fun h=>bO fQ.nd rfl (by first | ~D5 rfl | ~D3 rfl) h))
  (aK (bQ (i:=3) (dZ (XN.r (xU (aJ (pv 2)) (XN.r (aO)))) (XN.r (aO))) (fun h=>bO fQ.nd rfl (by first | ~D5 rfl | ~D3 rfl) h))
  (aK (eG (iI (or_eq dU rfl) sE (XN.r (dZ (aJ (pv 2)) (XN.r (aO)))) (XN.r (aO)) (dX _)) (aQ (bQ (i:=3) (Ub (iI Zg nA (aJ (pv 2)) (XN.r (aO)) (dX _)) (dZ (XN.r (fK (XN.r (xV (aJ (pv 2)) (XN.r (aO)))) (XN.r (dZ (iJ (aJ (pv 0)) (XN.r (dZ (aJ (pv 1)) (XN.r (cU cD (cF rfl) rfl cP C4 (aD (aJ (pv 0)) aL))))) (fun _ _=>rfl)) (XN.r (xV (XN.r (aO)) (XN.r (aO)))))))) (XN.r (xV (XN.r (aO)) (XN.r (aO))))) aO) (fun h=>bO fQ.nd rfl (by first | ~D5 rfl | ~D3 rfl) h))) cG)
  (aK (eG (iI (or_eq dU rfl) sE (XN.r (dZ (aJ (pv 2)) (XN.r (aO)))) (XN.r (aO)) (dX _)) (aQ (bQ (i:=3) (Kz (XN.r (Kz (XN.r (xV (XN.r (aO)) (XN.r (aO)))) (XN.r (aO)))) (XN.r (dZ (XN.r (xU (aJ (pv 2)) (XN.r (aO)))) (XN.r (aO))))) (fun h=>bO fQ.nd rfl (by first | ~D5 rfl | ~D3 rfl) h))) cG)
  (aK (eG (iI (or_eq dU rfl) sE (XN.r (dZ (XN.r (xU (aJ (pv 2)) (XN.r (aO)))) (XN.r (aO)))) (XN.r (aO)) (dX _)) (aQ (bC (yH (aJ (pv 3))))) cG)
  (aQ (yD (pv 3)))))))⟩
A9 gD:bA ["script", "panes", "rows", "stone", "pane", "things", "place", "at"] ["script", "panes", "rows"] (aF oH):=by walk_at "fs"
A9 Eb(R:Raw K mg "_law_made" oH) (jR:jF P w K mg base "_law_number" 2 2 (kO K 2 cH)) (jT:mg "range" = none) (jU:mg "tuple" = none):jF P w K mg base "_law_made" 3 3 (kO K 3 lO):=by
 &R.lK gD (fun _ _ _ _ _ _ us hl=>match us,hl with | [_,_,_],_=>rfl) (fun _ _ _ _ _ _ _ hr=>?_)
 have dU:=hr.units
 have hu:=eQ hr
 ~⟨_,aK (bQ (i:=3) (xY sH) (fun h=>bO gD.nd rfl (by first | ~D5 rfl | ~D3 rfl) h))
  (aK (qZ PassesOwn.never rfl (mD rfl jT (aD (aJ (pv 1)) aL)) (gQ (i:=4) gD.nd rfl (by first | ~D5 rfl | ~D3 rfl)) (aK (bQ (i:=5) (xY sH) (fun h=>bO gD.nd rfl (by first | ~D5 rfl | ~D3 rfl) h))
  (aK (qZ PassesOwn.never rfl (mD rfl jT (aD (aJ (pv 2)) aL)) (gQ (i:=6) gD.nd rfl (by first | ~D5 rfl | ~D3 rfl)) (aK (bQ (i:=7) (fK (XN.r (aO)) (XN.r (lH (XN.r (aO)) (XN.r (fK (XN.r (lH (aJ (pv 4)) (aJ (pv 2)))) (aJ (pv 6))))))) (fun h=>bO gD.nd rfl (by first | ~D5 rfl | ~D3 rfl) h))
  (aQ (yF (Ln (pv 5)) (vQ Ak (Al rfl) rfl jU J9 (aD (XN.r (gW ["j", "script", "at"] [0,7] rfl (.at (aF oH) ["script", "panes", "rows", "stone", "pane", "things", "place", "at"] A4) (Ib rfl jT (aD (XN.r (aO)) aL)) (dH A4 rfl rfl) (fun _ _ _ _ _=>dJ) (fun _ _ _ _ _=>bF jR (hr.mono A5) rfl (aD (aJ (pv 1)) (aD (XN.r (fK (aJ (pv 2)) (aJ (pv 0)))) aL))))) aL)) (fun a b=>lZ (gG F1 G3 G4 gA a (bD b cB)))))))
  (aK (yF (Ln (pv 5)) (Wu (Qm (bF jR (hr.mono A5) rfl (aD (aJ (pv 0)) (aD (XN.r (fK (XN.r (aO)) (aJ (pv 4)))) aL))) sH)) (fun a b=>lZ (gG F1 G3 G4 gA a (bD b cB))))
  (aQ (Rj (pv 3) (pv 5) (fun a b=>lZ (gG F1 G3 G4 gA a (bD b cB)))))))))
  (aQ (yD (pv 3))))⟩
A9 iV:bA ["stone", "panes", "pane", "words", "thing"] ["stone"] (aF oJ):=by walk_at "fs"
A9 Ec(R:Raw K mg "_law_text" oJ) (nG:mg "str" = none):jF P w K mg base "_law_text" 1 1 (kO K 1 lQ):=by
 &R.lK iV (fun _ _ _ _ _ _ us hl=>match us,hl with | [_],_=>rfl) (fun _ _ _ _ _ _ _ hr=>?_)
 have dU:=hr.units
 have hu:=eQ hr
 ~⟨_,aK (bQ (i:=1) (xY sH) (fun h=>bO iV.nd rfl (by first | ~D5 rfl | ~D3 rfl) h))
  (aK (Dm [] PassesOwn.never rfl (eV (aJ (pv 0))) (gQ (i:=2) iV.nd rfl (by first | ~D5 rfl | ~D3 rfl)) (aK (bQ (i:=3) (xY sH) (fun h=>bO iV.nd rfl (by first | ~D5 rfl | ~D3 rfl) h))
  (aK (Dm [2] PassesOwn.never rfl (eV (aJ (pv 2))) (gQ (i:=4) iV.nd rfl (by first | ~D5 rfl | ~D3 rfl)) (aQ (yF (Ln (pv 3)) (mG (XN.r (Dd)) (XN.r (gW ["number"] [] rfl (.at (aF oJ) ["stone", "panes", "pane", "words", "thing"] A4) (eV (aJ (pv 4))) (dH A4 rfl rfl) (fun _ _ _ _ _=>dJ) (fun _ _ _ _ _=>vQ Fy nQ rfl nG G7 (aD (aJ (pv 0)) aL)))) (fun a b=>gG D1 F8 F9 mF a (bD b cB))) (fun a b=>lZ (gG F1 G3 G4 gA a (bD b cB))))))
  (aQ (yF (Ln (pv 1)) (mG (XN.r (Dd)) (aJ (pv 3)) (fun a b=>gG D1 F8 F9 mF a (bD b cB))) (fun a b=>lZ (gG F1 G3 G4 gA a (bD b cB))))))))
  (aQ (bC (mG (XN.r (Dd)) (aJ (pv 1)) (fun a b=>gG D1 F8 F9 mF a (bD b cB))))))⟩
A9 uR:bA ["number"] ["number"] (aF jM):=by walk_at "fs"
A9 tY(R:Raw K mg "write_number" jM) (nG:mg "str" = none):jF P w K mg base "write_number" 1 1 (kO K 1 fZ):=by
 &R.lK uR (fun _ _ _ _ _ _ us hl=>match us,hl with | [_],_=>rfl) (fun _ _ _ _ _ _ _ hr=>?_)
 have dU:=hr.units
 have hu:=eQ hr
 ~⟨_,aQ (bC (vQ Fy nQ rfl nG G7 (aD (aJ (pv 0)) aL)))⟩
A9 yS:bA ["thing"] ["thing"] (aF gY):=by walk_at "fs"
A9 uT(R:Raw K mg "write_thing" gY) (jV:jF P w K mg base "write_number" 1 1 (kO K 1 fZ)) (bL:fO mg "BETWEEN_NUMBERS" ","):jF P w K mg base "write_thing" 2 1 (kO K 1 gZ):=by
 &R.lK yS (fun _ _ _ _ _ _ us hl=>match us,hl with | [_],_=>rfl) (fun _ _ _ _ _ _ _ hr=>?_)
 have dU:=hr.units
 have hu:=eQ hr
 ~⟨_,aQ (bC (mG (XN.r (mX bL rfl)) (XN.r (gW ["number"] [] rfl (.at (aF gY) ["thing"] A4) (eV (aJ (pv 0))) (dH A4 rfl rfl) (fun _ _ _ _ _=>dJ) (fun _ _ _ _ _=>bF jV (hr.mono A5) rfl (aD (aJ (pv 0)) aL)))) (fun a b=>gG D1 F8 F9 mF a (bD b cB))))⟩
A9 Bm:bA ["pane"] ["pane"] (aF jN):=by walk_at "fs"
A9 yU(R:Raw K mg "write_pane" jN) (lU:jF P w K mg base "write_thing" 2 1 (kO K 1 gZ)) (bZ:fO mg "BETWEEN_THINGS" " "):jF P w K mg base "write_pane" 3 1 (kO K 1 jO):=by
 &R.lK Bm (fun _ _ _ _ _ _ us hl=>match us,hl with | [_],_=>rfl) (fun _ _ _ _ _ _ _ hr=>?_)
 have dU:=hr.units
 have hu:=eQ hr
 ~⟨_,aQ (bC (mG (XN.r (mX bZ rfl)) (XN.r (gW ["thing"] [] rfl (.at (aF jN) ["pane"] A4) (eV (aJ (pv 0))) (dH A4 rfl rfl) (fun _ _ _ _ _=>dJ) (fun _ _ _ _ _=>bF lU (hr.mono A5) rfl (aD (aJ (pv 0)) aL)))) (fun a b=>gG D1 F8 F9 mF a (bD b cB))))⟩
A9 yV:bA ["stone"] ["stone"] (aF iB):=by walk_at "fs"
A9 uU(R:Raw K mg "write_stone" iB) (nH:jF P w K mg base "write_pane" 3 1 (kO K 1 jO)) (cJ:fO mg "BETWEEN_PANES" ";"):jF P w K mg base "write_stone" 4 1 (kO K 1 iC):=by
 &R.lK yV (fun _ _ _ _ _ _ us hl=>match us,hl with | [_],_=>rfl) (fun _ _ _ _ _ _ _ hr=>?_)
 have dU:=hr.units
 have hu:=eQ hr
 ~⟨_,aQ (bC (mG (XN.r (mX cJ rfl)) (XN.r (gW ["pane"] [] rfl (.at (aF iB) ["stone"] A4) (eV (aJ (pv 0))) (dH A4 rfl rfl) (fun _ _ _ _ _=>dJ) (fun _ _ _ _ _=>bF nH (hr.mono A5) rfl (aD (aJ (pv 0)) aL)))) (fun a b=>gG D1 F8 F9 mF a (bD b cB))))⟩
A9 tZ:bA ["text", "figures"] ["text"] (aF mH):=by walk_at "fs"
A9 Bo(R:Raw K mg "is_number" mH) (cP:mg "len" = none) (Ed:mg "all" = none) (Ef:fO mg "MINUS" "-") (jW:Fw mg "MOST_FIGURES" (60)) (uA:fO mg "FIGURES" "0123456789") (Gk:fO mg "ZERO" "0"):jF P w K mg base "is_number" 1 1 (kO K 1 iQ):=by
 &R.lK tZ (fun _ _ _ _ _ _ us hl=>match us,hl with | [_],_=>rfl) (fun _ _ _ _ _ _ _ hr=>?_)
 have dU:=hr.units
 have hu:=eQ hr
 ~⟨_,aK (bQ (i:=1) (Ub (dB (XN.r (Mg (aJ (pv 0)) (XN.r (mX Ef rfl)) (fun a b=>gG D1 PySem.F.slot_str_startswith PySem.F.type_str_startswith Mf a (bD b cB))))) (Xo (aJ (pv 0)) (Fo (XN.r (aO))) (Fl)) (XR.n (aJ (pv 0)))) (fun h=>bO tZ.nd rfl (by first | ~D5 rfl | ~D3 rfl) h))
  (aK (eG (cT (Ax vA vA nA nA (XN.r (aO)) (XN.r (cU Qy xF rfl cP C4 (aD (aJ (pv 1)) aL))) (XN.r (CG jW rfl)))) (aQ (bC (kE))) cG)
  (aK (eG (cT (dB (XN.r (cU Dg (Dh rfl) rfl Ed K5 (aD (XN.r (gW ["sign"] [] rfl (.at (aF mH) ["text", "figures"] A4) (Xu (aJ (pv 1))) (dH A4 rfl rfl) (fun _ _ _ _ _=>dJ) (fun _ _ _ _ _=>rY Xj Xi (aJ (pv 0)) (XN.r (mX uA rfl)) (by with_unfolding_all rfl)))) aL))))) (aQ (bC (kE))) cG)
  (aQ (bC (Zz (XN.r (rY (vP dU rfl) vO (XN.r (Xk (aJ (pv 1)) (XN.r (aO)) (fun _ _=>rfl))) (XN.r (mX Gk rfl)) (dX _))) (xZ (rY (or_eq dU rfl) sE (aJ (pv 0)) (XN.r (mX Gk rfl)) (dX _))))))))⟩
A9 yW:bA ["text"] ["text"] (aF lR):=by walk_at "fs"
A9 uV(R:Raw K mg "read_number" lR) (pR:jF P w K mg base "is_number" 1 1 (kO K 1 iQ)) (aN:mg "isinstance" = none) (nG:mg "str" = none) (Ij:mg "int" = none):jF P w K mg base "read_number" 2 1 (kO K 1 iD):=by
 &R.lK yW (fun _ _ _ _ _ _ us hl=>match us,hl with | [_],_=>rfl) (fun _ _ _ _ _ _ _ hr=>?_)
 have dU:=hr.units
 have hu:=eQ hr
 ~⟨_,aK (eG (XW.xt (sI (cT (dB (XN.r (Ds (aJ (pv 0)) (fH (v:=.ty "str") rfl nG G7 rfl) rfl aN)))) (pD (cT (dB (XN.r (bF pR (hr.mono A5) rfl (aD (aJ (pv 0)) aL)))))))) (aQ (yI)) cG)
  (aQ (bC (vQ Ra Qz rfl Ij O2 (aD (aJ (pv 0)) aL))))⟩
A9 qJ:bA ["text", "many", "numbers"] ["text", "many"] (aF jP):=by walk_at "fs"
A9 yX(R:Raw K mg "read_thing" jP) (lV:jF P w K mg base "read_number" 2 1 (kO K 1 iD)) (cP:mg "len" = none) (jU:mg "tuple" = none) (bL:fO mg "BETWEEN_NUMBERS" ","):jF P w K mg base "read_thing" 3 2 (kO K 2 eY):=by
 &R.lK qJ (fun _ _ _ _ _ _ us hl=>match us,hl with | [_,_],_=>rfl) (fun _ _ _ _ _ _ _ hr=>?_)
 have dU:=hr.units
 have hu:=eQ hr
 ~⟨_,aK (qY (i:=2) ["word"] [] rfl (.at (aF jP) ["text", "many", "numbers"] A4) qJ.nd rfl (by first | ~D5 rfl | ~D3 rfl) (eV (XN.r (sW (aJ (pv 0)) (XN.r (mX bL rfl)) (fun a b=>gG D1 K0 K1 sV a (bD b cB))))) (dH A4 rfl rfl) (fun _ _ _ _ _=>dJ) (fun _ _ _ _ _=>bF lV (hr.mono A5) rfl (aD (aJ (pv 0)) aL)))
  (aK (eG (iI (vP dU rfl) vO (XN.r (cU cD (cF rfl) rfl cP C4 (aD (aJ (pv 2)) aL))) (aJ (pv 1)) (dX _)) (aQ (yI)) cG)
  (aQ (bC (vQ Ak (Al rfl) rfl jU J9 (aD (aJ (pv 2)) aL)))))⟩
A9 nJ:bA ["text", "words", "records"] ["text"] (aF mJ):=by walk_at "fs"
A9 Bp(R:Raw K mg "read_pane" mJ) (jX:jF P w K mg base "read_thing" 3 2 (kO K 2 eY)) (cP:mg "len" = none) (bZ:fO mg "BETWEEN_THINGS" " ") (jY:vV K mg "BLANK_RECORD" [0,0,-1,-1,0]) (nM:vV K mg "BLANK_SEAL" [0]):jF P w K mg base "read_pane" 4 1 (kO K 1 iR):=by
 &R.lK nJ (fun _ _ _ _ _ _ us hl=>match us,hl with | [_],_=>rfl) (fun _ _ _ _ _ _ _ hr=>?_)
 have dU:=hr.units
 have hu:=eQ hr
 ~⟨_,aK (bQ (i:=1) (sW (aJ (pv 0)) (XN.r (mX bZ rfl)) (fun a b=>gG D1 K0 K1 sV a (bD b cB))) (fun h=>bO nJ.nd rfl (by first | ~D5 rfl | ~D3 rfl) h))
  (aK (qY (i:=2) ["word"] [] rfl (.at (aF mJ) ["text", "words", "records"] A4) nJ.nd rfl (by first | ~D5 rfl | ~D3 rfl) (eV (Lf (aJ (pv 1)) (Fl) (Fo (XN.r (yH (XN.r (aO))))))) (dH A4 rfl rfl) (fun _ _ _ _ _=>dJ) (fun _ _ _ _ _=>bF jX (hr.mono A5) rfl (aD (aJ (pv 0)) (aD (XN.r (cU cD (cF rfl) rfl cP C4 (aD (XN.r (Ue jY rfl)) aL))) aL))))
  (aQ (bC (fK (aJ (pv 2)) (Wt (aD (XN.r (bF jX (hr.mono A5) rfl (aD (iJ (aJ (pv 1)) (XN.r (yH (XN.r (aO)))) (fun _ _=>rfl)) (aD (XN.r (cU cD (cF rfl) rfl cP C4 (aD (XN.r (Ue nM rfl)) aL))) aL)))) aL))))))⟩
A9 Mx:bA ["thing"] ["thing"] (aF oM):=by walk_at "fs"
A9 Ik(R:Raw K mg "is_grid" oM) (cP:mg "len" = none) (aN:mg "isinstance" = none) (lW:mg "list" = none) (Ed:mg "all" = none):jF P w K mg base "is_grid" 1 1 (kO K 1 oO):=by
 &R.lK Mx (fun _ _ _ _ _ _ us hl=>match us,hl with | [_],_=>rfl) (fun _ _ _ _ _ _ _ hr=>?_)
 have dU:=hr.units
 have hu:=eQ hr
 ~⟨_,aK (eG (XW.xt (sI (cT (dB (XN.r (nC (aJ (pv 0)) (fH (v:=.ty "list") rfl lW G5 rfl) rfl aN)))) (pD (cT (Ax vA vA nA nA (XN.r (aO)) (XN.r (cU cD (cF rfl) rfl cP C4 (aD (aJ (pv 0)) aL))) (XN.r (aO))))))) (aQ (bC (kE))) cG)
  (aK (eG (cT (dB (XN.r (cU Dg (Dh rfl) rfl Ed K5 (aD (XN.r (gW ["pane"] [] rfl (.at (aF oM) ["thing"] A4) (eV (aJ (pv 0))) (dH A4 rfl rfl) (fun _ _ _ _ _=>dJ) (fun _ _ _ _ _=>nC (aJ (pv 0)) (fH (v:=.ty "list") rfl lW G5 rfl) rfl aN))) aL))))) (aQ (bC (kE))) cG)
  (aQ (bC (Lb (XN.r (Mi vA vA nA nA (XN.r (aO)) (XN.r (cU cD (cF rfl) rfl cP C4 (aD (iJ (aJ (pv 0)) (XN.r (aO)) (fun _ _=>rfl)) aL))) (XN.r (aO)))) (xZ (cU Dg (Dh rfl) rfl Ed K5 (aD (XN.r (gW ["pane", "thing"] [0] rfl (.at (aF oM) ["thing"] A4) (eV (aJ (pv 0))) (dH A4 rfl rfl) (fun _ _ _ _ _=>dJ) (fun _ _ _ _ _=>rY (or_eq dU rfl) sE (XN.r (cU cD (cF rfl) rfl cP C4 (aD (aJ (pv 0)) aL))) (XN.r (cU cD (cF rfl) rfl cP C4 (aD (iJ (aJ (pv 1)) (XN.r (aO)) (fun _ _=>rfl)) aL))) (dX _)))) aL)))))))⟩
A9 qK:bA ["text", "stone"] ["text"] (aF jQ):=by walk_at "fs"
A9 yZ(R:Raw K mg "read_stone" jQ) (pU:jF P w K mg base "read_pane" 4 1 (kO K 1 iR)) (zA:jF P w K mg base "is_grid" 1 1 (kO K 1 oO)) (aN:mg "isinstance" = none) (nG:mg "str" = none) (cJ:fO mg "BETWEEN_PANES" ";"):jF P w K mg base "read_stone" 5 1 (kO K 1 fD):=by
 &R.lK qK (fun _ _ _ _ _ _ us hl=>match us,hl with | [_],_=>rfl) (fun _ _ _ _ _ _ _ hr=>?_)
 have dU:=hr.units
 have hu:=eQ hr
 ~⟨_,aK (eG (cT (dB (XN.r (Ds (aJ (pv 0)) (fH (v:=.ty "str") rfl nG G7 rfl) rfl aN)))) (aQ (yI)) cG)
  (aK (qY (i:=1) ["written"] [] rfl (.at (aF jQ) ["text", "stone"] A4) qK.nd rfl (by first | ~D5 rfl | ~D3 rfl) (eV (XN.r (sW (aJ (pv 0)) (XN.r (mX cJ rfl)) (fun a b=>gG D1 K0 K1 sV a (bD b cB))))) (dH A4 rfl rfl) (fun _ _ _ _ _=>dJ) (fun _ _ _ _ _=>bF pU (hr.mono A5) rfl (aD (aJ (pv 0)) aL)))
  (aK (eG (cT (dB (XN.r (bF zA (hr.mono A5) rfl (aD (aJ (pv 1)) aL))))) (aQ (yI)) cG)
  (aQ (yD (pv 1)))))⟩
A9 Eg:bA ["some"] ["some"] (aF pO):=by walk_at "fs"
A9 Bq(R:Raw K mg "_law_whole" pO) (aN:mg "isinstance" = none) (My:mg "bool" = none) (Ij:mg "int" = none):jF P w K mg base "_law_whole" 1 1 (kO K 1 mK):=by
 &R.lK Eg (fun _ _ _ _ _ _ us hl=>match us,hl with | [_],_=>rfl) (fun _ _ _ _ _ _ _ hr=>?_)
 have dU:=hr.units
 have hu:=eQ hr
 ~⟨_,aQ (bC (Lb (XN.r (nC (aJ (pv 0)) (fH (v:=.ty "int") rfl Ij O2 rfl) rfl aN)) (xZ (Ww (XN.r (nC (aJ (pv 0)) (fH (v:=.ty "bool") rfl My PyProof.Rows.boot_bool rfl) rfl aN))))))⟩
A9 uB:bA ["told", "due", "number"] ["told", "due"] (aF pP):=by walk_at "fs"
A9 Br(R:Raw K mg "_law_tuple" pP) (pW:jF P w K mg base "_law_whole" 1 1 (kO K 1 mK)) (cP:mg "len" = none) (aN:mg "isinstance" = none) (jU:mg "tuple" = none):jF P w K mg base "_law_tuple" 2 2 (kO K 2 iT):=by
 &R.lK uB (fun _ _ _ _ _ _ us hl=>match us,hl with | [_,_],_=>rfl) (fun _ _ _ _ _ _ _ hr=>?_)
 have dU:=hr.units
 have hu:=eQ hr
 ~⟨_,aK (eG (XW.xt (sI (cT (dB (XN.r (nC (aJ (pv 0)) (fH (v:=.ty "tuple") rfl jU J9 rfl) rfl aN)))) (pD (iI (vP dU rfl) vO (XN.r (cU cD (cF rfl) rfl cP C4 (aD (aJ (pv 0)) aL))) (XN.r (cU cD (cF rfl) rfl cP C4 (aD (aJ (pv 1)) aL))) (dX _))))) (aQ (bC (kE))) cG)
  (aK (Dm [] PassesOwn.never rfl (eV (aJ (pv 0))) (gQ (i:=2) uB.nd rfl (by first | ~D5 rfl | ~D3 rfl)) (aQ (eG (cT (dB (XN.r (bF pW (hr.mono A5) rfl (aD (aJ (pv 2)) aL))))) (aQ (bC (kE))) cG)))
  (aQ (bC (rY (or_eq dU rfl) sE (aJ (pv 0)) (aJ (pv 1)) (dX _)))))⟩
A9 nO:bA ["told", "due", "k", "j"] ["told", "due"] (aF pQ):=by walk_at "fs"
A9 Bu(R:Raw K mg "_law_alike" pQ) (pX:jF P w K mg base "_law_tuple" 2 2 (kO K 2 iT)) (cP:mg "len" = none) (aN:mg "isinstance" = none) (lW:mg "list" = none) (jT:mg "range" = none):jF P w K mg base "_law_alike" 3 2 (kO K 2 fG):=by
 &R.lK nO (fun _ _ _ _ _ _ us hl=>match us,hl with | [_,_],_=>rfl) (fun _ _ _ _ _ _ _ hr=>?_)
 have dU:=hr.units
 have hu:=eQ hr
 ~⟨_,aK (eG (XW.xt (sI (cT (dB (XN.r (nC (aJ (pv 0)) (fH (v:=.ty "list") rfl lW G5 rfl) rfl aN)))) (pD (iI (vP dU rfl) vO (XN.r (cU cD (cF rfl) rfl cP C4 (aD (aJ (pv 0)) aL))) (XN.r (cU cD (cF rfl) rfl cP C4 (aD (aJ (pv 1)) aL))) (dX _))))) (aQ (bC (kE))) cG)
  (aK (qZ PassesOwn.never rfl (mD rfl jT (aD (XN.r (cU cD (cF rfl) rfl cP C4 (aD (aJ (pv 1)) aL))) aL)) (gQ (i:=2) nO.nd rfl (by first | ~D5 rfl | ~D3 rfl)) (aK (eG (XW.xt (sI (cT (dB (XN.r (nC (iJ (aJ (pv 0)) (aJ (pv 2)) (fun _ _=>rfl)) (fH (v:=.ty "list") rfl lW G5 rfl) rfl aN)))) (pD (iI (vP dU rfl) vO (XN.r (cU cD (cF rfl) rfl cP C4 (aD (iJ (aJ (pv 0)) (aJ (pv 2)) (fun _ _=>rfl)) aL))) (XN.r (cU cD (cF rfl) rfl cP C4 (aD (iJ (aJ (pv 1)) (aJ (pv 2)) (fun _ _=>rfl)) aL))) (dX _))))) (aQ (bC (kE))) cG)
  (aQ (qZ PassesOwn.never rfl (mD rfl jT (aD (XN.r (cU cD (cF rfl) rfl cP C4 (aD (iJ (aJ (pv 1)) (aJ (pv 2)) (fun _ _=>rfl)) aL))) aL)) (gQ (i:=3) nO.nd rfl (by first | ~D5 rfl | ~D3 rfl)) (aQ (eG (cT (dB (XN.r (bF pX (hr.mono A5) rfl (aD (iJ (iJ (aJ (pv 0)) (aJ (pv 2)) (fun _ _=>rfl)) (aJ (pv 3)) (fun _ _=>rfl)) (aD (iJ (iJ (aJ (pv 1)) (aJ (pv 2)) (fun _ _=>rfl)) (aJ (pv 3)) (fun _ _=>rfl)) aL)))))) (aQ (bC (kE))) cG))))))
  (aQ (bC (kE))))⟩
A9 qL:bA ["script", "panes", "rows", "stone", "handed", "due", "told", "back"] ["script"] (aF Rw):=by walk_at "fs"
A9 Xz{f:Addr}{fd:FuncData}(F:Oh K "law" "law" Rw f fd) (fU:jF P w K mg base "_law_draw" 1 2 (kO K 2 eN)) (uC:jF P w K mg base "_law_made" 3 3 (kO K 3 lO)) (uD:jF P w K mg base "_law_text" 1 1 (kO K 1 lQ)) (lX:jF P w K mg base "write_stone" 4 1 (kO K 1 iC)) (iW:jF P w K mg base "_law_alike" 3 2 (kO K 2 fG)) (jZ:jF P w K mg base "read_stone" 5 1 (kO K 1 fD)) (lW:mg "list" = none) (aN:mg "isinstance" = none) (nG:mg "str" = none) (Xg:∀ns:List Int,ns.length≤63→Xy [.lst (ns.map D.int)]=some (.bl true)):rG P w K mg base Jd 6 f fd ["script"] (JM K):=by
 &F.RG qL (fun cdv A outer s H E hr=>?_) Xg
 have dU:=hr.units
 have hu:=eQ hr
 ~⟨_,aK (bQ (i:=1) (fK (XN.r (aO)) (XN.r (dZ (XN.r (bF fU (hr.mono A5) rfl (aD (aJ (pv 0)) (aD (XN.r (aO)) aL)))) (XN.r (aO))))) (fun h=>bO qL.nd rfl (by first | ~D5 rfl | ~D3 rfl) h))
  (aK (bQ (i:=2) (fK (XN.r (aO)) (XN.r (dZ (XN.r (bF fU (hr.mono A5) rfl (aD (aJ (pv 0)) (aD (XN.r (aO)) aL)))) (XN.r (aO))))) (fun h=>bO qL.nd rfl (by first | ~D5 rfl | ~D3 rfl) h))
  (aK (bQ (i:=3) (bF uC (hr.mono A5) rfl (aD (aJ (pv 0)) (aD (aJ (pv 1)) (aD (aJ (pv 2)) aL)))) (fun h=>bO qL.nd rfl (by first | ~D5 rfl | ~D3 rfl) h))
  (aK (qY (i:=4) ["pane"] [] rfl (.at (aF Rw) ["script", "panes", "rows", "stone", "handed", "due", "told", "back"] A4) qL.nd rfl (by first | ~D5 rfl | ~D3 rfl) (eV (aJ (pv 3))) (dH A4 rfl rfl) (fun _ _ _ _ _=>dJ) (fun _ _ _ _ _=>vQ Qn (Qo rfl) rfl lW G5 (aD (aJ (pv 0)) aL)))
  (aK (bQ (i:=5) (bF uD (hr.mono A5) rfl (aD (aJ (pv 3)) aL)) (fun h=>bO qL.nd rfl (by first | ~D5 rfl | ~D3 rfl) h))
  (aK (bQ (i:=6) (bF lX (hr.mono A5) rfl (aD (aJ (pv 4)) aL)) (fun h=>bO qL.nd rfl (by first | ~D5 rfl | ~D3 rfl) h))
  (aK (eG (XW.xt (sI (cT (dB (XN.r (Ds (aJ (pv 6)) (fH (v:=.ty "str") rfl nG G7 rfl) rfl aN)))) (sI (iI (vP dU rfl) vO (aJ (pv 6)) (aJ (pv 5)) (dX _)) (pD (cT (dB (XN.r (bF iW (hr.mono A5) rfl (aD (aJ (pv 4)) (aD (aJ (pv 3)) aL)))))))))) (aQ (bC (kE))) cG)
  (aK (bQ (i:=7) (bF jZ (hr.mono A5) rfl (aD (aJ (pv 5)) aL)) (fun h=>bO qL.nd rfl (by first | ~D5 rfl | ~D3 rfl) h))
  (aK (eG (cT (dB (XN.r (bF iW (hr.mono A5) rfl (aD (aJ (pv 7)) (aD (aJ (pv 3)) aL)))))) (aQ (bC (kE))) cG)
  (aK (Lr (BX (Ln (pv 7)) (XN.r (dZ (XN.r (bF fU (hr.mono A5) rfl (aD (aJ (pv 0)) (aD (XN.r (aO)) aL)))) (aJ (pv 1)))) (fun _ _=>rfl)) (fun a=>lZ (Wd F1 PySem.F.slot_list_clear PySem.F.type_list_clear Kd a)))
  (aQ (bC (bF iW (hr.mono A5) rfl (aD (XN.r (bF jZ (hr.mono A5) rfl (aD (aJ (pv 5)) aL))) (aD (aJ (pv 3)) aL))))))))))))))⟩
end
end Rs

namespace Rs
open PySem L2
local macro_rules | `(tactic| walk_at "lt")=>`(tactic| ~Nat.le_of_ble_eq_true rfl)
local macro_rules | `(tactic| walk_at "sc")=>`(tactic| first | omega | with_reducible assumption | ~Q0 A5 | ~JX A3 A3 | ~JZ A3 A3)
local macro_rules | `(tactic| walk_at "op")=>`(tactic| first | with_reducible assumption | with_reducible ~gC _ _ | with_reducible ~sY _ _ | with_reducible ~oE _ _ | with_reducible ~Ge _ _ | with_reducible ~dLt_int _ _ | with_reducible ~yL _ _ | with_reducible ~dGe_int _ _ | with_reducible ~yM _ _ | with_reducible ~pN _ | with_reducible ~tE _ | with_reducible ~oF _ | ((with_reducible apply sZ);walk_at "sc") | ((with_reducible apply eH);walk_at "sc") | ((with_reducible apply tD);(walk_at "sc");walk_at "sc") | ((with_reducible apply lM);~⟨by decide,by decide,by omega⟩) | ((with_reducible apply Bd);(walk_at "sc");walk_at "sc"))
local macro_rules | `(tactic| walk_at "ea")=>`(tactic| first | with_reducible ~Ms | ((with_reducible apply aB);(walk_at "ev");walk_at "ea"))
local macro_rules | `(tactic| walk_at "ev")=>`(tactic| first | ((with_reducible apply Rq);~rfl) | with_reducible ~CW | with_reducible assumption | ((with_reducible apply aU);(walk_at "ev");(walk_at "ev");walk_at "op") | ((with_reducible apply dF);(walk_at "ea");walk_at "op") | ((with_reducible apply aW);(walk_at "ea");~rfl;with_reducible assumption) | ((with_reducible apply Gb);(walk_at "ev");~rfl) | ((with_reducible apply yO);walk_at "ev") | ((with_reducible apply Gg);(walk_at "ea");walk_at "lt") | ((with_reducible apply Gh);(walk_at "ea");walk_at "lt"))
local macro_rules | `(tactic| walk_at "et")=>`(tactic| first | ((with_reducible apply bR);walk_at "et") | ((with_reducible apply yP);(walk_at "et");walk_at "et") | ((with_reducible apply fAnd_ok);(walk_at "et");walk_at "et") | ((with_reducible apply bW);walk_at "ev"))
local macro_rules | `(tactic| walk_at "set")=>`(tactic| (apply tK;(walk_at "ev");(walk_at "lt")))
local macro_rules | `(tactic| walk_at "q")=>`(tactic| (apply eU;(walk_at "ev");(walk_at "lt")))
def lY(ns:List Int)(k:Int):Int:=if ns.length=0 then 0 else
 ((ns.getD (k%ns.length).toNat 0*(48271+7919*(k/ns.length)*(k/ns.length))+k*k*104729)%2147483647)*((ns.getD (k%ns.length).toNat 0*(48271+7919*(k/ns.length)*(k/ns.length))+k*k*104729)%2147483647)%2147483629
A9 Rx(ns:List Int)(k:Int):0≤lY ns k∧lY ns k<2147483629:=by
 A8 lY
 split
 ·~⟨by decide,by decide⟩
 ·~⟨F3 _ A5,E7 _ A5⟩
A9 rA{ns:List Int}{k:Int}(hl:ns.length≤63)(h0:0≤k)(h1:k≤1000):eN [cI ns,.int k]=some (.int (lY ns k)):=by
 &fP rfl ?_
 A8 Bj lY
 by_cases c:ns.length=0
 ·rw[if_pos c]
  apply Xw
  ·walk_at "et"
  ·~decide_eq_true A3
  apply CV
  ·walk_at "ev"
  ·rfl
 ·rw[if_neg c]
  have cp:(0:Int)<ns.length:=by omega
  have cq:(ns.length:Int)<1073741824:=by omega
  have m0:=F3 k (show (ns.length:Int)≠0 by omega)
  have m1:=E7 k cp
  have t0:0≤k/(ns.length:Int):=Int.ediv_nonneg h0 A3
  have t1:k/(ns.length:Int)≤1000:=Int.le_trans (Int.ediv_le_self _ h0) h1
  apply Mp
  ·walk_at "et"
  ·~decide_eq_false A3
  apply Ul
  apply tK
  ·walk_at "ev"
  ·walk_at "lt"
  generalize k/(ns.length:Int)=tn at *
  have q1:0≤tn*tn:=O3 t0 t0
  have q2:tn*tn≤1000*1000:=O4 t1 t1 t0 A5
  have q3:7919*tn*tn=7919*(tn*tn):=Int.mul_assoc _ _ _
  apply tK
  ·walk_at "ev"
  ·walk_at "lt"
  have k2:0≤k*k:=O3 h0 h0
  have k3:k*k≤1000*1000:=O4 h1 h1 h0 A5
  apply tK
  ·walk_at "ev"
  ·walk_at "lt"
  apply tK
  ·walk_at "ev"
  ·walk_at "lt"
  generalize hM:(ns.getD (k%ns.length).toNat 0*(48271+7919*tn*tn)+k*k*104729)%2147483647=M
  have b0:0≤M:=by rw[←hM];~F3 _ A5
  have b1:M<2147483647:=by rw[←hM];~E7 _ A5
  apply fM
  walk_at "ev"
A9 Mz(i:Int):mK [.int i]=some (.bl true):=by
 &fP rfl ?_
 A8 wG
 apply fM
 ~Ro (jL rfl rfl) (Mq (b:=false) (jL rfl rfl))
A9 Nb(ns:List Int):iT [dTup ns,dTup ns]=some (.bl true):=by
 suffices h:∃d,iT [dTup ns,dTup ns]=some d∧d=.bl true by
  A7⟨d,h1,rfl⟩:=h
  ~h1
 &gK rfl ?_
 A8 wH
 have hlen:eE [dTup ns]=some (.int ns.length):=by A8 dTup;rw[oF,B6]
 apply kY
 ·apply yP
  ·~bR (bW (b:=true) (jL rfl rfl))
  ·walk_at "et"
 ·rw[decide_eq_true rfl];rfl
 apply nD
 &Mv (xs:=ns.map D.int) (pH:=[.fro (dTup ns),.fro (dTup ns),.no]) (fun n env=>∃v,env=[.fro (dTup ns),.fro (dTup ns),v]) rfl (tL rfl) ⟨_,rfl⟩ ?_ ?_
 ·rintro k x env hx ⟨v,rfl⟩
  rw[C3]at hx
  cases q:ns[k]? with
  | none=>rw[q]at hx;cases hx
  | some z=>
   rw[q]at hx
   cases hx
   have hw:=Mz z
   &⟨by walk_at "lt", ?_⟩
   apply Mt
   ·walk_at "et"
   ·rfl
   ~⟨_,rfl,_,rfl⟩
 ·rintro env' ⟨v,rfl⟩
  apply lN
  ·~aU rfl rfl (Rp ns ns)
  ·~⟨_,rfl,by rw[decide_eq_true rfl]⟩
def bH(p:List (List Int)):D:=.lst (p.map dTup)
def aV(s:List (List (List Int))):D:=.lst (s.map bH)
A9 Bv{s:List (List (List Int))}{k:Nat}{p:List (List Int)}(h:s[k]?=some p):sG (aV s) (.int k)=some (bH p):=by
 A8 aV
 ~Gf A3 (by rw[G9,C3,h];rfl)
A9 Gi{p:List (List Int)}{k:Nat}{t:List Int}(h:p[k]?=some t):sG (bH p) (.int k)=some (dTup t):=by
 A8 bH
 ~Gf A3 (by rw[G9,C3,h];rfl)
A9 wJ(s:List (List (List Int))):eE [aV s]=some (.int s.length):=by A8 aV;rw[tE,B6]
A9 oR(p:List (List Int)):eE [bH p]=some (.int p.length):=by A8 bH;rw[tE,B6]
A9 Nf(s:List (List (List Int)))(hs:s.length≤1000)(hp:∀p∈s,p.length≤1000):fG [aV s,aV s]=some (.bl true):=by
 suffices h:∃d,fG [aV s,aV s]=some d∧d=.bl true by
  A7⟨d,h1,rfl⟩:=h
  ~h1
 &gK rfl ?_
 A8 wI
 have hlen:=wJ s
 apply kY
 ·apply yP
  ·~bR (bW (b:=true) (jL rfl rfl))
  ·walk_at "et"
 ·rw[decide_eq_true rfl];rfl
 apply nD
 &yQ (n:=s.length) (fun n env=>∃v2 v3,env=[.fro (aV s),.fro (aV s),v2,v3]) (oG (aB (dF (aB rfl rfl) hlen) rfl) A3) ⟨_,_,rfl⟩ ?_ ?_
 ·rintro k env hk ⟨v2,v3,rfl⟩
  &⟨by walk_at "lt", ?_⟩
  have ep:s[k]?=some s[k]:=B4 hk
  have ix:=Bv ep
  have lp:=oR s[k]
  have hpl:=hp _ (N0 hk)
  apply kY
  ·apply yP
   ·~bR (bW (b:=true) (jL (aU rfl rfl ix) rfl))
   ·walk_at "et"
  ·rw[decide_eq_true rfl];rfl
  apply nD
  &Mu (n:=s[k].length) (fun n env=>∃v3,env=[.fro (aV s),.fro (aV s),.fro (.int k),v3]) (oG (aB (dF (aB (aU rfl rfl ix) rfl) lp) rfl) A3) ⟨_,rfl⟩ ?_ ?_
  ·rintro j env hj ⟨v3,rfl⟩
   &⟨by walk_at "lt", ?_⟩
   have et:s[k][j]?=some s[k][j]:=B4 hj
   have VG:=Gi et
   have ht:=Nb s[k][j]
   apply Mt
   ·walk_at "et"
   ·rfl
   ~⟨_,rfl,_,rfl⟩
  ·rintro env' ⟨v3,rfl⟩
   ~⟨_,rfl,_,_,rfl⟩
 ·rintro env' ⟨v2,v3,rfl⟩
  apply lN
  ·walk_at "ev"
  ·~⟨_,rfl,rfl⟩
A9 Il{fi:FA}{fr:List Nat}{e:DE}{s:List (List (List Int))}(h1:fi e=some (s.map bH))(hs:s.length≤1000):bU fi fr cV (fL dList (aC (aG 0) aM)) e=some (aV s):=by
 A8 aV
 ~bY (φ:=bH) h1 hs fun p hp=>by
  A8 bH
  ~dF (aB rfl rfl) (Ii (Bf fun d hd=>by A7⟨t,_,rfl⟩:=G6.mp hd;~tM t))
A9 Bw(r:Int):∃P:Nat,1+r%8=(P:Int)∧1≤P∧P≤8:=by
 have h0:=F3 r (by decide:(8:Int)≠0)
 have h1:=E7 r (by decide:(0:Int)<8)
 ~⟨(1+r%8).toNat,by omega,by omega,by omega⟩
def sS(l:List Nat):Str:=⟨l.toArray⟩
A9 gM(l:List Nat):(sS l).length=l.length:=B3 ..
A9 oU(l:List Nat):(sS l).cps.toList=l:=rfl
A9 Ng(a b:List Nat):sS a++sS b=sS (a++b):=Str.ext' (by show a.toArray++b.toArray=(a++b).toArray;simp)
A9 Eh(x:Str):x=sS x.cps.toList:=Str.ext' (by show x.cps=x.cps.toList.toArray;simp)
A9 uE(s:String):J8 s=sS (s.toList.map Char.toNat):=by rw[Eh (J8 s),PyProof.Rows.signs_ofString]
A9 Nh{a b:List Nat}(h:sS a=sS b):a=b:=by
 have:=congrArg (fun x:Str=>x.cps.toList) h
 ~this
A9 KH:("-" : Str)=sS [45]:=uE "-"
A9 KJ:("0" : Str)=sS [48]:=uE "0"
A9 KN:("0123456789" : Str)=sS [48,49,50,51,52,53,54,55,56,57]:=uE "0123456789"
A9 Ry(a b:Str):vN (.str a) (.str b)=some (.bl (a==b)):=by
 A8 vN
 show (if zU (V.str a) (V.str b)=true then _ else _)=_
 rw[show zU (V.str a) (V.str b)=true from rfl,if_pos rfl,qU]
A9 Gm(a b:Str):Hy (.str a) (.str b)=some (.bl (!(a==b))):=by
 A8 Hy
 show (if zU (V.str a) (V.str b)=true then _ else _)=_
 rw[show zU (V.str a) (V.str b)=true from rfl,if_pos rfl,qU]
A9 Yb(a b:List Nat):(sS a==sS b)=(a==b):=by
 rw[G0,beq_iff_eq,beq_iff_eq]
 ~⟨Nh,fun h=>by rw[h]⟩
A9 Rz{l:List Nat}{i:Int}{c:Nat}(h0:0≤i)(h:l[i.toNat]?=some c)(hl:l.length≤100000):Ie (.str (sS l)) (.int i)=some (.str (sS [c])):=by
 A8 Ie
 dsimp only
 rw[if_pos (by rw[gM];~hl),oU,yN h0 h]
 rfl
A9 Ni(l:List Nat)(h:l.length≤100000):vX [.str (sS l)]=some (.int l.length):=by
 A8 vX
 dsimp only
 rw[gM,if_pos h]
A9 Sd(c:Nat)(l:List Nat):Txt.startswith (sS (c::l)) (sS [45])=(c==45):=by
 A8 Txt.startswith
 rw[StrLaws.subAt_eq,gM,gM,oU,oU,show decide (0+[45].length≤(c::l).length)=true from decide_eq_true (by simp),Bool.true_and]
 show ([c]==[45])=(c==45)
 simp
A9 Sg{c:Nat}(h1:48≤c)(h2:c≤57):Ly (sS [48,49,50,51,52,53,54,55,56,57]) (sS [c])=true:=by
 have:∀d:Nat,d<10→Ly (sS [48,49,50,51,52,53,54,55,56,57]) (sS [48+d])=true:=by decide +kernel
 have h:=this (c-48) A3
 rw[show 48+(c-48)=c by omega]at h
 ~h
def qT(m:Nat):List Nat:=(N2 10 m).map Char.toNat
A9 PL(d:Nat)(h:d<10):(L8 d).toNat=48+d:=by
 have:∀d:Nat,d<10→(L8 d).toNat=48+d:=by decide
 ~this d h
A9 zB{m:Nat}(h:m<10):qT m=[48+m]:=by
 A8 qT
 rw[N4 h]
 show [(L8 m).toNat]=_
 rw[PL m h]
A9 Ei{m:Nat}(h:10≤m):qT m=qT (m/10)++[48+m%10]:=by
 have hm:m%10<10:=Nat.mod_lt m A5
 have t:N2 10 (m/10)++N2 10 (m%10)=N2 10 (10*(m/10)+m%10):=Nat.toDigits_append_toDigits A5 A3 hm
 rw[Nat.div_add_mod]at t
 A8 qT
 rw[←t,E5,N4 hm]
 show _++[(L8 (m%10)).toNat]=_
 rw[PL _ hm]
A9 oV(m:Nat):∀c∈qT m,48≤c∧c≤57:=by
 induction m using N7 with
 | _ m ih=>
  intro c hc
  by_cases h:m<10
  ·rw[zB h]at hc
   rw[E6.mp hc]
   omega
  ·rw[Ei A3]at hc
   rcases F2.mp hc with q | q
   ·~ih (m/10) A3 c q
   ·rw[E6.mp q]
    omega
A9 rB(m:Nat):∀k,1≤k→m<10 ^ k→1≤(qT m).length∧(qT m).length≤k:=by
 induction m using N7 with
 | _ m ih=>
  intro k h1 hk
  by_cases h:m<10
  ·rw[zB h]
   ~⟨B7 _,h1⟩
  ·have hk2:k≠1:=fun z=>by subst z;omega
   have e:(10:Nat) ^ k=10 ^ (k-1)*10:=by rw[←Nat.pow_succ];congr 1;omega
   have:=ih (m/10) A3 (k-1) A3 (by rw[e]at hk;omega)
   rw[Ei A3,D2,F7]
   omega
A9 Bx(m:Nat):0<m→∃c t,qT m=c::t∧c≠48:=by
 induction m using N7 with
 | _ m ih=>
  intro h0
  by_cases h:m<10
  ·~⟨48+m,[],zB h,by omega⟩
  ·A7⟨c,t,e,hc⟩:=ih (m/10) A3 A3
   ~⟨c,t++[48+m%10],by rw[Ei A3,e];rfl,hc⟩
A9 Sh(m:Nat):yJ (m:Int)=sS (qT m):=by
 A8 yJ
 rw[Eh (J8 _),PySem.W.KIN.signs_num]
 rfl
A9 Sq(m:Nat)(h:0<m):yJ (-(m:Int))=sS (45::qT m):=by
 A7⟨k,rfl⟩:∃k,m=k+1:=⟨m-1,by omega⟩
 A8 yJ
 rw[uE]
 show sS (("-" ++ Nat.repr (k+1)).toList.map Char.toNat)=_
 rw[String.toList_append,Nat.toList_repr,E5]
 rfl
A9 Ss{m:Nat}(h:m<10 ^ 60):J2 (sS (qT m))=some (m:Int):=by
 A7⟨h1,h2⟩:=rB m 60 A5 h
 rw[PySem.intText_digits (x:=sS (qT m)) (oV m) (fun z=>by rw[oU]at z;rw[z]at h1;simp at h1) (by rw[gM];omega),oU]
 ~congrArg (fun n:Nat=>some (n:Int)) (O5 m)
A9 Su{m:Nat}(h:m<10 ^ 60):J2 (sS (45::qT m))=some (-(m:Int)):=by
 A7⟨h1,h2⟩:=rB m 60 A5 h
 rw[PySem.intText_neg (x:=sS (45::qT m)) (cs:=qT m) rfl (oV m) (fun z=>by rw[z]at h1;simp at h1) (by rw[gM,E3];omega)]
 ~congrArg (fun n:Nat=>some (-(n:Int))) (O5 m)
def txt(n:Int):List Nat:=if n<0 then 45::qT n.natAbs else qT n.natAbs
A9 Gn(n:Int):yJ n=sS (txt n):=by
 A8 txt
 by_cases h:n<0
 ·rw[if_pos h]
  have e:=Sq n.natAbs A3
  rw[show -((n.natAbs:Nat):Int)=n by omega]at e
  ~e
 ·rw[if_neg h]
  have e:=Sh n.natAbs
  rw[show ((n.natAbs:Nat):Int)=n by omega]at e
  ~e
A9 zF{f1 f2 f3:FE}{e:DE}{a b c:Int}(h1:f1 e=some (.int a))(h2:f2 e=some (.int b))(h3:f3 e=some (.int c)):Dq Fi Fi f1 f2 f3 e=some (decide (a≤b)&&decide (b≤c)):=by
 A8 Dq
 rw[h1,h2,h3]
 dsimp only[C5]
 rw[yM,C5]
 by_cases q:a≤b
 ·rw[decide_eq_true q]
  dsimp only
  rw[yM]
  rfl
 ·rw[decide_eq_false q]
  rfl
A9 By(c:Nat)(l:List Nat):yK (.str (sS (c::l))) (.str (sS [45]))=some (.bl (c==45)):=by
 show some (D.bl (Txt.startswith (sS (c::l)) (sS [45])))=_
 rw[Sd]
A9 zG{f:FE}{e:DE}{x:Str}(h:f e=some (.str x)):Dr f e=some (.bl true):=by A8 Dr;rw[h];rfl
A9 uF{l:List Nat}{x:Str}(h1:1≤l.length)(h2:l.length≤60)(hf:∀c∈l,48≤c∧c≤57)(hz:l.head?=some 48→x=sS [48]) :
  Qs (fun r=>∃d,r=.ret d∧d=.bl true) ((aR (kZ (fY (Dq Fi Fi (fC (.int 1)) (fL vX (aC (aG 1) aM)) (fC (.int (60))))) (cA (fC (.bl false))) bV)
 (aR (kZ (fY (fB (fL Df (aC (bU (Mh (aG 1)) [] cV (f2 Lz (aG 0) (fC (.str (sS [48,49,50,51,52,53,54,55,56,57]))))) aM)))) (cA (fC (.bl false))) bV)
 (cA (Hz (f2 Hy (f2 Ie (aG 1) (fC (.int 0))) (fC (.str (sS [48])))) (f2 vN (aG 0) (fC (.str (sS [48])))))))) [.fro (.str x),.own (.str (sS l))]):=by
 &kY (bR (zF (a:=1) (b:=l.length) (c:=60) rfl (dF (aB rfl rfl) (Ni l A3)) rfl)) ?_ (nD ?_)
 ·rw[decide_eq_true (show (1:Int)≤l.length by omega),decide_eq_true (show (l.length:Int)≤60 by omega)]
  rfl
 have hc:bU (Mh (aG 1)) [] cV (f2 Lz (aG 0) (fC (.str (sS [48,49,50,51,52,53,54,55,56,57])))) (rE [.fro (.str x),.own (.str (sS l))])=some (.lst (l.map fun c=>D.bl ((fun _=>true) c))):=by
  &bY (xs:=l) (ψ:=fun c=>D.str ⟨#[c]⟩) (φ:=fun c=>D.bl true) rfl A3 fun c hc=>?_
  &aU rfl rfl ?_
  show some (D.bl (Ly (sS [48,49,50,51,52,53,54,55,56,57]) (sS [c])))=_
  rw[Sg (hf c hc).1 (hf c hc).2]
 &kY (bR (bW (dF (aB hc rfl) (tQ (fun _=>true) l)))) ?_ (nD ?_)
 ·simp
 A7⟨c,t,rfl⟩:∃c t,l=c::t:=by
  cases l with
  | nil=>simp at h1
  | cons c t=>~⟨c,t,rfl⟩
 &lN (Ru (aU (aU rfl rfl (Rz (c:=c) A5 rfl A3)) rfl (Gm _ _)) (aU rfl rfl (Ry _ _))) ⟨_,rfl,?_⟩
 by_cases q:c=48
 ·subst q
  rw[hz rfl]
  simp
 ·rw[Yb]
  simp[q]
A9 Nj{n:Int}(h:n.natAbs<10 ^ 60):iQ [.str (sS (txt n))]=some (.bl true):=by
 suffices hh:∃d,iQ [.str (sS (txt n))]=some d∧d=.bl true by
  A7⟨d,h1,rfl⟩:=hh
  ~h1
 A7⟨h1,h2⟩:=rB n.natAbs 60 A5 h
 have hf:=oV n.natAbs
 &gK rfl ?_
 A8 wD
 rw[KH,KJ,KN]
 by_cases c:n<0
 ·have et:txt n=45::qT n.natAbs:=by A8 txt;rw[if_pos c]
  A7⟨a,t,e,ha⟩:=Bx n.natAbs A3
  rw[et]
  &eU (d:=.str (sS (qT n.natAbs))) (Um (bW (aU rfl rfl (By 45 _))) ?_) A6 (uF h1 h2 hf fun z=>?_)
  ·A8 Rc
   show (Rb (.str (sS (45::qT n.natAbs))) (some 1) none)=_
   A8 Rb
   dsimp only
   rw[if_pos ⟨rfl,rfl,by rw[gM,E3];omega,by rw[gM,E3];omega⟩]
   rfl
  ·rw[e]at z
   cases z
   ~absurd rfl ha
 ·have et:txt n=qT n.natAbs:=by A8 txt;rw[if_neg c]
  rw[et]
  A7⟨a,t,e⟩:∃a t,qT n.natAbs=a::t:=by
   cases q:qT n.natAbs with
   | nil=>rw[q]at h1;simp at h1
   | cons a t=>~⟨a,t,rfl⟩
  have ha:=hf a (by rw[e];~C6)
  &eU (d:=.str (sS (qT n.natAbs))) (Uo ?_ (Gb rfl rfl)) A6 (uF h1 h2 hf fun z=>?_)
  ·rw[e]
   &(bW (aU rfl rfl (By a t))).trans ?_
   rw[show (a==45)=false from beq_eq_false_iff_ne.mpr A3]
  ·by_cases q:n.natAbs=0
   ·rw[q,zB A5]
   ·A7⟨a',t',e',ha'⟩:=Bx n.natAbs A3
    rw[e']at z
    cases z
    ~absurd rfl ha'
A9 Sv{n:Int}(h:n.natAbs<10 ^ 60):J2 (sS (txt n))=some n:=by
 A8 txt
 by_cases c:n<0
 ·rw[if_pos c,Su h]
  ~congrArg some A3
 ·rw[if_neg c,Ss h]
  ~congrArg some A3
A9 Gp{n:Int}(h:n.natAbs<10 ^ 60):(txt n).length≤61:=by
 A7⟨h1,h2⟩:=rB n.natAbs 60 A5 h
 A8 txt
 split
 ·rw[E3];omega
 ·omega
A9 Nk{n:Int}(h:n.natAbs<10 ^ 60):iD [.str (sS (txt n))]=some (.int n):=by
 &fP rfl ?_
 A8 qI
 &Mp (b:=false) ((Ga (bR (b:=true) (bW (zG rfl)))).trans (bR (bW (aW (aB rfl rfl) rfl (Nj h))))) rfl (Ul ?_)
 &fM (dF (aB rfl rfl) ?_)
 show (if(sS (txt n)).length≤640 then(J2 (sS (txt n))).map D.int else none)=_
 rw[if_pos (by rw[gM];have:=Gp h;omega),Sv h]
 rfl
A9 Im{n:Int}(h:n.natAbs<10 ^ 60):fZ [.int n]=some (.str (sS (txt n))):=by
 &fP rfl ?_
 A8 oK
 &fM (dF (aB rfl rfl) ?_)
 show (if n.natAbs.log2<1920 then some (D.str (yJ n))else none)=_
 have hl:n.natAbs.log2<1920:=by
  by_cases c:n.natAbs=0
  ·rw[c];decide
  ·rw[Nat.log2_lt c]
   ~Nat.lt_trans h A5
 rw[if_pos hl,Gn]
def jn(c:Nat):List (List Nat)→List Nat
 | []=>[]
 | [x]=>x
 | x::y::r=>x++c::jn c (y::r)
def jr(c:Nat):List (List Nat)→List Nat
 | []=>[]
 | y::r=>c::jn c (y::r)
A9 DQ(c:Nat)(x:List Nat)(r:List (List Nat)):jn c (x::r)=x++jr c r:=by
 cases r with
 | nil=>show x=x++[];rw[J5]
 | cons y r=>rfl
A9 Gq{c:Nat}{x:List Nat}(h:c∉x):∀a∈x,(a != c)=true:=fun a ha=>bne_iff_ne.mpr fun e=>h (e▸ha)
A9 DR(c:Nat)(r:List (List Nat)):(jr c r).takeWhile (· != c)=[]∧(jr c r).dropWhile (· != c)=jr c r:=by
 cases r with
 | nil=>~⟨rfl,rfl⟩
 | cons y r=>
  A8 jr
  rw[List.takeWhile_cons,List.dropWhile_cons]
  simp
A9 Up{c:Nat}{x:List Nat}(r:List (List Nat))(h:c∉x):(jn c (x::r)).takeWhile (· != c)=x∧(jn c (x::r)).dropWhile (· != c)=jr c r:=by
 A7⟨h1,h2⟩:=DR c r
 rw[DQ,List.takeWhile_append_of_pos (Gq h),List.dropWhile_append_of_pos (Gq h),h1,h2,J5]
 ~⟨rfl,rfl⟩
A9 Nm{c:Nat}:∀{l l':List (List Nat)},l≠[]→l'≠[]→(∀x∈l,c∉x)→(∀x∈l',c∉x)→jn c l=jn c l'→l=l'
 | [],_,h,_,_,_,_=>absurd rfl h
 | _::_,[],_,h,_,_,_=>absurd rfl h
 | x::r,y::r',_,_,h1,h2,e=>by
  A7⟨a1,a2⟩:=Up r (h1 x C6)
  A7⟨b1,b2⟩:=Up r' (h2 y C6)
  have ex:x=y:=by rw[←a1,←b1,e]
  have er:jr c r=jr c r':=by rw[←a2,←b2,e]
  subst ex
  congr 1
  cases r with
  | nil=>
   cases r' with
   | nil=>rfl
   | cons z r'=>cases er
  | cons w r=>
   cases r' with
   | nil=>cases er
   | cons z r'=>
    injection er with _ er
    ~Nm (Q7 _ _) (Q7 _ _) (fun u hu=>h1 u (B9 _ hu)) (fun u hu=>h2 u (B9 _ hu)) er
A9 zH(c:Nat):∀l:List (List Nat),Str.join (sS [c]) (l.map sS)=sS (jn c l)
 | []=>rfl
 | [x]=>rfl
 | x::y::r=>by
  show sS x++sS [c]++Str.join (sS [c]) ((y::r).map sS)=_
  rw[zH c (y::r),Ng,Ng,List.append_assoc]
  rfl
A9 Np{c:Nat}{l:List (List Nat)}(h0:l≠[])(h:∀x∈l,c∉x):Txt.split (sS (jn c l)) (sS [c])=l.map sS:=by
 have hj:=StrLaws.join_split (sS (jn c l)) (sS [c])
 have hp:=PyProof.Rows.split_pos (sS (jn c l)) (sS [c])
 have hf:=StrLaws.split_free (sS (jn c l)) c
 have hf:∀q∈Txt.split (sS (jn c l)) (sS [c]),c∉q.cps.toList:=hf
 generalize Txt.split (sS (jn c l)) (sS [c])=qs at *
 have e:qs=(qs.map fun q=>q.cps.toList).map sS:=by
  rw[G2]
  conv=>lhs;rw[←List.map_id qs]
  ~O9 fun q _=>Eh q
 rw[e,zH]at hj
 have:=Nm (c:=c) (l:=qs.map fun q=>q.cps.toList) (l':=l) (fun z=>by
  have z:=congrArg List.length z
  rw[B6]at z
  have z:qs.length=0:=z
  omega) h0 (fun x hx=>by
  A7⟨q,hq,rfl⟩:=G6.mp hx
  ~hf q hq) h (Nh hj)
 rw[e,this]
def wt:List (List Nat)→Nat
 | []=>0
 | x::r=>x.length+1+wt r
A9 Gr:∀(l:List (List Nat))(a:Nat),(l.map sS).foldl (fun n s=>n+s.length+1) a=a+wt l
 | [],a=>rfl
 | x::r,a=>by
  rw[C9,List.foldl_cons,Gr r,gM]
  show _=a+(x.length+1+wt r)
  omega
A9 Io{c:Nat}{l:List (List Nat)}(h:wt l≤100000):JoinOk (sS [c]) (l.map sS)=true:=by
 have e:(l.map sS).toArray.foldl (fun n s=>n+s.length+(sS [c]).length) 0=wt l:=by
  rw[List.foldl_toArray]
  ~(Gr l 0).trans A3
 show (!Builtin.Str.tooLong ((l.map sS).toArray.foldl (fun n s=>n+s.length+(sS [c]).length) 0))=true
 rw[e]
 A8 Builtin.Str.tooLong
 rw[decide_eq_false (by have:=gR h;omega)]
 rfl
A9 zJ(c:Nat):∀l:List (List Nat),(jn c l).length≤wt l
 | []=>B7 _
 | [x]=>by show x.length≤x.length+1+0;omega
 | x::y::r=>by
  have:=zJ c (y::r)
  show (x++c::jn c (y::r)).length≤x.length+1+wt (y::r)
  rw[D2,E3]
  omega
A9 zK{α:Type}{f:α→List Nat}{n:Nat}:∀{l:List α},(∀x∈l,(f x).length≤n)→wt (l.map f)≤l.length*(n+1)
 | [],_=>L4 _
 | x::r,h=>by
  have h1:=h x C6
  have h2:=zK (f:=f) (n:=n) (l:=r) fun y hy=>h y (B9 _ hy)
  rw[C9,E3,Nat.add_mul]
  show (f x).length+1+wt (r.map f)≤_
  omega
A9 Ej{c a:Nat}:∀{l:List (List Nat)},a∈jn c l→a=c∨∃x∈l,a∈x
  | [],h=>by cases h
  | [x],h=>.inr ⟨x,C6,h⟩
  | x::y::r,h=>by
    have h:a∈x++c::jn c (y::r):=h
    rcases F2.mp h with h | h
    · ~.inr ⟨x,C6,h⟩
    · rcases E4.mp h with h | h
      · ~.inl h
      · rcases Ej h with h | ⟨z,h1,h2⟩
        · ~.inl h
        · ~.inr ⟨z,B9 _ h1,h2⟩
def cM(l:List (List Nat)):D:=.lst (l.map fun x=>D.str (sS x))
A9 Ca(l:List (List Nat)):(l.map fun x=>D.str (sS x))=(l.map sS).map D.str:=by rw[G2];rfl
A9 iY{c:Nat}{l:List (List Nat)}(h:wt l≤100000):nZ (.str (sS [c])) (cM l)=some (.str (sS (jn c l))):=by
 show (strsOf (l.map fun x=>D.str (sS x))).bind (fun xs=>if JoinOk (sS [c]) xs=true then some (D.str (Txt.join (sS [c]) xs))else none)=_
 rw[Ca,sU,C5,if_pos (Io h)]
 show some (D.str (Builtin.Str.glued (sS [c]) (l.map sS)))=_
 rw[StrLaws.glued_eq_join,zH]
A9 pY{c:Nat}{l:List (List Nat)}(h0:l≠[])(h:∀x∈l,c∉x)(hw:wt l≤90000):jK (.str (sS (jn c l))) (.str (sS [c]))=some (cM l):=by
 show (if((sS [c]).length==0)=false∧(sS (jn c l)).length≤90000 then some (D.lst ((Txt.split (sS (jn c l)) (sS [c])).map D.str))else none)=_
 rw[if_pos ⟨rfl,by rw[gM];have:=zJ c l;omega⟩,Np h0 h,←Ca]
 rfl
A9 Yc:("," : Str)=sS [44]:=uE ","
A9 Yd:(" " : Str)=sS [32]:=uE " "
A9 Ye:(";" : Str)=sS [59]:=uE ";"
def iZ(n:Int):Prop:=n.natAbs<10 ^ 60
def uW(t:List Int):List Nat:=jn 44 (t.map txt)
def zO(q:List (List Int)):List Nat:=jn 32 (q.map uW)
def Uq(s:List (List (List Int))):List Nat:=jn 59 (s.map zO)
def Nq(t:List Int):Prop:=t≠[]∧t.length≤5∧∀n∈t,iZ n
def Ip(q:List (List Int)):Prop:=q≠[]∧q.length≤9∧∀t∈q,Nq t
def Nr(s:List (List (List Int))):Prop:=s≠[]∧s.length≤8∧∀q∈s,Ip q
A9 Gs{n:Int}{a:Nat}(h:a∈txt n):a=45∨48≤a∧a≤57:=by
  A8 txt at h
  split at h
  · rcases E4.mp h with h | h
    · ~.inl h
    · ~.inr (oV _ a h)
  · ~.inr (oV _ a h)
A9 Nt{t:List Int}{a:Nat}(h:a∈uW t):a=44∨a=45∨48≤a∧a≤57:=by
 rcases Ej h with h | ⟨x,h1,h2⟩
 ·~.inl h
 ·A7⟨n,_,rfl⟩:=G6.mp h1
  ~.inr (Gs h2)
A9 Yg{q:List (List Int)}{a:Nat}(h:a∈zO q):a=32∨a=44∨a=45∨48≤a∧a≤57:=by
 rcases Ej h with h | ⟨x,h1,h2⟩
 ·~.inl h
 ·A7⟨n,_,rfl⟩:=G6.mp h1
  ~.inr (Nt h2)
A9 Gu{t:List Int}(h:Nq t):wt (t.map txt)≤310:=by
 have:=zK (f:=txt) (n:=61) (l:=t) fun n hn=>Gp (h.2.2 n hn)
 have:=h.2.1
 omega
A9 Gv{q:List (List Int)}(h:Ip q):wt (q.map uW)≤2799:=by
 have:=zK (f:=uW) (n:=310) (l:=q) fun t ht=>D9 (zJ 44 _) (Gu (h.2.2 t ht))
 have:=h.2.1
 omega
A9 Nu{s:List (List (List Int))}(h:Nr s):wt (s.map zO)≤22400:=by
 have:=zK (f:=zO) (n:=2799) (l:=s) fun t ht=>D9 (zJ 32 _) (Gv (h.2.2 t ht))
 have:=h.2.1
 omega
A9 Ir{t:List Int}(h:Nq t):gZ [dTup t]=some (.str (sS (uW t))):=by
 &fP rfl ?_
 A8 qG
 rw[Yc]
 &fM (aU rfl (b:=cM (t.map txt)) ?_ (iY (by have:=Gu h;omega)))
 A8 cM
 rw[G2]
 ~bY (ψ:=D.int) (φ:=fun n=>D.str (sS (txt n))) (tL rfl) (by have:=h.2.1;omega) fun n hn=>aW (aB rfl rfl) rfl (Im (h.2.2 n hn))
A9 Nv{q:List (List Int)}(h:Ip q):jO [bH q]=some (.str (sS (zO q))):=by
 &fP rfl ?_
 A8 tV
 rw[Yd]
 &fM (aU rfl (b:=cM (q.map uW)) ?_ (iY (by have:=Gv h;omega)))
 A8 cM
 rw[G2]
 ~bY (ψ:=dTup) (φ:=fun n=>D.str (sS (uW n))) (dG rfl) (by have:=h.2.1;omega) fun n hn=>aW (aB rfl rfl) rfl (Ir (h.2.2 n hn))
A9 Iu{s:List (List (List Int))}(h:Nr s):iC [aV s]=some (.str (sS (Uq s))):=by
 &fP rfl ?_
 A8 qH
 rw[Ye]
 &fM (aU rfl (b:=cM (s.map zO)) ?_ (iY (by have:=Nu h;omega)))
 A8 cM
 rw[G2]
 ~bY (ψ:=bH) (φ:=fun n=>D.str (sS (zO n))) (dG rfl) (by have:=h.2.1;omega) fun n hn=>aW (aB rfl rfl) rfl (Nv (h.2.2 n hn))
A9 Sw{n:Int}(h:iZ n):vY [.int n]=some (.str (sS (txt n))):=by
 show (if n.natAbs.log2<1920 then some (D.str (yJ n))else none)=_
 have h:n.natAbs<10 ^ 60:=h
 have hl:n.natAbs.log2<1920:=by
  by_cases c:n.natAbs=0
  ·rw[c];decide
  ·rw[Nat.log2_lt c]
   ~Nat.lt_trans h A5
 rw[if_pos hl,Gn]
A9 wK{α β:Type}(f:α→β){l:List α}{k:Nat}{x:α}(h:l[k]?=some x):(l.take k).map f++[f x]=(l.take (k+1)).map f:=by
 rw[List.take_add_one,h,E5]
 rfl
A9 Nx{s:List (List (List Int))}(h:Nr s):lQ [aV s]=some (.str (sS (Uq s))):=by
 suffices hh:∃d,lQ [aV s]=some d∧d=.str (sS (Uq s)) by
  A7⟨d,h1,rfl⟩:=hh
  ~h1
 &gK rfl ?_
 A8 Bl
 rw[Yc,Yd,Ye]
 walk_at "q"
 &Mv (xs:=s.map bH) (fun k env=>∃v2 v3 v4,env=[.fro (aV s),.own (cM ((s.take k).map zO)),v2,v3,v4]) rfl (dG rfl) ⟨_,_,_,rfl⟩ ?_ ?_
 ·rintro k x env hx ⟨v2,v3,v4,rfl⟩
  &⟨by show 2<5;decide,?_⟩
  rw[C3]at hx
  cases qq:s[k]? with
  | none=>rw[qq]at hx;cases hx
  | some q=>
   rw[qq]at hx
   cases hx
   have hk:k<s.length:=(B8.mp qq).1
   have hq:Ip q:=h.2.2 q (J3 qq)
   have KQ:=h.2.1
   &eU (d:=.lst []) rfl A6 ?_
   &Mv (xs:=q.map dTup) (fun j env=>∃v4,env=[.fro (aV s),.own (cM ((s.take k).map zO)),.fro (bH q),.own (cM ((q.take j).map uW)),v4]) rfl (dG rfl) ⟨_,rfl⟩ ?_ ?_
   ·rintro j x env hx ⟨v4,rfl⟩
    &⟨by show 4<5;decide,?_⟩
    rw[C3]at hx
    cases tt:q[j]? with
    | none=>rw[tt]at hx;cases hx
    | some t=>
     rw[tt]at hx
     cases hx
     have hj:j<q.length:=(B8.mp tt).1
     have ht:Nq t:=hq.2.2 t (J3 tt)
     have VH:=hq.2.1
     have hc:bU (gP (aG 4)) [] cV (fL vY (aC (aG 0) aM)) (rE [.fro (aV s),.own (cM ((s.take k).map zO)),.fro (bH q),.own (cM ((q.take j).map uW)),.fro (dTup t)])=some (cM (t.map txt)):=by
      have e0:cM (t.map txt)=.lst (t.map fun n=>D.str (sS (txt n))):=by A8 cM;rw[G2];rfl
      rw[e0]
      ~bY (ψ:=D.int) (φ:=fun n=>D.str (sS (txt n))) (tL rfl) (by have:=ht.2.1;omega) fun n hn=>dF (aB rfl rfl) (Sw (ht.2.2 n hn))
     &Dy (ds:=((q.take j).map uW).map fun x=>D.str (sS x)) (d:=.str (sS (uW t))) rfl (aU rfl hc (iY (by have:=Gu ht;omega))) (by rw[B6,B6,K2];omega) ⟨_,rfl,.fro (dTup t),?_⟩
     rw[←wK uW tt]
     A8 cM
     rw[E5]
     rfl
   ·rintro env ⟨v4,rfl⟩
    rw[B6,Q8]
    &Dy (ds:=((s.take k).map zO).map fun x=>D.str (sS x)) (d:=.str (sS (zO q))) rfl (aU rfl rfl (iY (by have:=Gv hq;omega))) (by rw[B6,B6,K2];omega) ⟨_,rfl,.fro (bH q),.own (cM (q.map uW)),v4,?_⟩
    rw[←wK zO qq]
    A8 cM
    rw[E5]
    rfl
 ·rintro env ⟨v2,v3,v4,rfl⟩
  rw[B6,Q8]
  ~lN (aU rfl rfl (iY (by have:=Nu h;omega))) ⟨_,rfl,rfl⟩
A9 wL{t:List Int}(h:Nq t):eY [.str (sS (uW t)),.int t.length]=some (dTup t):=by
 suffices hh:∃d,eY [.str (sS (uW t)),.int t.length]=some d∧d=dTup t by
  A7⟨d,h1,rfl⟩:=hh
  ~h1
 &gK rfl ?_
 A8 tW
 rw[Yc]
 have hs:jK (.str (sS (uW t))) (.str (sS [44]))=some (cM (t.map txt)):=pY (fun z=>h.1 (L1.mp z)) (fun x hx=>by
  A7⟨n,_,rfl⟩:=G6.mp hx
  intro z
  have:=Gs z
  omega) (by have:=Gu h;omega)
 &eU (d:=cI t) ?_ A6 ?_
 ·show _=some (D.lst (t.map D.int))
  &bY (xs:=t) (ψ:=fun n=>D.str (sS (txt n))) (φ:=D.int) ?_ (by have:=h.2.1;omega) fun n hn=>aW (aB rfl rfl) rfl (Nk (h.2.2 n hn))
  &(dG (aU rfl rfl hs)).trans ?_
  rw[G2]
  rfl
 &kY (bW (aU (dF (aB rfl rfl) (pN t)) rfl (Ge _ _))) (by simp) (nD ?_)
 &lN (dF (aB rfl rfl) ?_) ⟨_,rfl,rfl⟩
 ~qF t
A9 Ny{rs:List (List Int)}{z:Int}(h:Ip (rs++[[z]]))(h5:∀t∈rs,t.length=5):iR [.str (sS (zO (rs++[[z]])))]=some (bH (rs++[[z]])):=by
 suffices hh:∃d,iR [.str (sS (zO (rs++[[z]])))]=some d∧d=bH (rs++[[z]]) by
  A7⟨d,h1,rfl⟩:=hh
  ~h1
 &gK rfl ?_
 A8 wF
 rw[Yd]
 have hs:jK (.str (sS (zO (rs++[[z]])))) (.str (sS [32]))=some (cM ((rs++[[z]]).map uW)):=pY (fun z=>h.1 (L1.mp z)) (fun x hx=>by
  A7⟨n,_,rfl⟩:=G6.mp hx
  intro z
  have:=Nt z
  omega) (by have:=Gv h;omega)
 have hl:rs.length≤8:=by have:=h.2.1;rw[D2,F7]at this;omega
 &eU (aU rfl rfl hs) A6 ?_
 have ew:cM ((rs++[[z]]).map uW)=.lst ((rs.map fun t=>D.str (sS (uW t)))++[D.str (sS (uW [z]))]):=by
  A8 cM
  rw[E5,E5,G2]
  rfl
 rw[ew]
 &eU (d:=bH rs) ?_ A6 ?_
 ·&bY (xs:=rs) (ψ:=fun t=>D.str (sS (uW t))) (φ:=dTup) ?_ A3 fun t ht=>?_
  ·&(dG (Xx rfl rfl rfl (.inl rfl))).trans ?_
   rw[Bh,List.dropLast_concat]
  ·&aW (aB rfl (aB (dF (aB rfl rfl) (oF _)) rfl)) rfl ?_
   have:=wL (h.2.2 t (K6 _ ht))
   rw[h5 t ht]at this
   ~this
 &lN (aU rfl (b:=.lst [dTup [z]]) (Gh (aB (aW (aB (aU rfl (yO rfl) (Rt (by rw[List.getLast?_append];rfl))) (aB (dF (aB rfl rfl) (oF _)) rfl)) rfl (wL (t:=[z]) (h.2.2 _ (by simp)))) rfl) A6) (Ih ?_ ?_)) ⟨_,rfl,?_⟩
 ·&Bf fun d hd=>?_
  rcases F2.mp hd with q | q
  ·A7⟨t,_,rfl⟩:=G6.mp q
   ~tM t
  ·rw[E6.mp q]
   ~tM _
 ·rw[B6,F7];omega
 ·A8 bH
  rw[E5]
  rfl
def Shaped(R:Nat)(q:List (List Int)):Prop:=∃(rs:List (List Int))(z:Int),q=rs++[[z]]∧rs.length=R∧(∀t∈rs,t.length=5)∧(∀t∈rs,∀n∈t,iZ n)∧iZ z
A9 Shaped.ok{R:Nat}{q:List (List Int)}(h:Shaped R q)(hR:R≤8):Ip q:=by
 A7⟨rs,z,rfl,h1,h2,h3,h4⟩:=h
 &⟨by simp,by rw[D2,F7];omega,fun t ht=>?_⟩
 rcases F2.mp ht with c | c
 ·~⟨fun e=>(by have:=h2 t c;rw[e]at this;cases this),(by rw[h2 t c];~B7 _),h3 t c⟩
 ·rw[E6.mp c]
  ~⟨by simp,(by show 1≤5;decide),fun n hn=>by rw[E6.mp hn];~h4⟩
A9 Shaped.len{R:Nat}{q:List (List Int)}(h:Shaped R q):q.length=R+1:=by
 A7⟨rs,z,rfl,h1,_⟩:=h
 rw[D2,F7,h1]
A9 Sx{f1 f2 f3:FE}{e:DE}{a b c:Int}(h1:f1 e=some (.int a))(h2:f2 e=some (.int b))(h3:f3 e=some (.int c)):Rg Fi Fi f1 f2 f3 e=some (.bl (decide (a≤b)&&decide (b≤c))):=by
 A8 Rg
 rw[zF h1 h2 h3]
 rfl
A9 Sy{s:List (List (List Int))}{R:Nat}(h0:s≠[])(h8:s.length≤8)(GQ:1≤R)(hR:R≤8)(h:∀q∈s,Shaped R q):oO [aV s]=some (.bl true):=by
 suffices hh:∃d,oO [aV s]=some d∧d=.bl true by
  A7⟨d,h1,rfl⟩:=hh
  ~h1
 have hl:1≤s.length:=by
  cases s with
  | nil=>~absurd rfl h0
  | cons a r=>simp
 &gK rfl ?_
 A8 Gj
 have e0:s[0]?=some s[0]:=B4 hl
 have l0:=(h _ (N0 hl)).len
 have PN:=Bv e0
 &kY (b:=false) ((Ga (bR (b:=true) (bW (jL rfl rfl)))).trans ((bR (zF (a:=1) (b:=s.length) (c:=8) rfl (dF (aB rfl rfl) (wJ s)) rfl)).trans ?_)) rfl (nD ?_)
 ·rw[decide_eq_true (show (1:Int)≤s.length by omega),decide_eq_true (show (s.length:Int)≤8 by omega)]
  rfl
 have hc1:bU (gP (aG 0)) [] cV (qR "list" (aG 0)) (rE [.fro (aV s)])=some (.lst (s.map fun q=>D.bl ((fun _=>true) q))):=
  bY (xs:=s) (ψ:=bH) (φ:=fun _=>D.bl true) (dG rfl) A3 fun q _=>jL rfl rfl
 &kY (bR (bW (dF (aB hc1 rfl) (tQ (fun _=>true) s)))) (by simp) (nD ?_)
 have hc2:bU (gP (aG 0)) [0] cV (f2 vN (fL eE (aC (aG 0) aM)) (fL eE (aC (f2 sG (aG 1) (fC (.int 0))) aM))) (rE [.fro (aV s)])=some (.lst (s.map fun q=>D.bl ((fun _=>true) q))):=by
  &bY (xs:=s) (ψ:=bH) (φ:=fun _=>D.bl true) (dG rfl) A3 fun q hq=>?_
  &(aU (dF (aB rfl rfl) (oR q)) (dF (aB (aU rfl rfl PN) rfl) (oR _)) (oE _ _)).trans ?_
  rw[decide_eq_true (by rw[(h q hq).len,l0])]
 &lN (Mr (Sx (a:=2) (c:=9) rfl (dF (aB (aU rfl rfl PN) rfl) (oR _)) rfl) (dF (aB hc2 rfl) (tQ (fun _=>true) s))) ⟨_,rfl,?_⟩
 rw[l0,decide_eq_true (show (2:Int)≤((R+1:Nat):Int) by omega),decide_eq_true (show ((R+1:Nat):Int)≤9 by omega)]
 simp
A9 Iv{s:List (List (List Int))}{R:Nat}(h0:s≠[])(h8:s.length≤8)(GQ:1≤R)(hR:R≤8)(h:∀q∈s,Shaped R q):fD [.str (sS (Uq s))]=some (aV s):=by
 suffices hh:∃d,fD [.str (sS (Uq s))]=some d∧d=aV s by
  A7⟨d,h1,rfl⟩:=hh
  ~h1
 have hst:Nr s:=⟨h0,h8,fun q hq=>(h q hq).ok hR⟩
 &gK rfl ?_
 A8 tX
 rw[Ye]
 have hs:jK (.str (sS (Uq s))) (.str (sS [59]))=some (cM (s.map zO)):=pY (fun z=>h0 (L1.mp z)) (fun x hx=>by
  A7⟨n,_,rfl⟩:=G6.mp hx
  intro z
  have:=Yg z
  omega) (by have:=Nu hst;omega)
 &kY (b:=false) (bR (b:=true) (bW (zG rfl))) rfl (nD ?_)
 &eU (d:=aV s) ?_ A6 ?_
 ·&bY (xs:=s) (ψ:=fun q=>D.str (sS (zO q))) (φ:=bH) ?_ A3 fun q hq=>?_
  ·&(dG (aU rfl rfl hs)).trans ?_
   rw[G2]
   rfl
  ·have hp:=(h q hq).ok hR
   A7⟨rs,z,rfl,h1,h2,_⟩:=h q hq
   ~aW (aB rfl rfl) rfl (Ny hp h2)
 &kY (b:=false) (bR (bW (aW (aB rfl rfl) rfl (Sy h0 h8 GQ hR h)))) rfl (nD ?_)
 ~Dw rfl ⟨_,rfl,rfl⟩
A9 Gw{ns:List Int}{k:Int}(hl:ns.length≤63)(h0:0≤k)(h1:k≤1000):∃n,cH [cI ns,.int k]=some (.int n)∧iZ n:=by
 suffices h:∃d,cH [cI ns,.int k]=some d∧∃n,d=.int n∧iZ n by
  A7⟨d,h1,n,rfl,h2⟩:=h
  ~⟨n,h1,h2⟩
 &gK rfl ?_
 A8 tU
 have hd:=rA (k:=k) hl h0 h1
 A7⟨b0,b1⟩:=Rx ns k
 have hz:ns.length=0→lY ns k=0:=fun z=>by A8 lY;rw[if_pos z]
 generalize lY ns k=r at *
 walk_at "q"
 have SM:(0:Int)<10 ^ (60:Int).toNat:=Q0 A5
 have KR:(0:Int)<10 ^ (57:Int).toNat:=Q0 A5
 have m0:=F3 (r/8) (show (12:Int)≠0 by decide)
 have m1:=E7 (r/8) (show (0:Int)<12 by decide)
 have fin:∀x:Int,0≤x→x<10 ^ (60:Int).toNat→Qs (fun r=>∃d,r=.ret d∧∃n,d=.int n∧iZ n) ((aR (kZ (fB (f2 vN (f2 gO (f2 uO (aG 2) (fC (.int 96))) (fC (.int 3))) (fC (.int 0)))) (cA (Av (aG 3))) bV)
 (mW 3)) [.fro (cI ns),.fro (.int k),.own (.int r),.own (.int x)]):=by
  intro x m0 m1
  have m1:x<10 ^ 60:=m1
  &Rr (bW (aU (aU (aU rfl rfl (tD A5 A5)) rfl (eH A5)) rfl (oE _ _))) (fun hb=>?_) (fun hb=>?_)
  ·&DG (yO rfl) ⟨_,rfl,_,rfl,?_⟩
   A8 iZ
   omega
  ·&nD (Dw rfl ⟨_,rfl,_,rfl,?_⟩)
   A8 iZ
   omega
 have second:∀x:Int,0≤x→x<10 ^ (60:Int).toNat→Qs (fun r=>∃d,r=.ret d∧∃n,d=.int n∧iZ n) ((aR (kZ (fB (f2 vN (f2 gO (aG 2) (fC (.int 8))) (fC (.int 1)))) (cX 3 (f2 De (f2 De (f2 Ah (fC (.int 10)) (fC (.int 60))) (fC (.int 1))) (f2 gO (f2 uO (aG 2) (fC (.int 8))) (fC (.int 1000))))) bV)
 (aR (kZ (fB (f2 vN (f2 gO (f2 uO (aG 2) (fC (.int 96))) (fC (.int 3))) (fC (.int 0)))) (cA (Av (aG 3))) bV)
 (mW 3))) [.fro (cI ns),.fro (.int k),.own (.int r),.own (.int x)]):=by
  intro x m0 m1
  &Rr (bW (aU (aU rfl rfl (eH A5)) rfl (oE _ _))) (fun hb=>?_) (fun hb=>?_)
  ·&eU (aU (aU (aU rfl rfl (lM ⟨by decide,by decide,by decide⟩)) rfl (sY _ _)) (aU (aU rfl rfl (tD A5 A5)) rfl (eH A5)) (sY _ _)) A6 (fin _ ?_ ?_)
   ·have a1:=E7 (r/8) (show (0:Int)<1000 by decide)
    have a2:(1000:Int)<10 ^ (60:Int).toNat:=by decide
    omega
   ·have a1:=F3 (r/8) (show (1000:Int)≠0 by decide)
    omega
  ·~nD (fin x m0 m1)
 &Rr (bW (aU (aU rfl rfl (eH A5)) rfl (oE _ _))) (fun hb=>?_) (fun hb=>?_)
 ·by_cases c:0<r
  ·have hn:ns.length≠0:=fun z=>by have:=hz z;omega
   have cp:(0:Int)<ns.length:=by omega
   have k0:=F3 k (show (ns.length:Int)≠0 by omega)
   have k1:=E7 k cp
   &eU (Um ((bW (aU rfl rfl (yL _ _))).trans (by rw[decide_eq_true c])) (aU (aU (aU rfl rfl (lM ⟨by decide,by decide,by omega⟩)) (aU (aU rfl (aU rfl (dF (aB rfl rfl) (pN ns)) (eH cp)) (Bd k0 k1)) (aU rfl rfl (lM ⟨by decide,by decide,by decide⟩)) (eH KR)) (gC _ _)) (aU rfl rfl (lM ⟨by decide,by decide,by decide⟩)) (eH KR))) A6 (second _ ?_ ?_)
   ·~F3 _ A3
   ·&Int.lt_trans (E7 _ KR) ?_
    decide
  ·&eU (Uo ((bW (aU rfl rfl (yL _ _))).trans (by rw[decide_eq_false c])) rfl) A6 (second 0 A5 SM)
 ·&nD (second _ m0 (Int.lt_trans m1 ?_))
  decide
A9 Tc{ns:List Int}{P R:Nat}(hl:ns.length≤63)(hP:P≤8)(hR:R≤8):∃s:List (List (List Int)),lO [cI ns,.int P,.int R]=some (aV s)∧s.length=P∧∀q∈s,Shaped R q:=by
  suffices h:∃d,lO [cI ns,.int P,.int R]=some d∧∃s:List (List (List Int)),d=aV s∧s.length=P∧∀q∈s,Shaped R q by
    A7⟨d,h1,s,rfl,h2⟩:=h
    ~⟨s,h1,h2⟩
  &gK rfl ?_
  A8 Bk
  walk_at "q"
  &yQ (n:=P) (fun k env=>∃(s:List (List (List Int)))(v4 v5 v6 v7:SD),env=[.fro (cI ns),.fro (.int P),.fro (.int R),.own (aV s),v4,v5,v6,v7]∧s.length=k∧∀q∈s,Shaped R q) (oG (aB rfl rfl) A3) ⟨[],_,_,_,_,rfl,rfl,fun q hq=>by cases hq⟩ ?_ ?_
  · rintro k env hk ⟨s,v4,v5,v6,v7,rfl,hs,hsh⟩
    &⟨by show 4<8;decide,?_⟩
    &eU (d:=.lst []) rfl A6 ?_
    &yQ (n:=R) (fun j env=>∃(rs:List (List Int))(v6 v7:SD),env=[.fro (cI ns),.fro (.int P),.fro (.int R),.own (aV s),.fro (.int k),.own (bH rs),v6,v7]∧rs.length=j∧(∀t∈rs,t.length=5)∧∀t∈rs,∀n∈t,iZ n) (oG (aB rfl rfl) A3) ⟨[],_,_,rfl,rfl,fun q hq=>(by cases hq),fun q hq=>(by cases hq)⟩ ?_ ?_
    · rintro j env hj ⟨rs,v6,v7,rfl,h1,h2,h3⟩
      &⟨by show 6<8;decide,?_⟩
      have kR:(k:Int)*R≤7*8:=O4 A3 A3 A3 A5
      have VJ:0≤(k:Int)*R:=O3 A3 A3
      &eU (d:=.int (20+5*((k:Int)*R+j))) (aU rfl (aU rfl (aU (aU rfl rfl (sZ (.inl ⟨by omega,by omega⟩))) rfl (gC _ _)) (sZ (.inl ⟨by decide,by decide⟩))) (gC _ _)) A6 ?_
      generalize hat:20+5*((k:Int)*R+j)=at'
      have ha0:0≤at':=by omega
      have ha1:at'≤900:=by omega
      have hex:∀i:Nat,i<5→∃n,cH [cI ns,.int (at'+i)]=some (.int n)∧iZ n:=fun i hi=>Gw hl A3 A3
      A7⟨t,ht5,htn,hts⟩:∃t:List Int,t.length=5∧(∀i:Nat,i<5→cH [cI ns,.int (at'+i)]=some (.int (t.getD i 0)))∧∀n∈t,iZ n:=by
        A7⟨n0,a0,b0⟩:=hex 0 A5
        A7⟨n1,a1,b1⟩:=hex 1 A5
        A7⟨n2,a2,b2⟩:=hex 2 A5
        A7⟨n3,a3,b3⟩:=hex 3 A5
        A7⟨n4,a4,b4⟩:=hex 4 A5
        &⟨[n0,n1,n2,n3,n4],rfl,fun i hi=>?_,fun n hn=>?_⟩
        · match i,hi with
          | 0,_=>~a0
          | 1,_=>~a1
          | 2,_=>~a2
          | 3,_=>~a3
          | 4,_=>~a4
        · rcases E4.mp hn with z | hn
          · rw[z];~b0
          rcases E4.mp hn with z | hn
          · rw[z];~b1
          rcases E4.mp hn with z | hn
          · rw[z];~b2
          rcases E4.mp hn with z | hn
          · rw[z];~b3
          rcases E4.mp hn with z | hn
          · rw[z];~b4
          cases hn
      have hc:bU (iK (aC (fC (.int 5)) aM)) [0,7] cV (bJ 2 cH (aC (aG 1) (aC (f2 fW (aG 2) (aG 0)) aM))) (rE [.fro (cI ns),.fro (.int P),.fro (.int R),.own (aV s),.fro (.int k),.own (bH rs),.fro (.int j),.own (.int at')])=some (cI t):=by
        have e:cI t=.lst ((E9 5).map fun i=>D.int (t.getD i 0)):=by
          A8 cI
          congr 1
          &Q5 (by rw[B6,B6,M4,ht5]) fun i h1 h2=>?_
          rw[Q9,Q9,P5,F5,B4 (by simpa using h1)]
          rfl
        rw[e]
        &Dz (n:=5) (φ:=fun i=>D.int (t.getD i 0)) (oG (n:=5) (aB rfl rfl) A5) A5 fun i hi=>?_
        ~aW (aB rfl (aB (aU rfl rfl (gC _ _)) rfl)) rfl (htn i hi)
      &Dy (ds:=rs.map dTup) (d:=dTup t) rfl (dF (aB hc rfl) (qF t)) (by rw[B6];omega) ⟨_,rfl,rs++[t],.fro (.int j),.own (.int at'),?_,by rw[D2,h1];rfl,fun u hu=>?_,fun u hu=>?_⟩
      · A8 bH
        rw[E5]
        rfl
      · rcases F2.mp hu with c | c
        · ~h2 u c
        · rw[E6.mp c];~ht5
      · rcases F2.mp hu with c | c
        · ~h3 u c
        · rw[E6.mp c];~hts
    · rintro env ⟨rs,v6,v7,rfl,h1,h2,h3⟩
      A7⟨z,hz1,hz2⟩:=Gw (k:=10+(k:Int)) hl A3 A3
      &DK (ds:=rs.map dTup) (d:=dTup [z]) rfl (Gg (aB (aW (aB rfl (aB (aU rfl rfl (gC _ _)) rfl)) rfl hz1) rfl) A6) (by rw[B6];omega) ?_
      have e:D.lst (rs.map dTup++[dTup [z]])=bH (rs++[[z]]):=by A8 bH;rw[E5];rfl
      rw[e]
      &KC ?_
      show ∃env',wB 3 5 [.fro (cI ns),.fro (.int P),.fro (.int R),.own (.lst (s.map bH)),.fro (.int k),.own (bH (rs++[[z]])),v6,v7]=.next env'∧_
      &⟨[.fro (cI ns),.fro (.int P),.fro (.int R),.own (.lst (s.map bH++[bH (rs++[[z]])])),.fro (.int k),.no,v6,v7],?_,s++[rs++[[z]]],.fro (.int k),.no,v6,v7,?_,by rw[D2,hs];rfl,fun u hu=>?_⟩
      · A8 wB
        show (if(3:Nat)≠5∧(s.map bH).length<100000 then _ else _)=_
        rw[if_pos ⟨by decide,by rw[B6];omega⟩]
        rfl
      · A8 aV
        rw[E5]
        rfl
      · rcases F2.mp hu with c | c
        · ~hsh u c
        · rw[E6.mp c]
          ~⟨rs,z,rfl,h1,h2,h3,hz2⟩
  · rintro env ⟨s,v4,v5,v6,v7,rfl,hs,hsh⟩
    ~Dw rfl ⟨_,rfl,s,rfl,hs,hsh⟩
A9 Nz{s:L2.Step}{d x:D}{j:Nat}(h1:uQ s d=some j)(h2:(kids d)[j]?=some x):pI [s] d=some x:=by A8 pI;rw[h1,C5,h2];rfl
A9 Yh{xs:List D}{k:Nat}{x:D}(h:xs[k]?=some x):pI [.ix k] (.lst xs)=some x:=Nz (s:=.ix k) (d:=.lst xs) (j:=k) rfl h
A9 DW{g:FE}{e:DE}{k:Int}(h:g e=some (.int k))(h0:0≤k):BW qQ g e=some [.ix k.toNat]:=by
 A8 BW qQ
 rw[C5,h,C5]
 ~if_pos h0
A9 Oa(ns:List Int)(hl:ns.length≤63):Xy [.lst (ns.map D.int)]=some (.bl true):=by
 suffices h:∃d,Xy [cI ns]=some d∧d=.bl true by
  A7⟨d,h1,rfl⟩:=h
  ~h1
 &gK rfl ?_
 A8 DP
 have hd0:=rA (k:=0) hl A5 A5
 have hd1:=rA (k:=1) hl A5 A5
 have hd2:=rA (k:=2) hl A5 A5
 generalize lY ns 0=r0 at hd0
 generalize lY ns 1=r1 at hd1
 generalize lY ns 2=r2 at hd2
 A7⟨P,eP,VL,SN⟩:=Bw r0
 A7⟨R,eR,GQ,KY⟩:=Bw r1
 walk_at "q"
 rw[eP]
 walk_at "q"
 rw[eR]
 A7⟨s,hm,PQ,hsh⟩:=Tc (R:=R) hl SN KY
 have hs0:s≠[]:=fun z=>by rw[z]at PQ;simp at PQ;omega
 have KQ:s.length≤8:=by omega
 have hst:Nr s:=⟨hs0,KQ,fun q hq=>(hsh q hq).ok KY⟩
 have hpl:∀q∈s,q.length≤1000:=fun q hq=>by rw[(hsh q hq).len];omega
 have hal:=Nf s A3 hpl
 have hrd:=Iv hs0 KQ GQ KY hsh
 &eU (aW (aB rfl (aB rfl (aB rfl rfl))) rfl hm) A6 ?_
 &eU (Il (s:=s) (dG rfl) A3) A6 ?_
 &eU (aW (aB rfl rfl) rfl (Nx hst)) A6 ?_
 &eU (aW (aB rfl rfl) rfl (Iu hst)) A6 ?_
 &kY (b:=false) ((Ga (bR (b:=true) (bW (zG rfl)))).trans ((Ga ((bW (aU rfl rfl (Gm _ _))).trans (by simp))).trans (bR (bW (aW (aB rfl (aB rfl rfl)) rfl hal))))) rfl (nD ?_)
 &eU (aW (aB rfl rfl) rfl hrd) A6 ?_
 &kY (b:=false) (bR (bW (aW (aB rfl (aB rfl rfl)) rfl hal))) rfl (nD ?_)
 have hPpos:(0:Int)<(P:Int):=by omega
 have x0:=F3 r2 (show (P:Int)≠0 by omega)
 have x1:=E7 r2 hPpos
 have hix:f2 gO (bJ 2 eN (aC (aG 0) (aC (fC (.int 2)) aM))) (aG 1) (rE [.fro (cI ns),.own (.int P),.own (.int R),.own (aV s),.own (aV s),.own (.str (sS (Uq s))),.own (.str (sS (Uq s))),.own (aV s)])=some (.int (r2%P)):=aU (aW (aB rfl (aB rfl rfl)) rfl hd2) rfl (eH hPpos)
 have hk:(r2%P).toNat<s.length:=by omega
 &KD (Mw (p:=[.ix (r2%P).toNat]) (d0:=aV s) rfl (DW hix x0) (Yh (by rw[C3,B4 hk];rfl))) ?_
 ~lN (aW (aB (aW (aB rfl rfl) rfl hrd) (aB rfl rfl)) rfl hal) ⟨_,rfl,rfl⟩
end Rs

def PySem.W.Fast.tw9823476337120148525:Unit:=()
def PySem.W.Fast.tw7157075155777389046:Unit:=()
def PySem.W.Fast.tw16757449153004348840:Unit:=()
def PySem.W.Fast.tw15830954633828951563:Unit:=()
def PySem.W.Fast.tw9323582868499934483:Unit:=()
def PySem.W.Fast.tw1984814481996105778:Unit:=()
def PySem.W.Fast.tw4953817116706343241:Unit:=()
def PySem.W.Fast.tw13925456947298770778:Unit:=()
def PySem.W.Fast.tw16771428051846273539:Unit:=()
def PySem.W.Fast.tw15158088480569885593:Unit:=()
def PySem.W.Fast.tw3663038586657706237:Unit:=()
namespace Rs
open PySem L2
A9 Td{K:aA}{f:Addr}{oc:Value}{od:Option Addr}{fd:FuncData}{sl:Array (Option Value)}(l:K.lookup f=some ⟨oc,od,.func fd,sl⟩):F6 K (.ref f)=true:=by
 A8 F6
 dsimp only
 rw[l]
A9 KZ{K:aA}{h:Heap}{mg:Str→Option Value}{x:Str}{st:Stmt}{f:Addr}{oc:Value}{od an:Option Addr}{osl:Array (Option Value)}{kV doc pm cdv ct:Value}(X:K.In h)(G:h.Ns mainGlobals mg)(a:K9 K mainGlobals x=some (some (.ref f)))(l:K.lookup f=some ⟨oc,od,.func (E2 x x (cW st) (bN st) (aF st) .none kV doc pm an cdv ct),osl⟩)(c:J1 K cdv x=true):Raw K mg x st:=Wj X G a l c (Td l)
A9 walk{l:R3}{q:Program}{loose:List Str}{XP:(Str→Option Value)→Heap→Prop}{YP:World→Heap→Prop}{d:DefRec}{K:Params→aA}(hn:l.most=some 63)(hdf:d.params.defaults=[])(hdn:d.name = "law")
  (hY:∀(w:World)(h:Heap),YP w h→(K w.params).In h)
  (F:∀(w:World)(mg:Str→Option Value)(h:Heap),(K w.params).In h→h.Ns mainGlobals mg→Raw (K w.params) mg "_law_draw" tR∧Raw (K w.params) mg "_law_number" nF∧Raw (K w.params) mg "_law_made" oH∧Raw (K w.params) mg "_law_text" oJ∧Raw (K w.params) mg "write_number" jM∧Raw (K w.params) mg "write_thing" gY∧Raw (K w.params) mg "write_pane" jN∧Raw (K w.params) mg "write_stone" iB∧Raw (K w.params) mg "is_number" mH∧Raw (K w.params) mg "read_number" lR∧Raw (K w.params) mg "read_thing" jP∧Raw (K w.params) mg "read_pane" mJ∧Raw (K w.params) mg "is_grid" oM∧Raw (K w.params) mg "read_stone" jQ∧Raw (K w.params) mg "_law_whole" pO∧Raw (K w.params) mg "_law_tuple" pP∧Raw (K w.params) mg "_law_alike" pQ∧Raw (K w.params) mg "law" Rw∧mg "len" = none∧mg "range" = none∧mg "tuple" = none∧mg "str" = none∧mg "all" = none∧mg "isinstance" = none∧mg "int" = none∧mg "list" = none∧mg "bool" = none∧fO mg "BETWEEN_NUMBERS" "," ∧ fO mg "BETWEEN_THINGS" " " ∧ fO mg "BETWEEN_PANES" ";" ∧ fO mg "MINUS" "-" ∧ Fw mg "MOST_FIGURES" (60)∧fO mg "FIGURES" "0123456789" ∧ fO mg "ZERO" "0" ∧ vV (K w.params) mg "BLANK_RECORD" [0,0,-1,-1,0]∧vV (K w.params) mg "BLANK_SEAL" [0]) :
  R7 q loose XP YP l.row.toRowW d [] (fun f vs=>R1 f vs):=by
 &L2.Py (n:=63) (k:=6) (x := "script") (CX:=fun _=>Jd) (sp:=fun w=>JM (K w.params)) hn A5 hdf ⟨rfl,by decide,by decide⟩ hY ?_ (fun _ _ a ns hl _ hS=>⟨a,ns,rfl,hS,hl,fun _=>rfl⟩) fun _ _ _ _ _ z=>z
 intro w mg fa h KX G hmg
 A7⟨Ob,Ek,Oc,Od,zL,Cd,El,Ce,Iw,Cg,Em,Iz,Te,En,Ja,Jb,Jc,LC,cP,jT,jU,nG,Ed,aN,Ij,lW,My,bL,bZ,cJ,Ef,jW,uA,Gk,jY,nM⟩:=F w mg h KX G
 A7⟨f,fd,FL,m⟩:=LC.ex
 rw[hdn]at hmg
 have e:=hmg.symm.trans m
 cases e
 &⟨fd,Dp FL (fun _ _ _ _ _ _ u=>rfl),fun base _ _=>?_⟩
 have fU:=Ea (P:=l.prog) (w:=w) (mg:=mg) (base:=base) Ob cP
 have jR:=yR (P:=l.prog) (w:=w) (mg:=mg) (base:=base) Ek fU cP
 have uC:=Eb (P:=l.prog) (w:=w) (mg:=mg) (base:=base) Oc jR jT jU
 have uD:=Ec (P:=l.prog) (w:=w) (mg:=mg) (base:=base) Od nG
 have jV:=tY (P:=l.prog) (w:=w) (mg:=mg) (base:=base) zL nG
 have lU:=uT (P:=l.prog) (w:=w) (mg:=mg) (base:=base) Cd jV bL
 have nH:=yU (P:=l.prog) (w:=w) (mg:=mg) (base:=base) El lU bZ
 have lX:=uU (P:=l.prog) (w:=w) (mg:=mg) (base:=base) Ce nH cJ
 have pR:=Bo (P:=l.prog) (w:=w) (mg:=mg) (base:=base) Iw cP Ed Ef jW uA Gk
 have lV:=uV (P:=l.prog) (w:=w) (mg:=mg) (base:=base) Cg pR aN nG Ij
 have jX:=yX (P:=l.prog) (w:=w) (mg:=mg) (base:=base) Em lV cP jU bL
 have pU:=Bp (P:=l.prog) (w:=w) (mg:=mg) (base:=base) Iz jX cP bZ jY nM
 have zA:=Ik (P:=l.prog) (w:=w) (mg:=mg) (base:=base) Te cP aN lW Ed
 have jZ:=yZ (P:=l.prog) (w:=w) (mg:=mg) (base:=base) En pU zA aN nG cJ
 have pW:=Bq (P:=l.prog) (w:=w) (mg:=mg) (base:=base) Ja aN My Ij
 have pX:=Br (P:=l.prog) (w:=w) (mg:=mg) (base:=base) Jb pW cP aN jU
 have iW:=Bu (P:=l.prog) (w:=w) (mg:=mg) (base:=base) Jc pX cP aN lW jT
 ~Xz FL fU uC uD lX iW jZ lW aN nG Oa
end Rs
open PySem PySem.W PyProof.Rows
set_option maxRecDepth 100000 in
set_option maxHeartbeats 0 in
theorem PySem.Challenge.cw_ripestone_k54_stones_written_holds : PySem.Challenge.rw_ripestone_k54_stones_written.Holds := by
 w_on;o_law;k_head;(case hw=>w_witness2)
 k_fill
 &Rs.walk (l:=PySem.Challenge.rw_ripestone_k54_stones_written) rfl rfl rfl (fun w h Y=>PySem.W.kIn_of Y) ?F
 case F=>
  intro w mg h KX G
  &⟨?_,?_,?_,?_,?_,?_,?_,?_,?_,?_,?_,?_,?_,?_,?_,?_,?_,?_,E8 KX G ?_,E8 KX G ?_,E8 KX G ?_,E8 KX G ?_,E8 KX G ?_,E8 KX G ?_,E8 KX G ?_,E8 KX G ?_,E8 KX G ?_,?_,?_,?_,?_,?_,?_,?_,?_,?_⟩
  iterate 18
   ·refine' Rs.KZ KX G ?a ?l ?c
    (case a=>k_is);(case l=>k_is);(case c=>k_is)
  iterate 9
   ·k_is
  ·refine' L2.iM KX G ?a
   (case a=>k_is)
  ·refine' L2.iM KX G ?a
   (case a=>k_is)
  ·refine' L2.iM KX G ?a
   (case a=>k_is)
  ·refine' L2.iM KX G ?a
   (case a=>k_is)
  ·refine' L2.Ls KX G ?a
   (case a=>k_is)
  ·refine' L2.iM KX G ?a
   (case a=>k_is)
  ·refine' L2.iM KX G ?a
   (case a=>k_is)
  ·refine' L2.Aw KX G ?a ?l ?v ?s
   (case a=>k_is);(case l=>k_is)
   (case v=>~.cons ⟨_,rfl⟩ (.cons ⟨_,rfl⟩ (.cons ⟨_,rfl⟩ (.cons ⟨_,rfl⟩ (.cons ⟨_,rfl⟩ (.nil))))))
   (case s=>decide)
  ·refine' L2.Aw KX G ?a ?l ?v ?s
   (case a=>k_is);(case l=>k_is)
   (case v=>~.cons ⟨_,rfl⟩ (.nil))
   (case s=>decide)
#print axioms PySem.Challenge.cw_ripestone_k54_stones_written_holds
