import PyProof.Rows.All
import Wide.All
import OpenK.AllK
import Wide.FinOn
import Lean
import PyProof.EqAt
import PyProof.EqKinds
import PyProof.TupleCall
import PySem.Challenge.RW_ripestone_k33_plainly
open Array renaming getD_eq_getD_getElem?→F3,length_toList→K2,getElem?_toList→L7,toList→U3
open Array.Perm renaming refl→P2
open Bool renaming false_ne_true→C6,and_eq_true→G8,eq_iff_iff→K3,false_eq_true→N0,and_false→T7
open Int renaming emod_nonneg→K6,emod_lt_of_pos→K8,natAbs_eq_zero→R9,toNat_natCast→S2,le_refl→S3
open List renaming getElem?_eq_getElem→A9,size_toArray→B0,map_cons→B3,length_map→B4,getD_eq_getElem?_getD→B7,getElem?_eq_some_iff→B9,getElem?_map→C4,mem_cons_of_mem→C5,mem_append_right→C8,mem_cons_self→C9,map_nil→D4,mem_singleton→D5,range→D6,length_append→D7,mem_map→D8,replicate→E2,mem_cons→E3,mem_append→E4,map_append→E6,mem_of_getElem?→E8,length_cons→F0,zip_cons_cons→F2,getElem?_eq_none→F7,nodup_cons→G1,zipWith_cons_cons→G3,mem_append_left→G5,length_range→G6,filter_cons→G7,map_map→I0,find?_cons→J0,nodup_iff_pairwise_ne→J1,pairwise_map→J2,mem_range→J3,mem_filter→J5,length_filter_le→J8,length_take→J9,cons_append→K0,drop_eq_getElem_cons→K4,pairwise_iff_getElem→K5,nodup_append→L0,take_of_length_le→L1,length_drop→L4,lookup_cons→L5,append_nil→L8,zipWith→M4,filterMap_cons→M6,filter_sublist→M7,nodup_nil→M8,getElem?_drop→N1,getElem?_append_right→N2,ext_getElem?→N7,getElem?_append_left→N9,toArray→O3,getElem?_replicate→O6,of_mem_zip→P1,getElem?_set_self→P4,drop_eq_nil_of_le→P6,length_replicate→P8,zipWith_nil_left→Q0,getElem?_toArray→Q1,getElem?_set_ne→Q4,mem_of_mem_drop→Q5,mem_of_mem_take→Q6,any_cons→Q7,take_succ_cons→Q8,replicate_succ→Q9,getElem?_range→R0,map_congr_left→R1,mem_filterMap→R3,pairwise_cons→R7,getElem?_take→R8,take_sublist→S1,perm_middle→S8,length_nil→T2,length_set→T3,nil_append→T4
open List.Perm renaming refl→Q2
open List.Sublist renaming map→L6
open Nat renaming le_refl→B6,lt_of_lt_of_le→B8,ne_of_lt→C3,le_trans→E7,lt_irrefl→F1,lt_succ_of_lt→F5,zero_le→F9,lt_or_ge→G9,le_of_lt→J4,ne_of_gt→J6,le_succ→K1,lt_trans→M3,zero_add→M5,lt_trichotomy→N8,min_self→O2,le_of_ble_eq_true→Q3,lt_of_le_of_lt→R5,lt_succ_self→S6,le_add_right→S7
open Option renaming bind_some→C7,isSome_map→N6,isSome_iff_exists→O1,getD_none→S5,none→U5
open Option.some renaming inj→D9
open Or renaming inr→F4,inl→F6
open PyProof.Rows renaming boot_sorted→K7,boot_list→L3,callWith_builtin1→L9
open PySem renaming mem_of_lookup→G2,boot_len→K9,call→T5,Within→U2
open PySem.F renaming slot_list_append→O4,type_list_append→O5,plainAttrs_dict→O7,slot_dict_items→O8,plainAttrs_list→O9,slot_dict_pop→P9
open PySem.W renaming kitOne→E1,kia_one→E5,fnOf→E9,mg_none_of→F8,keepIn→G0,findIn→G4,codeIn→J7,methodObj→N3,specialIn→N4,kitx_list→N5,instObj→P0,cellsFrom_some→P5,lookIn→P7,kitx_tuple→R4,nsIn→R6,kitx_dict→S0,plainGet→S4,hideAll→S9,takesIn→T0,OpenLaw→T6,kitCls→T8,mroIn→T9,mg_of→U0,WalkO→U1,isFn→U4
open Sum renaming inl→B5,inr→O0
open Sum.inl renaming inj→M9
abbrev aA:=PySem.W.Frag
theorem aR{α:Type u_1}{b:α}{β:Type u_2}{x:Option β}{f:β→Option α}(h:x.bind f=some b):∃a,x=some a∧f a=some b:=Option.bind_eq_some_iff.mp h
theorem cR{α:Type u_1}{b:α}{β:Type u_2}{x:Option β}{f:β→α}(h:x.map f=some b):∃a,x=some a∧f a=b:=Option.map_eq_some_iff.mp h

set_option Elab.async false
set_option linter.all false
set_option maxRecDepth 100000
namespace L2
open PySem PySem.Spec PyProof.Rows
abbrev Key:=Sum Int Str
def uE:Key→Value→Bool
 | .inl k,v=>Value.isInt k v
 | .inr x,v=>Value.isStrOf x v
def HD(w:World):Key→Int
 | .inl k=>hashInt k
 | .inr x=>hashStr w x
theorem bG:∀{k:Key} {v:Value},uE k v=true→(∃i t,k=B5 i∧v=Value.int i t)∨(∃x t,k=O0 x∧v=Value.str x t)
 | .inl i,v,h=>by
  obtain⟨t,e⟩:=Value.isInt_shape (k:=i) (v:=v) h
  exact .inl ⟨i,t,rfl,e⟩
 | .inr x,v,h=>by
  obtain⟨t,e⟩:=Value.isStrOf_shape (x:=x) (v:=v) h
  exact .inr ⟨x,t,rfl,e⟩
theorem Fv(i:Int)(t:Tok):uE (.inl i) (.int i t)=true:=by simp[uE,Value.isInt]
theorem Fw(x:Str)(t:Tok):uE (.inr x) (.str x t)=true:=by simp[uE,Value.isStrOf]
theorem Tr(a b:Int):decide ((B5 a:Key)=B5 b)=(a==b):=by
 by_cases e:a=b
 ·subst e;simp
 ·have h:¬(B5 a:Key)=B5 b:=λq=>e (M9 q)
  rw[decide_eq_false h]
  exact(beq_eq_false_iff_ne.mpr e).symm
theorem Tt(a b:Str):decide ((O0 a:Key)=O0 b)=decide (a=b):=by
 by_cases e:a=b
 ·subst e;simp
 ·have h:¬(O0 a:Key)=O0 b:=λq=>e (Sum.inr.inj q)
  rw[decide_eq_false h,decide_eq_false e]
theorem Tu(a:Int)(b:Str):decide ((B5 a:Key)=O0 b)=false:=decide_eq_false (λq=>nomatch q)
theorem Tv(a:Str)(b:Int):decide ((O0 a:Key)=B5 b)=false:=decide_eq_false (λq=>nomatch q)
def aP(prog:Program)(w:World):PySem.KeyKind prog w Key where
  is:=uE
  hash:=HD w
  inj:=λv a b ha hb=>by
    rcases bG ha with ⟨i,t,rfl,rfl⟩ | ⟨x,t,rfl,rfl⟩
    · rcases bG hb with ⟨j,u,rfl,e⟩ | ⟨y,u,rfl,e⟩
      · injection e with e1 _;rw[e1]
      · exact nomatch e
    · rcases bG hb with ⟨j,u,rfl,e⟩ | ⟨y,u,rfl,e⟩
      · exact nomatch e
      · injection e with e1 _;rw[e1]
  byValue:=λk v h=>by
    rcases bG h with ⟨i,t,rfl,rfl⟩ | ⟨x,t,rfl,rfl⟩<;>rfl
  pyHash:=λhv h=>by
    rcases bG hv with ⟨i,t,rfl,rfl⟩ | ⟨x,t,rfl,rfl⟩
    · exact wpAny_pyHash_int h
    · exact wpAny_pyHash_str h
  eqBool:=λhu hv h=>by
    rcases bG hu with ⟨i,t,rfl,rfl⟩ | ⟨x,t,rfl,rfl⟩
    · rcases bG hv with ⟨j,u,rfl,rfl⟩ | ⟨y,u,rfl,rfl⟩
      · rw[Tr]at h;exact wpAny_eqBool_int h
      · rw[Tu]at h;exact SeqAt.EqAt.int_str i t y u _ _ _ _ h
    · rcases bG hv with ⟨j,u,rfl,rfl⟩ | ⟨y,u,rfl,rfl⟩
      · rw[Tv]at h;exact SeqAt.EqAt.str_int x t j u _ _ _ _ h
      · rw[Tt]at h;exact wpAny_eqBool_str h
  «strs»:=λk x t v h=>by
    rcases bG h with ⟨i,u,rfl,e⟩ | ⟨y,u,rfl,e⟩
    · exact nomatch e
    · injection e with e1 _
      subst e1
      cases v<;>rfl
theorem nT(prog:Program)(w:World)(i:Int)(t:Tok):(aP prog w).is (.inl i) (.int i t)=true:=Fv i t
theorem xT(prog:Program)(w:World)(x:Str)(t:Tok):(aP prog w).is (.inr x) (.str x t)=true:=Fw x t
end L2
namespace L2
open PySem PySem.Spec PyProof.Rows
inductive V where
  | non | bl (b:Bool) | int (i:Int) | str (x:Str) | byt (b:Array UInt8) | flt (b:UInt64) | ref (a:Addr) | ty (n:String)
  deriving DecidableEq
def RelV:V→Value→Prop
 | .non,u=>u=Value.none
 | .bl b,u=>u=Value.bool b
 | .int i,u=>∃t,u=Value.int i t
 | .str x,u=>∃t,u=Value.str x t
 | .byt b,u=>∃t,u=Value.bytes b t
 | .flt b,u=>∃t,u=Value.float b t
 | .ref a,u=>u=Value.ref a
 | .ty n,u=>u=Value.type n
abbrev Vals:List V→List Value→Prop:=Paired RelV
theorem Vals.length{xs:List V}{us:List Value}(r:Vals xs us):xs.length=us.length:=Paired.length r
theorem Vals.get:∀{xs:List V} {us:List Value} {i:Nat} {x:V},Vals xs us→xs[i]?=some x→∃u,us[i]?=some u∧RelV x u
 | _,_,_,_,.nil,e=>by simp at e
 | _,_,0,_,.cons r _,e=>by simp at e;subst e;exact⟨_,rfl,r⟩
 | _,_,i+1,x,.cons _ t,e=>by
  obtain⟨u,h1,h2⟩:=Vals.get (i:=i) (x:=x) t (by simpa using e)
  exact⟨u,by simpa using h1,h2⟩
theorem Vals.append:∀{xs ys:List V} {us ws:List Value},Vals xs us→Vals ys ws→Vals (xs++ys) (us++ws)
 | _,_,_,_,.nil,s=>s
 | _,_,_,_,.cons r t,s=>.cons r (Vals.append t s)
theorem Vals.take:∀{xs:List V} {us:List Value} (n:Nat),Vals xs us→Vals (xs.take n) (us.take n)
 | _,_,0,_=>.nil
 | _,_,_+1,.nil=>.nil
 | _,_,n+1,.cons r t=>.cons r (Vals.take n t)
theorem Vals.drop:∀{xs:List V} {us:List Value} (n:Nat),Vals xs us→Vals (xs.drop n) (us.drop n)
 | _,_,0,r=>r
 | _,_,_+1,.nil=>.nil
 | _,_,n+1,.cons _ t=>Vals.drop n t
def oM:Option V→Option Value→Prop
 | some v,some u=>RelV v u
 | none,none=>True
 | _,_=>False
def KV{κ:Type}:List (κ×V)→List (κ×Value)→Prop:=Paired λ(p:κ×V) (q:κ×Value)=>p.1=q.1∧RelV p.2 q.2
def kV:Key→V
 | .inl i=>.int i
 | .inr x=>.str x
inductive HO where
  | lst (xs:List V)
  | tup (xs:List V)
  | dK (kvs:List (Key×V)) | dT (kvs:List (List Key×V))
  | set (S:Int→Bool) (n:Nat)
  | ins (C dx:Addr) (fs:List (Str×V))
  | own (x:Addr)
  | xd (fs:List (Str×V))
  | met (f x:Addr)
  | rng (lo hi:Int)
  | eV (o:Obj) (u:HO)
  | tbl (ps:Array Value)
  | ext (φ:Heap→Prop)
abbrev Hp:=Addr→Option HO
def upd(H:Hp)(a:Addr)(o:HO):Hp:=λb=>if b=a then some o else H b
theorem aQ{H:Hp}{a:Addr}{o:HO}:upd H a o a=some o:=by unfold upd;rw[if_pos rfl]
theorem aJ{H:Hp}{a b:Addr}{o:HO}(h:b≠a):upd H a o b=H b:=by unfold upd;rw[if_neg h]
theorem Yl{H:Hp}{a b:Addr}{o u:HO}(h:H a=some o)(h':H b=some u)(d:o≠u):a≠b:=by
 intro e;subst e;rw[h]at h';exact d (D9 h')
theorem bU{H:Hp}{a b:Addr}{o:HO}(h:H a=some o)(h':H b=none):a≠b:=by
 intro e;subst e;rw[h]at h';cases h'
section
variable(P:Program)(w:World)
def bN(H:Hp)(h:Heap)(a:Addr):HO→Prop
 | .lst xs=>xs.length≤sizeLine∧∃(its:List Value)(n:Nat),Vals xs its∧h.get? a=some {cls:=.type "list", data:=.seq its.toArray n}
 | .tup xs=>xs.length≤sizeLine∧∃its:List Value,Vals xs its∧IsTup h a its.toArray
 | .dK kvs=>kvs.length≤sizeLine∧(a==sysModules)=false∧∃vs,KV kvs vs∧h.DictOf (aP P w) a vs
 | .dT kvs=>kvs.length≤sizeLine∧(a==sysModules)=false∧∃xs:List (List Key×Addr×Value),
   Paired (λ(p:List Key×V) (q:List Key×Addr×Value)=>p.1=q.1∧H q.2.1=some (.tup (p.1.map kV))∧RelV p.2 q.2.2) kvs xs ∧
   ∃o es ep,h.get? a=some o∧o.ExactDict∧o.data=.dict es ep∧es.toList=xs.map (entryOfKey (tupleKind (aP P w)))∧(xs.map (·.1)).Nodup
 | .set S n=>h.SetOf (intKind P w) a S n
 | .ins C dx fs=>H dx=some (.own a)∧fs.length≤1000∧dx≠a∧h.get? a=some (P0 C dx) ∧
   ∃mA,h.Ns1 dx mA∧(∀f,oM (fs.lookup f) (mA f))∧U2 mA (fs.map (·.1))
 | .own _=>∃o,h.get? a=some o
 | .xd fs=>∃mA,h.Ns1 a mA∧∀f,oM (fs.lookup f) (mA f)
 | .rng lo hi=>∃t u v,h.get? a=some {cls:=.type "range", data:=.fields #[.int lo t,.int hi u,.int 1 v]}
 | .eV o u=>h.get? a=some o∧bN H h a u
 | .tbl ps=>h.get? a=some {cls:=.none,data:=.fields ps}
 | .met f x=>h.get? a=some (N3 (.ref f) (.ref x))
 | .ext φ=>φ h∧(∃o,h.get? a=some o)∧∀h1 h2:Heap,φ h1→(∀o,h1.get? a=some o→h2.get? a=some o)→φ h2
def jU(H:Hp)(h:Heap):Prop:=∀a o,H a=some o→bN P w H h a o
end
section
variable{P:Program}{w:World}{H H':Hp}{h h':Heap}{a:Addr}{o:HO}
theorem bN.lt(x:bN P w H h a o):a<h.objs.size:=by
 cases o with
 | lst xs=>obtain⟨_,_,_,_,e⟩:=x;exact Heap.lt_size e
 | tup xs=>obtain⟨_,_,_,p⟩:=x;exact p.lt
 | dK kvs=>obtain⟨_,_,_,_,o,_,_,e,_⟩:=x;exact Heap.lt_size e
 | dT kvs=>obtain⟨_,_,_,_,o,_,_,e,_⟩:=x;exact Heap.lt_size e
 | set S n=>obtain⟨o,_,_,_,e,_⟩:=x;exact Heap.lt_size e
 | ins C dx fs=>obtain⟨_,_,_,e,_⟩:=x;exact Heap.lt_size e
 | own y=>obtain⟨_,e⟩:=x;exact Heap.lt_size e
 | xd fs=>obtain⟨_,⟨_,_,_,e,_⟩,_⟩:=x;exact Heap.lt_size e
 | rng lo hi=>obtain⟨_,_,_,e⟩:=x;exact Heap.lt_size e
 | eV ob u=>obtain⟨e,_⟩:=x;exact Heap.lt_size e
 | tbl ps=>exact Heap.lt_size (show h.get? a=some _ from x)
 | met f y=>exact Heap.lt_size (show h.get? a=some _ from x)
 | ext φ=>obtain⟨_,⟨_,e⟩,_⟩:=x;exact Heap.lt_size e
theorem Paired.Tw{α β:Type}{F G:α→β→Prop}:∀{l₁:List α} {l₂:List β},Paired F l₁ l₂→(∀a b,F a b→G a b)→Paired G l₁ l₂
 | _,_,.nil,_=>.nil
 | _,_,.cons r t,f=>.cons (f _ _ r) (Paired.Tw t f)
theorem bN.stay(x:bN P w H h a o)(k:∀b u,(b=a∨H b=some (.own a))→h.get? b=some u→h'.get? b=some u)
  (ho:∀b,H b=some (.own a)→H' b=some (.own a)) (ht:∀b xs,H b=some (.tup xs)→H' b=some (.tup xs)):bN P w H' h' a o:=by
 induction o with
 | lst xs=>obtain⟨z,its,n,r,e⟩:=x;exact⟨z,its,n,r,k _ _ (.inl rfl) e⟩
 | tup xs=>obtain⟨z,its,r,ob,e,c⟩:=x;exact⟨z,its,r,ob,k _ _ (.inl rfl) e,c⟩
 | dK kvs=>obtain⟨z,y,vs,r,ob,es,ep,e,c⟩:=x;exact⟨z,y,vs,r,ob,es,ep,k _ _ (.inl rfl) e,c⟩
 | dT kvs=>
  obtain⟨z,y,xs,r,ob,es,ep,e,c⟩:=x
  exact⟨z,y,xs,Paired.Tw r λp q z=>⟨z.1,ht _ _ z.2.1,z.2.2⟩,ob,es,ep,k _ _ (.inl rfl) e,c⟩
 | set S n=>obtain⟨ob,es,ep,t,e,c⟩:=x;exact⟨ob,es,ep,t,k _ _ (.inl rfl) e,c⟩
 | ins C dx fs=>
  obtain⟨d,z,ne,e,mA,⟨od,es,ep,e2,c⟩,r⟩:=x
  exact⟨ho _ d,z,ne,k _ _ (.inl rfl) e,mA,⟨od,es,ep,k _ _ (.inr d) e2,c⟩,r⟩
 | own y=>obtain⟨ob,e⟩:=x;exact⟨ob,k _ _ (.inl rfl) e⟩
 | xd fs=>obtain⟨mA,⟨od,es,ep,e,c⟩,r⟩:=x;exact⟨mA,⟨od,es,ep,k _ _ (.inl rfl) e,c⟩,r⟩
 | rng lo hi=>obtain⟨t,u,v,e⟩:=x;exact⟨t,u,v,k _ _ (.inl rfl) e⟩
 | eV ob u ih=>obtain⟨e,q⟩:=x;exact⟨k _ _ (.inl rfl) e,ih q⟩
 | tbl ps=>
  have e:h.get? a=some {cls:=.none,data:=.fields ps}:=x
  show h'.get? a=some {cls:=.none,data:=.fields ps}
  exact k a _ (.inl rfl) e
 | met f y=>
  have e:h.get? a=some (N3 (.ref f) (.ref y)):=x
  show h'.get? a=some (N3 (.ref f) (.ref y))
  exact k a _ (.inl rfl) e
 | ext φ=>obtain⟨p,⟨o,e⟩,st⟩:=x;exact⟨st _ _ p λo q=>k _ _ (.inl rfl) q,⟨o,k _ _ (.inl rfl) e⟩,st⟩
theorem jU.lt(x:jU P w H h)(e:H a=some o):a<h.objs.size:=(x a o e).lt
theorem jU.fresh(x:jU P w H h)(e:h.objs.size≤a):H a=none:=by
 cases q:H a with
 | none=>rfl
 | some u=>exact absurd (B8 (x.lt q) e) (F1 _)
theorem jU.kept(x:jU P w H h)(k:∀b u,h.get? b=some u→h'.get? b=some u):jU P w H h':=λa o e=>
 (x a o e).stay (λb u _ q=>k b u q) (λ_ q=>q) λ_ _ q=>q
theorem jU.laid(x:jU P w H h)(k:∀b u,h.get? b=some u→h'.get? b=some u)(hp:h.objs.size≤a)(new:bN P w (upd H a o) h' a o):jU P w (upd H a o) h':=λb u e=>by
 have hn:=x.fresh hp
 by_cases hb:b=a
 ·subst hb;rw[aQ]at e;cases e;exact new
 ·rw[aJ hb]at e
  exact(x b u e).stay (λc v _ q=>k c v q) (λc q=>by rw[aJ (bU q hn)];exact q) λc xs q=>by rw[aJ (bU q hn)];exact q
end
def Rd(H:Hp)(a:Addr)(u:HO):Prop:=H a=some u∨∃o,H a=some (.eV o u)
theorem Rd.of{H:Hp}{a:Addr}{u:HO}(h:H a=some u):Rd H a u:=.inl h
theorem Rd.ok{P:Program}{w:World}{H:Hp}{h:Heap}{a:Addr}{u:HO}(r:Rd H a u)(x:jU P w H h):bN P w H h a u:=by
 rcases r with r | ⟨o,r⟩
 ·exact x a u r
 ·obtain⟨_,q⟩:=x a _ r
  exact q
def Yc:Option HO→Prop
 | some (.lst _)=>True
 | some (.dK _)=>True
 | some (.dT _)=>True
 | some (.set _ _)=>True
 | some (.ins _ _ _)=>True
 | some (.ext _)=>True
 | _=>False
section
variable{P:Program}{w:World}{H:Hp}{h h':Heap}{x e:Addr}{o':HO}
theorem jU.write(ok:jU P w H h)(mu:Yc (H x))(he:e=x∨H e=some (.own x))(k:∀b u,b≠e→h.get? b=some u→h'.get? b=some u)(heo:∃u,h'.get? e=some u)
  (new:bN P w (upd H x o') h' x o'):jU P w (upd H x o') h':=λb u q=>by
 have Ij:∀c y,H c=some (.own y)→c≠x:=λc y r z=>by subst z;rw[r]at mu;exact mu
 have Nt:∀c xs,H c=some (.tup xs)→c≠x:=λc xs r z=>by subst z;rw[r]at mu;exact mu
 by_cases hb:b=x
 ·subst hb;rw[aQ]at q;cases q;exact new
 ·rw[aJ hb]at q
  by_cases hbe:b=e
  ·have q':H b=some (.own x):=by
    rcases he with z | z
    ·exact absurd (hbe.trans z) hb
    ·rw[hbe];exact z
   rw[q]at q';cases q'
   obtain⟨v,hv⟩:=heo
   exact⟨v,by rw[hbe];exact hv⟩
  ·refine(ok b u q).stay (λc v hc r=>k c v ?_ r) (λc r=>by rw[aJ (Ij c b r)];exact r) λc xs r=>by rw[aJ (Nt c xs r)];exact r
   rcases hc with rfl | hc
   ·exact hbe
   ·rintro rfl
    rcases he with z | z
    ·exact Ij c b hc z
    ·rw[hc]at z;cases z;exact hb rfl
end
structure Un(fs ex:List Addr)(H H':Hp)(h h':Heap):Prop where
 keep:∀b o,h.get? b=some o→H b=none→b∉fs→b∉ex→h'.get? b=some o
 slot:∀b o,h.get? b=some o→H b=none→b∈fs→b∉ex→∃sl,h'.get? b=some {o with slots:=sl}
 free:∀b o,h.get? b=some o→H b=none→b∉ex→H' b=none
 there:∀b o,h.get? b=some o→b∉ex→∃o',h'.get? b=some o'
 tups:∀b xs,H b=some (.tup xs)→H' b=some (.tup xs)
 tU:∀b o u,H b=some (.eV o u)→H' b=some (.eV o u)
 vL:∀b ps,H b=some (.tbl ps)→∃more,H' b=some (.tbl (ps++more))
section
variable{fs fs' ex ex':List Addr}{H H1 H2:Hp}{h h1 h2 h':Heap}{a x e:Addr}{o:HO}
theorem Un.any(u:Un fs ex H H1 h h1){b:Addr}{ob:Obj}(q:h.get? b=some ob)(n:H b=none)(hx:b∉ex):∃sl,h1.get? b=some {ob with slots:=sl}:=by
 by_cases hb:b∈fs
 ·exact u.slot b ob q n hb hx
 ·exact⟨ob.slots,u.keep b ob q n hb hx⟩
theorem Un.kept(k:∀b u,h.get? b=some u→h'.get? b=some u):Un fs ex H H h h':=
 ⟨λb ob q _ _ _=>k b ob q,λb ob q _ _ _=>⟨ob.slots,k b ob q⟩,λ_ _ _ n _=>n,λb ob q _=>⟨ob,k b ob q⟩,λ_ _ q=>q,λ_ _ _ q=>q,λ_ ps q=>⟨#[],by rw[q];simp⟩⟩
theorem Un.refl:Un fs ex H H h h:=Un.kept λ_ _ q=>q
theorem Un.laid(k:∀b u,h.get? b=some u→h'.get? b=some u)(hp:h.objs.size≤a)(hn:H a=none):Un fs ex H (upd H a o) h h' where
 keep:=λb u q _ _ _=>k b u q
 slot:=λb u q _ _ _=>⟨u.slots,k b u q⟩
 free:=λb u q n _=>by rw[aJ (C3 (B8 (Heap.lt_size q) hp))];exact n
 there:=λb u q _=>⟨u,k b u q⟩
 tups:=λb xs q=>by rw[aJ (bU q hn)];exact q
 tU:=λb u xs q=>by rw[aJ (bU q hn)];exact q
 vL:=λb ps q=>⟨#[],by rw[aJ (bU q hn),q];simp⟩
theorem Un.write(mu:Yc (H x))(he:e=x∨H e=some (.own x))(k:∀b u,b≠e→h.get? b=some u→h'.get? b=some u)(heo:∃u,h'.get? e=some u):Un fs ex H (upd H x o) h h':=by
 have hx:∀b,H b=none→b≠x:=λb n z=>by subst z;rw[n]at mu;exact mu
 have hb:∀b,H b=none→b≠e:=λb n z=>by
  subst z
  rcases he with r | r
  ·exact hx b n r
  ·rw[n]at r;cases r
 have hm:∀b u,H b=some u→¬Yc (some u)→b≠x:=λb u q nm z=>by subst z;rw[q]at mu;exact nm mu
 refine⟨λb u q n _ _=>k b u (hb b n) q,λb u q n _ _=>⟨u.slots,k b u (hb b n) q⟩,λb u q n _=>by rw[aJ (hx b n)];exact n,λb u q _=>?_,
  λb xs q=>by rw[aJ (hm b _ q λz=>z)];exact q,λb u xs q=>by rw[aJ (hm b _ q λz=>z)];exact q,λb ps q=>⟨#[],by rw[aJ (hm b _ q λz=>z),q];simp⟩⟩
 by_cases hbe:b=e
 ·subst hbe;exact heo
 ·exact⟨u,k b u hbe q⟩
end
def DQ(h:Heap)(H:Hp):List Addr:=(D6 h.objs.size).filter λa=>(H a).isSome
def vM(h:Heap)(H:Hp):Heap:=S9 h (DQ h H)
theorem Fx(h:Heap)(H:Hp):(vM h H).objs.size=h.objs.size:=PySem.W.hideAll_size _ _
theorem Ik{h:Heap}{H:Hp}{b:Addr}{o:Obj}(e:h.get? b=some o)(n:H b=none):(vM h H).get? b=some o:=
 PySem.W.hideAll_get _ e λhm=>by
  have q:(H b).isSome=true:=(J5.mp hm).2
  rw[n]at q;simp at q
theorem Nu{h:Heap}{H:Hp}{b:Addr}{o:Obj}(e:(vM h H).get? b=some o):h.get? b=some o∧H b=none:=by
 have e':h.get? b=some o:=PySem.W.of_hideAll (DQ h H) e
 refine⟨e',?_⟩
 cases q:H b with
 | none=>rfl
 | some x=>
  have hm:b∈DQ h H:=J5.mpr ⟨J3.mpr (Heap.lt_size e'),by simp[q]⟩
  have z:(vM h H).get? b=none:=PySem.W.hideAll_none (DQ h H) hm
  rw[z]at e;cases e
def Nv(g h:Heap)(L:Addr):List (Addr×Obj):=(D6 h.objs.size).filterMap λa=>if a=L∨(g.get? a).isSome=true then none else(h.get? a).map λo=>(a,o)
def rest(g h:Heap)(L d:Addr):List (Addr×Obj):=(Nv g h L).filter λp=>decide (p.1≠d)
end L2
namespace L2
open PySem PySem.Spec PyProof.Rows
structure Mod(K:aA)(mg:Str→Option Value)(base:Heap):Prop where
 HF:K.In base
 glob:base.Ns mainGlobals mg
 blt:∃mb,base.Ns builtinsNs mb∧∀x:Str,x ≠ "__name__" → mb x=bootBuiltins x
 nolimit:base.NoLimit
structure Cx where
 prog:Program
 w:World
 K:aA
 mg:Str→Option Value
 base:Heap
 A:Around
 N:List Str
 s₀:Shared
 H₀:Hp
 env:Env
 outer:List Env
 stack:List Env
 ex:List Addr
 fn:Str→Bool
 calm:Bool
 pn:List (Addr×Obj)
 xe:Value→Shared→Prop
def frs(l:List Env):List Addr:=l.filterMap (·.frame)
abbrev Cx.fs(X:Cx):List Addr:=frs X.outer
def DR(sc:Scope)(x:Str):Prop:=sc.names.lookup x=some .local∨sc.names.lookup x=some .cell∨sc.names.lookup x=some .free
def Loc(sc:Scope)(x:Str):Prop:=sc.names.lookup x=some .local∨sc.names.lookup x=some .cell
def Look(env:Env)(h:Heap)(m:Str→Option Value)(x:Str)(u:Value):Prop:=
 (env.kindOf x=some .local∧m x=some u)∨((env.kindOf x=some .cell∨env.kindOf x=some .free)∧∃c,env.cells.lookup x=some c∧h.IsCell c (some u))
structure Cx.Ok(X:Cx):Prop where
 mod:Mod X.K X.mg X.base
 kind:X.env.scope.kind=.function
 glob:X.env.globals=mainGlobals
 blt:X.env.builtins=builtinsNs
 above:X.s₀.heap.objs.size≤X.env.locals
 inj:∀x y c,X.env.cells.lookup x=some c→X.env.cells.lookup y=some c→x=y
 has:∀x,(X.env.kindOf x=some .cell∨X.env.kindOf x=some .free)→∃c,X.env.cells.lookup x=some c
 cab:∀x c,X.fn x=true→X.env.cells.lookup x=some c→X.s₀.heap.objs.size≤c
 hd:X.calm=true→X.A.handled=none
 frames:X.A.frames=some X.stack
 DW:X.stack=X.outer∨(X.stack=X.env::X.outer∧X.env.frame=some X.env.locals)
 LK:∀b∈X.ex,b≠X.env.locals∧∀x c,X.env.cells.lookup x=some c→c≠b
 bs:∀b o,X.base.get? b=some o→X.s₀.heap.get? b=some o∧X.H₀ b=none
 Rn:X.base.objs.size≤X.s₀.heap.objs.size
 Il:∀b o,X.base.get? b=some o→b∉X.ex
 Nx:∀b∈X.ex,b∉X.fs
 pW:X.s₀.heap.FunFrames X.base X.outer
 Yd:∀b∈X.fs,X.H₀ b=none
structure Inv(X:Cx)(pins:List (Addr×Obj))(σ:List (Option V))(H:Hp)(s:Shared):Prop where
 ok:X.Ok
 os:s.os=X.s₀.os
 bare:AllBare s.gens
 base:Un X.fs X.ex X.H₀ H X.s₀.heap s.heap
 loc:∃m,s.heap.Ns X.env.locals m∧∀(i:Nat)(x:Str)(v:V),X.N[i]?=some x→σ[i]?=some (some v)→DR X.env.scope x→∃u,RelV v u∧Look X.env s.heap m x u
 cell:∀x c,X.env.cells.lookup x=some c→∃v,s.heap.IsCell c v
 free:H X.env.locals=none
 gK:∀x c,X.env.cells.lookup x=some c→H c=none
 pin:∀p∈X.pn++pins,s.heap.get? p.1=some p.2∧H p.1=none∧p.1≠X.env.locals∧p.1∉X.fs∧∀v,p.2.data≠.cell v
 hok:jU X.prog X.w H s.heap
 len:σ.length=X.N.length
section
variable{X:Cx}{pins:List (Addr×Obj)}{σ:List (Option V)}{H H':Hp}{s:Shared}{h':Heap}
theorem Cx.Ok.HH(ok:X.Ok){b:Addr}{o:Obj}(e:X.base.get? b=some o):b∉X.fs:=λhb=>by
 have:=(ok.pW.mem hb).1
 rw[e]at this;cases this
theorem Inv.bs(I:Inv X pins σ H s):∀b o,X.base.get? b=some o→s.heap.get? b=some o∧H b=none:=λb o e=>
 ⟨I.base.keep b o (I.ok.bs b o e).1 (I.ok.bs b o e).2 (I.ok.HH e) (I.ok.Il b o e),I.base.free b o (I.ok.bs b o e).1 (I.ok.bs b o e).2 (I.ok.Il b o e)⟩
theorem Inv.bk(I:Inv X pins σ H s):∀b o,X.base.get? b=some o→s.heap.get? b=some o:=λb o e=>(I.bs b o e).1
theorem Inv.mod(I:Inv X pins σ H s):Mod X.K X.mg X.base:=I.ok.mod
theorem Inv.vN(I:Inv X pins σ H s):X.K.In s.heap:=I.ok.mod.HF.keeps I.bk
theorem Inv.lt(I:Inv X pins σ H s):X.env.locals<s.heap.objs.size:=let ⟨_,hn,_⟩:=I.loc;hn.lt
theorem Inv.sz(I:Inv X pins σ H s):X.s₀.heap.objs.size≤s.heap.objs.size:=E7 I.ok.above (J4 I.lt)
theorem Inv.HJ(I:Inv X pins σ H s){a:Addr}(h:s.heap.objs.size≤a):a∉X.fs:=λhb=>by
 obtain⟨_,o,ho,_⟩:=I.ok.pW.mem hb
 exact absurd (B8 (Heap.lt_size ho) (E7 I.sz h)) (F1 _)
theorem Inv.Ni(I:Inv X pins σ H s):∀x c,X.env.cells.lookup x=some c→c≠X.env.locals:=λx c e z=>by
 obtain⟨v,o,ho,hd⟩:=I.cell x c e
 obtain⟨m,⟨o',es,ep,ho',hd',_⟩,_⟩:=I.loc
 rw[z,ho']at ho;cases ho;rw[hd']at hd;cases hd
theorem Inv.pW(I:Inv X pins σ H s):s.heap.FunFrames X.base X.outer:=by
 have all:∀(l:List Env),(∀b∈frs l,b∈X.fs)→X.s₀.heap.FunFrames X.base l→s.heap.FunFrames X.base l:=by
  intro l
  induction l with
  | nil=>intro _ _;trivial
  | cons env r ih=>
   intro hs hl
   obtain⟨hk,⟨L,o,hf,hn,ho,hd⟩,hr⟩:=hl
   have hL:L∈X.fs:=hs L (by unfold frs;rw[M6,hf];exact C9)
   obtain⟨sl,e⟩:=I.base.slot L o ho (I.ok.Yd L hL) hL λz=>I.ok.Nx L z hL
   exact⟨hk,⟨L,_,hf,hn,e,hd⟩,ih (λb hb=>hs b (by unfold frs;rw[M6,hf];exact C5 _ hb)) hr⟩
 exact all X.outer (λ_ hb=>hb) I.ok.pW
theorem Inv.stack(I:Inv X pins σ H s):s.heap.FunFrames X.base X.stack:=by
 rcases I.ok.DW with e | ⟨e,hf⟩
 ·rw[e];exact I.pW
 ·rw[e]
  obtain⟨m,hn,_⟩:=I.loc
  refine .cons (by rw[I.ok.kind];decide) hf hn ?_ I.pW
  exact Heap.get?_none_of_le (E7 I.ok.Rn I.ok.above)
theorem Inv.vO(I:Inv X pins σ H s):∀b∈frs X.stack,b∈X.env.locals::X.fs:=λb hb=>by
 rcases I.ok.DW with e | ⟨e,hf⟩
 ·rw[e]at hb;exact C5 _ hb
 ·rw[e]at hb
  unfold frs at hb
  rw[M6,hf]at hb
  exact hb
theorem Inv.Dc(I:Inv X pins σ H s):∀b∈frs X.stack,H b=none:=λb hb=>by
 rcases E3.mp (I.vO b hb)with e | hb
 ·rw[e];exact I.free
 ·obtain⟨_,o,ho,_⟩:=I.ok.pW.mem hb
  exact I.base.free b o ho (I.ok.Yd b hb) λz=>I.ok.Nx b z hb
theorem Inv.step{g':Array GenState}{t':Nat}{d':Drawn}{ch:List Addr}(I:Inv X pins σ H s)
  (hch:∀b∈ch,(b∈X.ex∨X.s₀.heap.objs.size≤b)∧b≠X.env.locals∧(∀x c,X.env.cells.lookup x=some c→c≠b)∧∀p∈X.pn++pins,p.1≠b)
  (keep:∀b o,b≠X.env.locals→b∉X.fs→b∉ch→s.heap.get? b=some o→H b=none→h'.get? b=some o)
  (slot:∀b o,b≠X.env.locals→b∈X.fs→b∉ch→s.heap.get? b=some o→H b=none→∃sl,h'.get? b=some {o with slots:=sl}) (free:∀b o,b∉ch→s.heap.get? b=some o→H b=none→H' b=none)
  (there:∀b o,b∉ch→s.heap.get? b=some o→∃o',h'.get? b=some o')
  (tups:∀b xs,H b=some (.tup xs)→H' b=some (.tup xs)) (tU:∀b o u,H b=some (.eV o u)→H' b=some (.eV o u)) (vL:∀b ps,H b=some (.tbl ps)→∃more,H' b=some (.tbl (ps++more)))
  (ns:∀m,s.heap.Ns X.env.locals m→h'.Ns X.env.locals m) (hok:jU X.prog X.w H' h') (hg:AllBare g') :
  Inv X pins σ H' {s with heap:=h',gens:=g',drawn:=d',toks:=t'}:=by
 have LQ:∀b o,X.s₀.heap.get? b=some o→b≠X.env.locals:=λb o e=>C3 (B8 (Heap.lt_size e) I.ok.above)
 have Ye:∀b o,X.s₀.heap.get? b=some o→b∉X.ex→b∉ch:=λb o e hx hb=>by
  rcases(hch b hb).1 with z | z
  ·exact hx z
  ·exact absurd (B8 (Heap.lt_size e) z) (F1 _)
 have cellK:∀x c,X.env.cells.lookup x=some c→∀v,s.heap.IsCell c v→h'.IsCell c v:=λx c e v ⟨o,ho,hd⟩=>by
  have Ym:c∉ch:=λz=>(hch c z).2.2.1 x c e rfl
  by_cases hc:c∈X.fs
  ·obtain⟨sl,q⟩:=slot c o (I.Ni x c e) hc Ym ho (I.gK x c e)
   exact⟨_,q,hd⟩
  ·exact⟨o,keep c o (I.Ni x c e) hc Ym ho (I.gK x c e),hd⟩
 refine⟨I.ok,I.os,hg,⟨λb o e n hb hx=>?_,λb o e n hb hx=>?_,λb o e n hx=>?_,λb o e hx=>?_,λb xs e=>tups b xs (I.base.tups b xs e),λb o xs e=>tU b o xs (I.base.tU b o xs e),λb ps e=>?_⟩,?_,λx c e=>?_,?_,λx c e=>?_,λp hp=>?_,hok,I.len⟩
 ·exact keep b o (LQ b o e) hb (Ye b o e hx) (I.base.keep b o e n hb hx) (I.base.free b o e n hx)
 ·obtain⟨sl,e1⟩:=I.base.slot b o e n hb hx
  obtain⟨sl',e2⟩:=slot b _ (LQ b o e) hb (Ye b o e hx) e1 (I.base.free b o e n hx)
  exact⟨sl',e2⟩
 ·obtain⟨o',e1⟩:=I.base.there b o e hx
  exact free b o' (Ye b o e hx) e1 (I.base.free b o e n hx)
 ·obtain⟨o',e1⟩:=I.base.there b o e hx
  exact there b o' (Ye b o e hx) e1
 ·obtain⟨m1,e1⟩:=I.base.vL b ps e
  obtain⟨m2,e2⟩:=vL b _ e1
  exact⟨m1++m2,by rw[e2,Array.append_assoc]⟩
 ·obtain⟨m,hn,hl⟩:=I.loc
  refine⟨m,ns m hn,λi x v e1 e2 e3=>?_⟩
  obtain⟨u,r,l⟩:=hl i x v e1 e2 e3
  refine⟨u,r,?_⟩
  rcases l with l | ⟨k,c,e,z⟩
  ·exact .inl l
  ·exact .inr ⟨k,c,e,cellK x c e _ z⟩
 ·obtain⟨v,z⟩:=I.cell x c e
  exact⟨v,cellK x c e v z⟩
 ·obtain⟨m,⟨o,_,_,ho,_⟩,_⟩:=I.loc
  exact free _ o (λz=>(hch _ z).2.1 rfl) ho I.free
 ·obtain⟨v,o,ho,hd⟩:=I.cell x c e
  exact free c o (λz=>(hch c z).2.2.1 x c e rfl) ho (I.gK x c e)
 ·obtain⟨e,n,ne,nf,d⟩:=I.pin p hp
  have Ym:p.1∉ch:=λz=>(hch p.1 z).2.2.2 p hp rfl
  exact⟨keep p.1 p.2 ne nf Ym e n,free p.1 p.2 Ym e n,ne,nf,d⟩
theorem Inv.un{t':Nat}(I:Inv X pins σ H s)(u:Un X.fs [] H H' s.heap h')(hok:jU X.prog X.w H' h'):Inv X pins σ H' {s with heap:=h',toks:=t'}:=by
 obtain⟨m,⟨o,es,ep,ho,r⟩,_⟩:=id I.loc
 obtain⟨sl,hL⟩:=u.any ho I.free (by simp)
 exact I.step (g':=s.gens) (d':=s.drawn) (ch:=[]) (λ_ z=>nomatch z) (λb o _ hb _ e n=>u.keep b o e n hb (by simp)) (λb o _ hb _ e n=>u.slot b o e n hb (by simp)) (λb o _ e n=>u.free b o e n (by simp)) (λb o _ e=>u.there b o e (by simp)) u.tups u.tU u.vL (λm' hm=>by
  obtain⟨o',es',ep',ho',r'⟩:=hm
  rw[ho]at ho';cases ho'
  exact⟨_,es',ep',hL,r'⟩) hok I.bare
theorem Inv.call{g':Array GenState}{t':Nat}{d':Drawn}{ch:List Addr}(I:Inv X pins σ H s)(u:Un (frs X.stack) ch H H' s.heap h')(hok:jU X.prog X.w H' h')(hg:AllBare g')
  (hch:∀b∈ch,(b∈X.ex∨X.s₀.heap.objs.size≤b)∧b≠X.env.locals∧(∀x c,X.env.cells.lookup x=some c→c≠b)∧∀p∈X.pn++pins,p.1≠b) :
  Inv X pins σ H' {s with heap:=h',gens:=g',drawn:=d',toks:=t'}:=by
 obtain⟨m,⟨o,es,ep,ho,r⟩,_⟩:=id I.loc
 obtain⟨sl,hL⟩:=u.any ho I.free λz=>(hch _ z).2.1 rfl
 exact I.step (ch:=ch) hch (λb o hL hb hc e n=>u.keep b o e n (λz=>(E3.mp (I.vO b z)).elim hL hb) hc) (λb o _ _ hc e n=>u.any e n hc) (λb o hc e n=>u.free b o e n hc) (λb o hc e=>u.there b o e hc) u.tups u.tU u.vL (λm' hm=>by
  obtain⟨o',es',ep',ho',r'⟩:=hm
  rw[ho]at ho';cases ho'
  exact⟨_,es',ep',hL,r'⟩) hok hg
theorem Inv.turned{t':Nat}{it:Addr}(I:Inv X pins σ H s)(k:∀b o,b≠it→s.heap.get? b=some o→h'.get? b=some o)(hn:H it=none)(hL:it≠X.env.locals)
  (h1:it∈X.ex∨X.s₀.heap.objs.size≤it) (h2:∀x c,X.env.cells.lookup x=some c→c≠it) (h3:∀p∈X.pn++pins,p.1≠it):Inv X pins σ H {s with heap:=h',toks:=t'}:=by
 have LR:∀b u,H b=some u→b≠it:=λb u e z=>by rw[z,hn]at e;cases e
 refine I.step (g':=s.gens) (d':=s.drawn) (ch:=[it]) (λb hb=>?_) (λb o _ _ hc e _=>k b o (λz=>hc (by simp[z])) e) (λb o _ _ hc e _=>⟨o.slots,k b o (λz=>hc (by simp[z])) e⟩) (λ_ _ _ _ n=>n)
  (λb o hc e=>⟨o,k b o (λz=>hc (by simp[z])) e⟩) (λ_ _ e=>e) (λ_ _ _ e=>e) (λb ps e=>⟨#[],by rw[e];simp⟩) (λm hm=>?_) (λb u e=>?_) I.bare
 ·have e:b=it:=by simpa using hb
  subst e
  exact⟨h1,hL,h2,h3⟩
 ·obtain⟨o,es,ep,ho,r⟩:=hm
  exact⟨o,es,ep,k _ o (Ne.symm hL) ho,r⟩
 ·refine(I.hok b u e).stay (λc v hc q=>k c v ?_ q) (λ_ q=>q) λ_ _ q=>q
  rcases hc with z | z
  ·rw[z];exact LR b u e
  ·exact LR c _ z
theorem Inv.tok(I:Inv X pins σ H s)(t:Nat):Inv X pins σ H {s with toks:=t}:=I.un (h':=s.heap) (t':=t) Un.refl I.hok
theorem Inv.kept{t':Nat}(I:Inv X pins σ H s)(k:∀b u,s.heap.get? b=some u→h'.get? b=some u):Inv X pins σ H {s with heap:=h',toks:=t'}:=I.un (Un.kept k) (I.hok.kept k)
theorem Inv.laid{a:Addr}{o:HO}{t':Nat}(I:Inv X pins σ H s)(k:∀b u,s.heap.get? b=some u→h'.get? b=some u)(hp:s.heap.objs.size≤a)(new:bN X.prog X.w (upd H a o) h' a o) :
  Inv X pins σ (upd H a o) {s with heap:=h',toks:=t'}:=I.un (Un.laid k hp (I.hok.fresh hp)) (I.hok.laid k hp new)
theorem Inv.write{x e:Addr}{o:HO}{t':Nat}(I:Inv X pins σ H s)(mu:Yc (H x))(he:e=x∨H e=some (.own x))(k:∀b u,b≠e→s.heap.get? b=some u→h'.get? b=some u)(heo:∃u,h'.get? e=some u)
  (new:bN X.prog X.w (upd H x o) h' x o):Inv X pins σ (upd H x o) {s with heap:=h',toks:=t'}:=I.un (Un.write mu he k heo) (I.hok.write mu he k heo new)
theorem Inv.weak{σ':List (Option V)}(I:Inv X pins σ H s)(hl:σ'.length=σ.length)(w:∀(i:Nat) v,σ'[i]?=some (some v)→σ[i]?=some (some v)):Inv X pins σ' H s:=
 ⟨I.ok,I.os,I.bare,I.base,let ⟨m,hn,hl'⟩:=I.loc;⟨m,hn,λi x v e1 e2 e3=>hl' i x v e1 (w i v e2) e3⟩,I.cell,I.free,I.gK,I.pin,I.hok,hl.trans I.len⟩
theorem Inv.Dd{Im:List (Addr×Obj)}(I:Inv X pins σ H s)(h:∀p∈Im,s.heap.get? p.1=some p.2∧H p.1=none∧p.1≠X.env.locals∧p.1∉X.fs∧∀v,p.2.data≠.cell v):Inv X Im σ H s:=
 ⟨I.ok,I.os,I.bare,I.base,I.loc,I.cell,I.free,I.gK,λp hp=>(E4.mp hp).elim (λz=>I.pin p (G5 _ z)) (h p),I.hok,I.len⟩
theorem xU{N:List Str}(hN:N.Nodup){i j:Nat}{x:Str}(a:N[i]?=some x)(b:N[j]?=some x):i=j:=by
 obtain⟨h1,e1⟩:=B9.mp a
 obtain⟨h2,e2⟩:=B9.mp b
 exact(List.getElem_inj hN).mp (e1.trans e2.symm)
theorem uF{M:Model}{A:Around}{E:Value→Shared→Prop}{i:Nat}{x:Str}{v:V}{u:Value}{Q:Unit→Shared→Prop}(I:Inv X pins σ H s)(hN:X.N.Nodup)(hi:X.N[i]?=some x)(hx:Loc X.env.scope x)(r:RelV v u)
  (h:∀s',Inv X pins (σ.set i (some v)) H s'→(∃a,Heap.SameBut a s.heap s'.heap∧(a=X.env.locals∨X.env.cells.lookup x=some a))→Q () s') (hf:X.fn x=true∨X.env.scope.names.lookup x=some .local:=by first | exact .inl rfl | exact .inr rfl | assumption):wpAny M A (storeName X.env x u) Q E s:=by
 obtain⟨m,hn,hl⟩:=id I.loc
 have hcls:(X.env.scope.kind==.class||(X.env.scope.kind==.module&&X.env.locals != X.env.globals))=false:=by rw[I.ok.kind];rfl
 have MF:i<σ.length:=by rw[I.len];exact(B9.mp hi).1
 have Ni:=I.Ni
 have tracked:∀{a:Addr} {h':Heap},(∃o,s.heap.get? a=some o∧H a=none)→Heap.SameBut a s.heap h'→jU X.prog X.w H h':=λ{a h'} ha hs b ob e=>by
  obtain⟨_,_,hfree⟩:=ha
  refine(I.hok b ob e).stay (λc w' hc q=>(hs.2 c ?_).trans q) (λ_ q=>q) λ_ _ q=>q
  rintro rfl
  rcases hc with rfl | hc
  ·rw[hfree]at e;cases e
  ·rw[hfree]at hc;cases hc
 rcases hx with hk | hk
 ·refine wpAny_storeName_local hk hn (λh' hn' hs=>?_) hcls
  obtain⟨oL,_,_,hoL,_⟩:=id hn
  refine h _ ⟨I.ok,I.os,I.bare,⟨λb o e n hb hx=>?_,λb o e n hb hx=>?_,I.base.free,λb o e hx=>?_,I.base.tups,I.base.tU,I.base.vL⟩,⟨_,hn',λj y v' e1 e2 e3=>?_⟩,λy c e=>?_,I.free,I.gK,λp hp=>?_,tracked ⟨oL,hoL,I.free⟩ hs,by simpa using I.len⟩ ⟨_,hs,.inl rfl⟩
  ·exact(hs.2 b (C3 (B8 (Heap.lt_size e) I.ok.above))).trans (I.base.keep b o e n hb hx)
  ·obtain⟨sl,e1⟩:=I.base.slot b o e n hb hx
   exact⟨sl,(hs.2 b (C3 (B8 (Heap.lt_size e) I.ok.above))).trans e1⟩
  ·obtain⟨o',e1⟩:=I.base.there b o e hx
   exact⟨o',(hs.2 b (C3 (B8 (Heap.lt_size e) I.ok.above))).trans e1⟩
  ·by_cases hj:j=i
   ·subst hj
    rw[hi]at e1;cases e1
    rw[P4 MF]at e2
    cases e2
    exact⟨u,r,.inl ⟨hk,by simp⟩⟩
   ·rw[Q4 (Ne.symm hj)]at e2
    obtain⟨u',r',q⟩:=hl j y v' e1 e2 e3
    refine⟨u',r',?_⟩
    rcases q with ⟨k,e⟩ | ⟨k,c,e,z⟩
    ·refine .inl ⟨k,?_⟩
     have:y≠x:=λe=>hj (xU hN e1 (e▸hi))
     simp[this,e]
    ·exact .inr ⟨k,c,e,z.sameBut hs (Ni y c e)⟩
  ·obtain⟨w',z⟩:=I.cell y c e
   exact⟨w',z.sameBut hs (Ni y c e)⟩
  ·obtain⟨e,n,ne,nf,d⟩:=I.pin p hp
   exact⟨(hs.2 p.1 ne).trans e,n,ne,nf,d⟩
 ·have hfn:X.fn x=true:=by
   rcases hf with z | z
   ·exact z
   ·rw[z]at hk;cases hk
  obtain⟨c,hc⟩:=I.ok.has x (.inl hk)
  obtain⟨w',z⟩:=I.cell x c hc
  refine wpAny_storeName_cell I.ok.kind hk hc z (λh' hc' hs=>?_)
  obtain⟨oc,hoc,HN⟩:=id z
  refine h {s with heap:=h'} ⟨I.ok,I.os,I.bare,⟨λb o e n hb hx=>?_,λb o e n hb hx=>?_,I.base.free,λb o e hx=>?_,I.base.tups,I.base.tU,I.base.vL⟩,⟨m,hn.sameBut hs (Ne.symm (Ni x c hc)),λj y v' e1 e2 e3=>?_⟩,λy c' e=>?_,I.free,I.gK,λp hp=>?_,tracked ⟨oc,hoc,I.gK x c hc⟩ hs,by simpa using I.len⟩ ⟨c,hs,.inr hc⟩
  ·exact(hs.2 b (C3 (B8 (Heap.lt_size e) (I.ok.cab x c hfn hc)))).trans (I.base.keep b o e n hb hx)
  ·obtain⟨sl,e1⟩:=I.base.slot b o e n hb hx
   exact⟨sl,(hs.2 b (C3 (B8 (Heap.lt_size e) (I.ok.cab x c hfn hc)))).trans e1⟩
  ·obtain⟨o',e1⟩:=I.base.there b o e hx
   exact⟨o',(hs.2 b (C3 (B8 (Heap.lt_size e) (I.ok.cab x c hfn hc)))).trans e1⟩
  ·by_cases hj:j=i
   ·subst hj
    rw[hi]at e1;cases e1
    rw[P4 MF]at e2
    cases e2
    exact⟨u,r,.inr ⟨.inl hk,c,hc,hc'⟩⟩
   ·rw[Q4 (Ne.symm hj)]at e2
    obtain⟨u',r',q⟩:=hl j y v' e1 e2 e3
    refine⟨u',r',?_⟩
    rcases q with q | ⟨k,c',e,z'⟩
    ·exact .inl q
    ·refine .inr ⟨k,c',e,z'.sameBut hs ?_⟩
     rintro rfl
     exact hj (xU hN e1 (I.ok.inj _ _ _ e hc▸hi))
  ·by_cases hcc:c'=c
   ·subst hcc;exact⟨_,hc'⟩
   ·obtain⟨w2,z2⟩:=I.cell y c' e
    exact⟨w2,z2.sameBut hs hcc⟩
  ·obtain⟨e,n,ne,nf,d⟩:=I.pin p hp
   refine⟨(hs.2 p.1 ?_).trans e,n,ne,nf,d⟩
   intro q
   rw[q,hoc]at e
   have q':oc=p.2:=D9 e
   exact d w' (by rw[←q'];exact HN)
theorem xV{M:Model}{A:Around}{E:Value→Shared→Prop}{i:Nat}{x:Str}{v:V}{u:Value}{Q:Unit→Shared→Prop}(I:Inv X pins σ H s)(hN:X.N.Nodup)(hi:X.N[i]?=some x)(hx:Loc X.env.scope x)(r:RelV v u)
  (h:∀s',Inv X pins (σ.set i (some v)) H s'→Q () s') (hf:X.fn x=true∨X.env.scope.names.lookup x=some .local:=by first | exact .inl rfl | exact .inr rfl | assumption):wpAny M A (storeName X.env x u) Q E s:=
 uF I hN hi hx r (λs' I' _=>h s' I') hf
theorem Inv.call'{s':Shared}{ch:List Addr}(I:Inv X pins σ H s)(ho:s'.os=s.os)(u:Un (frs X.stack) ch H H' s.heap s'.heap)(hok:jU X.prog X.w H' s'.heap)(hg:AllBare s'.gens)
  (hch:∀b∈ch,(b∈X.ex∨X.s₀.heap.objs.size≤b)∧b≠X.env.locals∧(∀x c,X.env.cells.lookup x=some c→c≠b)∧∀p∈X.pn++pins,p.1≠b):Inv X pins σ H' s':=by
 obtain⟨h',g',d',t',o'⟩:=s'
 have e:o'=s.os:=ho
 subst e
 exact I.call (g':=g') (t':=t') (d':=d') u hok hg hch
end
abbrev XK:=Value→Option Addr→Hp→Prop
abbrev St:=List (Option V)
abbrev VK:=V→Hp→Prop
abbrev TE:=St→Hp→VK→Prop
abbrev TT:=St→Hp→(Bool→Hp→Prop)→Prop
abbrev TA:=St→Hp→(List V→Hp→Prop)→Prop
structure Ends where
 nx:St→Hp→Prop
 rt:VK
 bk:St→Hp→Prop:=λ_ _=>False
 ct:St→Hp→Prop:=λ_ _=>False
abbrev TS:=Ends→St→Hp→Prop
def EP(X:Cx)(pins:List (Addr×Obj))(σ:St)(Q:VK)(u:Value)(s':Shared):Prop:=∃v H',Inv X pins σ H' s'∧RelV v u∧Q v H'
def TP(X:Cx)(pins:List (Addr×Obj))(σ:St)(Q:Bool→Hp→Prop)(b:Bool)(s':Shared):Prop:=∃H',Inv X pins σ H' s'∧Q b H'
def AP(X:Cx)(pins:List (Addr×Obj))(σ:St)(Q:List V→Hp→Prop)(us:List Value)(s':Shared):Prop:=∃vs H',Inv X pins σ H' s'∧Vals vs us∧Q vs H'
def SP(X:Cx)(pins:List (Addr×Obj))(D:Ends)(f:Flow)(s':Shared):Prop:=
 match f with
 | .next=>∃σ' H',Inv X pins σ' H' s'∧D.nx σ' H'
 | .brk=>∃σ' H',Inv X pins σ' H' s'∧D.bk σ' H'
 | .cont=>∃σ' H',Inv X pins σ' H' s'∧D.ct σ' H'
 | .ret u=>∃v σ' H',Inv X pins σ' H' s'∧RelV v u∧D.rt v H'
def PE(X:Cx)(e:Expr)(t:TE):Prop:=
 ∀(pins:List (Addr×Obj))(s:Shared)(σ:St)(H:Hp)(Q:VK),Inv X pins σ H s→t σ H Q→wpAny (model X.prog X.w) X.A (eval e X.env) (EP X pins σ Q) X.xe s
def PT(X:Cx)(e:Expr)(t:TT):Prop:=
 ∀(pins:List (Addr×Obj))(s:Shared)(σ:St)(H:Hp)(Q:Bool→Hp→Prop),Inv X pins σ H s→t σ H Q→wpAny (model X.prog X.w) X.A (isTrue e X.env (eval e X.env)) (TP X pins σ Q) X.xe s
def PW(X:Cx)(e:Expr)(t:TT):Prop:=
 ∀(whole:Sem Value)(pins:List (Addr×Obj))(s:Shared)(σ:St)(H:Hp)(Q:Bool→Hp→Prop),Inv X pins σ H s→t σ H Q→wpAny (model X.prog X.w) X.A (isTrue e X.env whole) (TP X pins σ Q) X.xe s
theorem PW.pt{X:Cx}{e:Expr}{t:TT}(h:PW X e t):PT X e t:=h _
def PA(X:Cx)(es:List Expr)(t:TA):Prop:=
 ∀(pos:Pos)(pins:List (Addr×Obj))(s:Shared)(σ:St)(H:Hp)(Q:List V→Hp→Prop),Inv X pins σ H s→t σ H Q→wpAny (model X.prog X.w) X.A (spliced (backTo pos (starEach es X.env))) (AP X pins σ Q) X.xe s
def PS(X:Cx)(st:Stmt)(t:TS):Prop:=
 ∀(pins:List (Addr×Obj))(s:Shared)(σ:St)(H:Hp)(D:Ends),Inv X pins σ H s→t D σ H→wpAny (model X.prog X.w) X.A (exec st X.env) (SP X pins D) X.xe s
def Af(X:Cx)(st:List Stmt)(t:TS):Prop:=
 ∀(pins:List (Addr×Obj))(s:Shared)(σ:St)(H:Hp)(D:Ends),Inv X pins σ H s→t D σ H→wpAny (model X.prog X.w) X.A (execs st X.env) (SP X pins D) X.xe s
theorem cG{α:Type}{t:Sem α}{Q Q':α→Shared→Prop}{M:Model}{A:Around}{E:Value→Shared→Prop}{s:Shared}(h:wpAny M A t Q E s)(hQ:∀a s,Q a s→Q' a s):wpAny M A t Q' E s:=wpAny_mono h hQ λ_ _ x=>x
end L2
namespace L2
open PySem PySem.Spec PyProof.Rows
section
variable{X:Cx}
def tV(i:Nat):TE:=λσ H Q=>∃v,σ[i]?=some (some v)∧Q v H
def tC(v:V):TE:=λ_ H Q=>Q v H
theorem Tz{i:Nat}{x:Str}{pos:Pos}(hN:X.N[i]?=some x)(hv:DR X.env.scope x)(hd:(x==("__debug__" : Str))=false:=by decide) (hcd:(x==("__classdict__" : Str))=false:=by decide):PE X (.Name x pos) (tV i):=by
  intro pins s σ H Q I h
  obtain⟨v,e,h⟩:=h
  obtain⟨m,hn,hl⟩:=I.loc
  obtain⟨u,r,l⟩:=hl i x v hN e hv
  have fin:EP X pins σ Q u s:=⟨v,H,I,r,h⟩
  rcases l with ⟨hk,hm⟩ | ⟨hk,c,hc,hcell⟩
  · exact wpAny_Name (wpAny_loadName_local I.ok.kind hk hn hm fin) hd
  · rcases hk with hk | hk
    · exact wpAny_Name (wpAny_loadName_cell I.ok.kind hk hc hcell fin) hd
    · exact wpAny_Name (wpAny_loadName_free I.ok.kind hk hc hcell fin hcd) hd
theorem Ua{i j pos}:PE X (.Constant (.int i) j pos) (tC (.int i)):=λ_ _ _ H _ I h=>wpAny_Constant_int ⟨.int i,H,I.tok _,⟨_,rfl⟩,h⟩
theorem Yn{b j pos}:PE X (.Constant (.bool b) j pos) (tC (.bl b)):=λ_ _ _ H _ I h=>Constant_bool ⟨.bl b,H,I,rfl,h⟩
theorem Ub{x j pos}:PE X (.Constant (.str x) j pos) (tC (.str x)):=λ_ _ _ H _ I h=>Calls.Constant_str ⟨.str x,H,I.tok _,⟨_,rfl⟩,h⟩
def Gl(X:Cx)(x:Str):Prop:=X.env.kindOf x=some .globalImplicit
theorem De{E:Value→Shared→Prop}{pins:List (Addr×Obj)}{s:Shared}{σ:St}{H:Hp}{x:Str}{u:Value}{pos:Pos}{Q:Value→Shared→Prop}(I:Inv X pins σ H s)(hg:Gl X x)(hm:X.mg x=some u)(h:Q u s)
  (hd:(x==("__debug__" : Str))=false:=by decide):wpAny (model X.prog X.w) X.A (eval (.Name x pos) X.env) Q E s:=
 Calls.Name_function_global I.ok.kind hg (Calls.loadGlobal_global (by rw[I.ok.glob];exact I.mod.glob.keeps I.bk) hm h) hd
theorem vP{E:Value→Shared→Prop}{pins:List (Addr×Obj)}{s:Shared}{σ:St}{H:Hp}{x:Str}{u:Value}{pos:Pos}{Q:Value→Shared→Prop}(I:Inv X pins σ H s)(hg:Gl X x)(hm:X.mg x=none)(hv:bootBuiltins x=some u)(h:Q u s)
  (hn:x ≠ "__name__" := by decide) (hd:(x==("__debug__" : Str))=false:=by decide):wpAny (model X.prog X.w) X.A (eval (.Name x pos) X.env) Q E s:=by
 obtain⟨mb,h1,h2⟩:=I.mod.blt
 exact Calls.Name_function_global I.ok.kind hg (Calls.loadGlobal_builtin (by rw[I.ok.glob];exact I.mod.glob.keeps I.bk) hm (by rw[I.ok.blt];exact h1.keeps I.bk) ((h2 x hn).trans hv) h) hd
theorem Ny{x:Str}{v:V}{u:Value}{pos:Pos}(hg:Gl X x)(hm:X.mg x=some u)(r:RelV v u)(hd:(x==("__debug__" : Str))=false:=by decide):PE X (.Name x pos) (tC v):=
 λ_ _ _ H _ I h=>De I hg hm ⟨v,H,I,r,h⟩ hd
theorem pF{x:Str}{v:V}{u:Value}{pos:Pos}(hg:Gl X x)(hm:X.mg x=none)(hv:bootBuiltins x=some u)(r:RelV v u)(hn:x ≠ "__name__" := by decide) (hd:(x==("__debug__" : Str))=false:=by decide):PE X (.Name x pos) (tC v):=
 λ_ _ _ H _ I h=>vP I hg hm hv ⟨v,H,I,r,h⟩ hn hd
variable{a b:Expr}{ta tb:TE}{pos:Pos}
def PC(X:Cx)(op:CmpOp)(a b:Expr)(t:TE):Prop:=
 ∀(pins:List (Addr×Obj))(s:Shared)(σ:St)(H:Hp)(Q:VK),Inv X pins σ H s→t σ H Q →
  wpAny (model X.prog X.w) X.A (eval a X.env) (λv s₁=>wpAny (model X.prog X.w) X.A (eval b X.env) (λu s₂=>wpAny (model X.prog X.w) X.A (compareOp op v u) (EP X pins σ Q) X.xe s₂) X.xe s₁) X.xe s
def tB(t:TE):TT:=λσ H Q=>t σ H λx H1=>∃c,x=.bl c∧Q c H1
theorem Io{op:CmpOp}{t:TE}(h:PC X op a b t)(h1:behindInMarks op b=false:=by first | exact nobehind _ (by decide) (by decide) | rfl):PE X (.Compare a [op] [b] pos) t:=λpins s σ H Q I hw=>wpAny_Compare1 (h pins s σ H Q I hw) h1
theorem Uc{op:CmpOp}{t:TE}(h:PC X op a b t)(h1:behindInMarks op b=false:=by first | exact nobehind _ (by decide) (by decide) | rfl):PT X (.Compare a [op] [b] pos) (tB t):=by
 intro pins s σ H Q I hw
 refine wpAny_isTrue_Compare1 (cG (h pins s σ H _ I hw) λv s1 h1=>cG h1 λu s2 h2=>cG h2 λc s3 ⟨x,H1,I1,r1,q1⟩=>?_) h1
 obtain⟨d,rfl,q⟩:=q1
 cases r1
 exact wpAny_truthy_bool ⟨H1,I1,q⟩
theorem Ud{e:Expr}{t:TE}(h:PE X e t)(he:∀whole,isTrue e X.env whole=(do let v ←whole;standAt e.pos;holding [v] (truthy v)):=by intro _;rfl):PT X e (tB t):=by
 intro pins s σ H Q I hw
 refine isTrue_plain (cG (h pins s σ H _ I hw) λv s1 ⟨x,H1,I1,r1,q1⟩=>?_) (he _)
 obtain⟨d,rfl,q⟩:=q1
 cases r1
 exact wpAny_truthy_bool ⟨H1,I1,q⟩
variable{tA DX:TT}{rest:List Expr}
def Ue(t u:TT):TT:=λσ H Q=>t σ H λc H1=>if c=true then u σ H1 Q else Q false H1
def HQ(t u:TT):TT:=λσ H Q=>t σ H λc H1=>if c=true then Q true H1 else u σ H1 Q
def Ug(t:TT):TT:=λσ H Q=>t σ H λc H1=>Q (!c) H1
theorem Nz(ha:PT X a tA):PW X (.BoolOp .And [a] pos) tA:=by
 intro wh pins s σ H Q I h
 refine isTrue_and (cG (ha pins s σ H Q I h) λc s1 e=>?_)
 cases c with
 | true=>exact isTrue_and_nil e
 | false=>exact e
theorem Uh(ha:PT X a tA):PW X (.BoolOp .Or [a] pos) tA:=by
 intro wh pins s σ H Q I h
 refine isTrue_or (cG (ha pins s σ H Q I h) λc s1 e=>?_)
 cases c with
 | false=>exact isTrue_or_nil e
 | true=>exact e
theorem Ui(ha:PT X a tA)(hb:PW X (.BoolOp .And (b::rest) pos) DX):PW X (.BoolOp .And (a::b::rest) pos) (Ue tA DX):=by
 intro wh pins s σ H Q I h
 refine isTrue_and (cG (ha pins s σ H _ I h) λc s1 ⟨H1,I1,q1⟩=>?_)
 cases c with
 | true=>exact hb wh pins s1 σ H1 Q I1 q1
 | false=>exact⟨H1,I1,q1⟩
theorem Yo(ha:PT X a tA)(hb:PW X (.BoolOp .Or (b::rest) pos) DX):PW X (.BoolOp .Or (a::b::rest) pos) (HQ tA DX):=by
 intro wh pins s σ H Q I h
 refine isTrue_or (cG (ha pins s σ H _ I h) λc s1 ⟨H1,I1,q1⟩=>?_)
 cases c with
 | true=>exact⟨H1,I1,q1⟩
 | false=>exact hb wh pins s1 σ H1 Q I1 q1
theorem Uj(ha:PT X a tA):PT X (.UnaryOp .Not a pos) (Ug tA):=by
 intro pins s σ H Q I h
 exact isTrue_not (ha pins s σ H (λc H1=>Q (!c) H1) I h)
def Ro(ta tb:TE):TE:=λσ H Q=>ta σ H λx H1=>∃c,x=.bl c∧if c=true then tb σ H1 Q else Q (.bl false) H1
def Rp(ta:TE):TE:=λσ H Q=>ta σ H λx H1=>∃c,x=.bl c∧Q (.bl (!c)) H1
theorem Uk{op}{t:TE}(h:PE X a t):PE X (.BoolOp op [a] pos) t:=λpins s σ H Q I hw=>BoolOp_one (h pins s σ H Q I hw)
theorem Ul(ha:PE X a ta)(hb:PE X (.BoolOp .And (b::rest) pos) tb):PE X (.BoolOp .And (a::b::rest) pos) (Ro ta tb):=by
 intro pins s σ H Q I h
 refine BoolOp_and (cG (ha pins s σ H _ I h) λv s1 ⟨x,H1,I1,r1,q1⟩=>?_)
 obtain⟨c,rfl,q1⟩:=q1
 cases r1
 refine wpAny_truthy_bool ?_
 cases c with
 | true=>exact hb pins s1 σ H1 Q I1 q1
 | false=>exact⟨.bl false,H1,I1,rfl,q1⟩
theorem Um(ha:PE X a ta):PE X (.UnaryOp .Not a pos) (Rp ta):=by
 intro pins s σ H Q I h
 refine UnaryOp_ (cG (ha pins s σ H _ I h) λv s1 ⟨x,H1,I1,r1,q1⟩=>?_)
 obtain⟨c,rfl,q1⟩:=q1
 cases r1
 exact not_of (wpAny_truthy_bool ⟨.bl (!c),H1,I1,rfl,q1⟩)
end
end L2
namespace L2
open PySem PySem.Spec PyProof.Rows
def gW(K:aA)(H:Hp)(a:Addr)(xs:List V):Prop:=
 Rd H a (.lst xs) ∨
  ∃(o:Obj)(its:Array Value)(n:Nat),K.lookup a=some o∧o.cls=.type "list" ∧ o.dict=none∧o.data=.seq its n∧its.size≤sizeLine∧Vals xs its.toList
def jP(K:aA)(H:Hp)(a:Addr)(xs:List V):Prop:=
 Rd H a (.tup xs) ∨
  ∃(o:Obj)(its:Array Value)(n:Nat),K.lookup a=some o∧o.cls=.type "tuple" ∧ o.data=.seq its n∧its.size≤sizeLine∧Vals xs its.toList
def HR:Value→Option V
 | .none=>some .non
 | .bool b=>some (.bl b)
 | .int i _=>some (.int i)
 | .str x _=>some (.str x)
 | .bytes b _=>some (.byt b)
 | .float b _=>some (.flt b)
 | .ref a=>some (.ref a)
 | .type n=>some (.ty n)
 | _=>none
theorem RelV.abs{x:V}{u:Value}(r:RelV x u):HR u=some x:=by
 cases x with
 | non=>cases r;rfl
 | bl _=>cases r;rfl
 | int _=>obtain⟨t,rfl⟩:=r;rfl
 | str _=>obtain⟨t,rfl⟩:=r;rfl
 | byt _=>obtain⟨t,rfl⟩:=r;rfl
 | flt _=>obtain⟨t,rfl⟩:=r;rfl
 | ref _=>cases r;rfl
 | ty _=>cases r;rfl
theorem RelV.inj{x y:V}{u:Value}(r:RelV x u)(q:RelV y u):x=y:=D9 (r.abs.symm.trans q.abs)
theorem Vals.inj:∀{xs ys:List V} {us:List Value},Vals xs us→Vals ys us→xs=ys
 | _,_,_,.nil,.nil=>rfl
 | _,_,_,.cons r t,.cons r' t'=>by rw[r.inj r',Vals.inj t t']
section
variable{X:Cx}{pins:List (Addr×Obj)}{σ:St}{H:Hp}{s:Shared}{a:Addr}{xs ys:List V}
theorem gW.of{K:aA}(h:H a=some (.lst xs)):gW K H a xs:=.inl (.inl h)
theorem jP.of{K:aA}(h:H a=some (.tup xs)):jP K H a xs:=.inl (.inl h)
theorem Inv.list(I:Inv X pins σ H s)(h:gW X.K H a xs):∃its:List Value,Vals xs its∧PlainL s.heap a its.toArray∧xs.length≤sizeLine:=by
 rcases h with h | ⟨o,its,n,hk,hc,hd,hs,hz,r⟩
 ·obtain⟨z,its,n,r,e⟩:=h.ok I.hok
  exact⟨its,r,⟨_,n,e,rfl,rfl,rfl⟩,z⟩
 ·refine⟨its.toList,r,⟨o,n,I.vN a o hk,hc,hd,by simpa using hs⟩,?_⟩
  have e:=r.length
  simp only[K2]at e
  omega
theorem Inv.tuple(I:Inv X pins σ H s)(h:jP X.K H a xs):∃its:List Value,Vals xs its∧IsTup s.heap a its.toArray∧xs.length≤sizeLine:=by
 rcases h with h | ⟨o,its,n,hk,hc,hs,hz,r⟩
 ·obtain⟨z,its,r,p⟩:=h.ok I.hok
  exact⟨its,r,p,z⟩
 ·refine⟨its.toList,r,⟨o,I.vN a o hk,hc,n,by simpa using hs⟩,?_⟩
  have e:=r.length
  simp only[K2]at e
  omega
theorem Inv.xW(I:Inv X pins σ H s)(h:gW X.K H a xs)(h':gW X.K H a ys):xs=ys:=by
 obtain⟨its,r,⟨o,n,e,_,_,d⟩,_⟩:=I.list h
 obtain⟨its',r',⟨o',n',e',_,_,d'⟩,_⟩:=I.list h'
 rw[e]at e';cases e'
 rw[d]at d'
 injection d' with d1 _
 have:its=its':=by simpa using congrArg U3 d1
 subst this
 exact r.inj r'
theorem Inv.uG(I:Inv X pins σ H s)(h:jP X.K H a xs)(h':jP X.K H a ys):xs=ys:=by
 obtain⟨its,r,⟨o,e,_,n,d⟩,_⟩:=I.tuple h
 obtain⟨its',r',⟨o',e',_,n',d'⟩,_⟩:=I.tuple h'
 rw[e]at e';cases e'
 rw[d]at d'
 injection d' with d1 _
 have:its=its':=by simpa using congrArg U3 d1
 subst this
 exact r.inj r'
end
abbrev Cx.wish(X:Cx)(E:Value→Shared→Prop):Cx:={X with xe:=E}
abbrev Cx.Uo(X:Cx):Cx:=X.wish λ_ _=>False
theorem Cx.Ok.wish{X:Cx}(ok:X.Ok)(E:Value→Shared→Prop):(X.wish E).Ok:=
 ⟨ok.mod,ok.kind,ok.glob,ok.blt,ok.above,ok.inj,ok.has,ok.cab,ok.hd,ok.frames,ok.DW,ok.LK,ok.bs,ok.Rn,ok.Il,ok.Nx,ok.pW,ok.Yd⟩
theorem Cx.Ok.gY{X:Cx}{E:Value→Shared→Prop}(ok:(X.wish E).Ok):X.Ok:=
 ⟨ok.mod,ok.kind,ok.glob,ok.blt,ok.above,ok.inj,ok.has,ok.cab,ok.hd,ok.frames,ok.DW,ok.LK,ok.bs,ok.Rn,ok.Il,ok.Nx,ok.pW,ok.Yd⟩
section
variable{X:Cx}{pins:List (Addr×Obj)}{σ:St}{H:Hp}{s:Shared}{E:Value→Shared→Prop}
theorem Inv.wish(I:Inv X pins σ H s)(E:Value→Shared→Prop):Inv (X.wish E) pins σ H s:=⟨I.ok.wish E,I.os,I.bare,I.base,I.loc,I.cell,I.free,I.gK,I.pin,I.hok,I.len⟩
theorem Inv.gY(I:Inv (X.wish E) pins σ H s):Inv X pins σ H s:=⟨I.ok.gY,I.os,I.bare,I.base,I.loc,I.cell,I.free,I.gK,I.pin,I.hok,I.len⟩
theorem SP.gY{D:Ends}{f:Flow}{s':Shared}(h:SP (X.wish E) pins D f s'):SP X pins D f s':=by
 cases f with
 | next=>obtain⟨σ',H',I,q⟩:=h;exact⟨σ',H',I.gY,q⟩
 | brk=>obtain⟨σ',H',I,q⟩:=h;exact⟨σ',H',I.gY,q⟩
 | cont=>obtain⟨σ',H',I,q⟩:=h;exact⟨σ',H',I.gY,q⟩
 | ret u=>obtain⟨v,σ',H',I,r,q⟩:=h;exact⟨v,σ',H',I.gY,r,q⟩
theorem Af.Uo{st:List Stmt}{t:TS}(h:Af X.Uo st t):Af X st t:=λpins s σ H D I hw=>
 wpAny_mono (h pins s σ H D (I.wish _) hw) (λ_ _ q=>q.gY) λ_ _ z=>False.elim z
end
section
variable{X:Cx}{st:Stmt}{rest:List Stmt}{t u:TS}{e:Expr}{te:TE}{pos:Pos}
def Rq:TS:=λD σ H=>D.nx σ H
def Up(t u:TS):TS:=λD σ H=>t {D with nx:=u D} σ H
theorem Oa:Af X [] Rq:=λ_ _ σ H _ I h=>wpAny_execs_nil ⟨σ,H,I,h⟩
theorem Ip(h1:PS X st t)(h2:Af X rest u):Af X (st::rest) (Up t u):=by
 intro pins s σ H D I h
 refine wpAny_execs_cons (cG (h1 pins s σ H {D with nx:=u D} I h) λf s1 q=>?_)
 cases f with
 | next=>
  obtain⟨σ',H',I',q⟩:=q
  exact h2 pins s1 σ' H' D I' q
 | ret v=>exact q
 | brk=>exact q
 | cont=>exact q
theorem Ob(h1:PS X st t):Af X [st] t:=by
 intro pins s σ H D I h
 refine wpAny_execs_cons (cG (h1 pins s σ H D I h) λf s1 q=>?_)
 cases f with
 | next=>exact wpAny_execs_nil q
 | ret v=>exact q
 | brk=>exact q
 | cont=>exact q
theorem Inv.quiet{pins:List (Addr×Obj)}{σ:St}{H:Hp}{s:Shared}(I:Inv X pins σ H s):interactive X.env=false:=by simp[interactive,I.ok.kind]
def nU(te:TE):TS:=λD σ H=>te σ H λ_ H1=>D.nx σ H1
theorem pG(he:PE X e te)(hs:swapsWith e none pos.line X.env=pure false:=by rfl):PS X (.Expr e pos) (nU te):=by
 intro pins s σ H D I h
 exact wpAny_Expr_any (cG (he pins s σ H _ I h) λv s1 ⟨x,H1,I1,r1,q1⟩=>⟨σ,H1,I1,q1⟩) I.quiet hs
def Yp(te:TE):TS:=λD σ H=>te σ H D.rt
theorem Uq(he:PE X e te):PS X (.Return (some e) pos) (Yp te):=by
 intro pins s σ H D I h
 exact wpAny_Return_some (cG (he pins s σ H _ I h) λv s1 ⟨x,H1,I1,r1,q1⟩=>⟨x,σ,H1,I1,r1,q1⟩)
def Yq(c:TT)(t u:TS):TS:=λD σ H=>c σ H λb H1=>if b=true then t D σ H1 else u D σ H1
theorem Yr{c:Expr}{a b:List Stmt}{tc:TT}(hc:PT X c tc)(ha:Af X a t)(hb:Af X b u):PS X (.If c a b pos) (Yq tc t u):=by
 intro pins s σ H D I h
 refine wpAny_If (cG (hc pins s σ H _ I h) λd s1 ⟨H1,I1,q1⟩=>?_)
 cases d with
 | true=>exact ha pins s1 σ H1 D I1 q1
 | false=>exact hb pins s1 σ H1 D I1 q1
def Ir:TS:=λ_ _ _=>False
theorem Iu:PS X st Ir:=λ_ _ _ _ _ _ h=>h.elim
end
abbrev TG:=V→St→Hp→(St→Hp→Prop)→Prop
def PG(X:Cx)(target:Expr)(t:TG):Prop:=
 ∀(pins:List (Addr×Obj))(s:Shared)(σ:St)(H:Hp)(v:V)(u:Value)(Q:St→Hp→Prop),Inv X pins σ H s→RelV v u→t v σ H Q →
  wpAny (model X.prog X.w) X.A (assign target X.env u) (λ_ s'=>∃σ' H',Inv X pins σ' H' s'∧Q σ' H') X.xe s
section
variable{X:Cx}{pos:Pos}
def bZ(i:Nat):TG:=λv σ H Q=>Q (σ.set i (some v)) H
theorem jF{i:Nat}{x:Str}(hN:X.N.Nodup)(hi:X.N[i]?=some x)(hx:Loc X.env.scope x)(hf:X.fn x=true∨X.env.scope.names.lookup x=some .local:=by first | exact .inl rfl | exact .inr rfl | assumption):PG X (.Name x pos) (bZ i):=by
 intro pins s σ H v u Q I r h
 exact wpAny_assign_Name (xV I hN hi hx r (λs' I'=>⟨_,H,I',h⟩) hf)
def xX(te:TE)(g:TG):TS:=λD σ H=>te σ H λx H1=>g x σ H1 D.nx
theorem cF{i:Nat}{x:Str}{e:Expr}{te:TE}{pos':Pos}(hN:X.N.Nodup)(hi:X.N[i]?=some x)(hx:Loc X.env.scope x)(he:PE X e te)(hs:swapsWith e (some (.Name x pos')) pos.line X.env=pure false:=by rfl)(hf:X.fn x=true∨X.env.scope.names.lookup x=some .local:=by first | exact .inl rfl | exact .inr rfl | assumption) :
  PS X (.Assign [.Name x pos'] e pos) (xX te (bZ i)):=by
 intro pins s σ H D I h
 refine wpAny_Assign_Name (cG (he pins s σ H _ I h) λv s1 ⟨y,H1,I1,r1,q1⟩=>?_) hs
 exact xV I1 hN hi hx r1 (λs2 I2=>⟨_,H1,I2,q1⟩) hf
end
section
variable{X:Cx}{pos:Pos}
end
structure It where
 go:Nat→Hp→Prop
 Ys:Nat→Hp→V→Hp→Prop
 stop:Nat→Hp→Prop
def vQ(X:Cx)(pins:List (Addr×Obj))(H:Hp)(b:Addr):Prop:=
 H b=none∧b≠X.env.locals∧b∉X.fs∧(b∈X.ex∨X.s₀.heap.objs.size≤b)∧(∀x c,X.env.cells.lookup x=some c→c≠b)∧∀p∈X.pn++pins,p.1≠b
theorem Inv.Ur{X:Cx}{pins:List (Addr×Obj)}{σ:St}{H H':Hp}{s:Shared}{b:Addr}(I:Inv X pins σ H s)(hb:s.heap.objs.size≤b)(hn:H' b=none):vQ X pins H' b:=by
 refine⟨hn,J6 (B8 I.lt hb),I.HJ hb,.inr (E7 I.sz hb),λx c e z=>?_,λp hp z=>?_⟩
 ·obtain⟨v,q⟩:=I.cell x c e
  exact absurd (B8 q.lt (by rw[z];exact hb)) (F1 _)
 ·exact absurd (B8 (Heap.lt_size (I.pin p hp).1) (by rw[z];exact hb)) (F1 _)
structure Turn(P:Program)(w:World)(K:aA)(tg:Expr)(J:It)(fp:List Addr)(it:Addr)(tn:Nat→Heap→Prop):Prop where
 mem:it∈fp
 obj:∀i h,tn i h→∀b∈fp,∃o,h.get? b=some o∧∀v,o.data≠.cell v
 keep:∀i h h',tn i h→(∀b∈fp,∀o,h.get? b=some o→h'.get? b=some o)→tn i h'
 item:∀(X:Cx),X.prog=P→X.w=w→X.K=K→X.calm=true→∀(i:Nat)(pins:List (Addr×Obj))(s:Shared)(σ:St)(H:Hp)(E:Value→Shared→Prop),Inv X pins σ H s→(∀b∈fp,vQ X pins H b)→tn i s.heap→J.go i H →
  wpAny (model P w) X.A (pyNext (.ref it)) (λr s1=>∃u,r=some u ∧
   wpAny (model P w) X.A (letOwnedTupleGo tg (.ref it) u) (λ_ s2=>∃x H',Inv X pins σ H' s2∧RelV x u∧J.Ys i H x H'∧tn (i+1) s2.heap∧∀b∈fp,H' b=none) E s1) E s
 done:∀(X:Cx),X.prog=P→X.w=w→X.K=K→X.calm=true→∀(i:Nat)(pins:List (Addr×Obj))(s:Shared)(σ:St)(H:Hp)(E:Value→Shared→Prop),Inv X pins σ H s→(∀b∈fp,vQ X pins H b)→tn i s.heap→J.stop i H →
  wpAny (model P w) X.A (pyNext (.ref it)) (λr s1=>r=none∧Inv X pins σ H s1) E s
 self:∀(A:Around)(i:Nat)(s:Shared)(Q:Value→Shared→Prop)(E:Value→Shared→Prop),tn i s.heap→Q (.ref it) s→wpAny (model P w) A (pyIter (.ref it)) Q E s
abbrev TI:=St→Hp→(It→Hp→Prop)→Prop
def PIE(X:Cx)(pins:List (Addr×Obj))(σ:St)(tg:Expr)(R:It→Hp→Prop)(itv:Value)(s2:Shared):Prop:=
 ∃(it:Addr)(fp:List Addr)(tn:Nat→Heap→Prop)(J:It)(H':Hp),itv=.ref it∧Inv X pins σ H' s2∧Turn X.prog X.w X.K tg J fp it tn∧tn 0 s2.heap∧(∀b∈fp,vQ X pins H' b)∧R J H'
def PI(X:Cx)(tg iter:Expr)(wi:TI):Prop:=
 ∀(pins:List (Addr×Obj))(s:Shared)(σ:St)(H:Hp)(R:It→Hp→Prop),Inv X pins σ H s→wi σ H R →
  wpAny (model X.prog X.w) X.A (eval iter X.env) (λv s1=>wpAny (model X.prog X.w) X.A (pyIter v) (PIE X pins σ tg R) X.xe s1) X.xe s
theorem Iv{M:Model}{A:Around}{E:Value→Shared→Prop}{s:Shared}{tg:Expr}{it:Addr}{u:Value}{o:Obj}{n:String}{vs:Array Value}{Q:Unit→Shared→Prop}(ho:s.heap.get? it=some o)(hc:o.cls=.type n)(hd:o.data=.fields vs)
    (hn:["enumerate", "zip", "dict_itemiterator", "dict_reverseitemiterator", "odict_iterator", "itertools.zip_longest", "itertools.pairwise"].contains n=false) (hQ:Q () s):wpAny M A (letOwnedTupleGo tg (.ref it) u) Q E s:=by
  unfold letOwnedTupleGo
  cases tg<;>first
    | exact wpAny_pure hQ
    | (cases u<;>first
        | exact wpAny_pure hQ
        | (refine wpAny_bind (wpAny_load ho ?_)
           rw[hc,hd]
           show wpAny M A (if(["enumerate", "zip", "dict_itemiterator", "dict_reverseitemiterator", "odict_iterator", "itertools.zip_longest", "itertools.pairwise"].contains n&&vs[0]?==some (rawInt _))=true then _ else _) Q E s
           rw[if_neg (by intro h;rw[hn,Bool.false_and]at h;cases h)]
           exact wpAny_pure hQ))
def HS(K:aA)(a:Addr):It:=
 ⟨λi H=>∃xs x,gW K H a xs∧xs[i]?=some x,λi H x H'=>H'=H∧∀xs,gW K H a xs→xs[i]?=some x,λi H=>∃xs,gW K H a xs∧xs.length≤i⟩
def HW(K:aA)(a:Addr):It:=
 ⟨λi H=>∃xs x,jP K H a xs∧xs[i]?=some x,λi H x H'=>H'=H∧∀xs,jP K H a xs→xs[i]?=some x,λi H=>∃xs,jP K H a xs∧xs.length≤i⟩
theorem Fy{P:Program}{w:World}{K:aA}{tg:Expr}(a it:Addr):Turn P w K tg (HS K a) [it] it (λi h=>h.IsListIter it a i) where
 mem:=by simp
 obj:=λi h st b hb=>by
  have e:b=it:=by simpa using hb
  subst e
  obtain⟨o,e,c,d⟩:=st
  exact⟨o,e,λv z=>by rw[d]at z;cases z⟩
 keep:=λi h h' st k=>st.at λo e=>k it (by simp) o e
 item:=by
  intro X hP hw hK hc i pins s σ H E I hf st hg
  subst hP hw hK
  obtain⟨xs,x,hq,hx⟩:=hg
  obtain⟨its,rv,p,hz⟩:=I.list hq
  obtain⟨u,hu,ru⟩:=rv.get hx
  obtain⟨f0,f1,f2,f3,f4,f5⟩:=hf it (by simp)
  refine wpAny_pyNext_list_item st p.isList (x:=u) (by simpa using hu) λh' st' sb=>?_
  have I1:Inv X pins σ H {s with heap:=h'}:=I.turned (t':=s.toks) (λb o hb e=>(sb.2 b hb).trans e) f0 f1 f3 f4 f5
  obtain⟨o,e,c,d⟩:=id st'
  exact⟨u,rfl,Iv (s:={s with heap:=h'}) e c d (by decide) ⟨x,H,I1,ru,⟨rfl,λys hy=>by rw[I.xW hy hq];exact hx⟩,st',λb hb=>(hf b hb).1⟩⟩
 done:=by
  intro X hP hw hK hc i pins s σ H E I hf st hg
  subst hP hw hK
  obtain⟨xs,hq,hx⟩:=hg
  obtain⟨its,rv,p,hz⟩:=I.list hq
  obtain⟨f0,f1,f2,f3,f4,f5⟩:=hf it (by simp)
  have hl:=rv.length
  exact wpAny_pyNext_list_end (I.ok.hd hc) st p.isList (by simp;omega) λh' eb=>⟨rfl,I.turned (t':=s.toks) (λb o hb e=>eb b o hb e) f0 f1 f3 f4 f5⟩
 self:=λ_ _ _ _ _ st h=>wpAny_pyIter_listiter st h
theorem Ai{P:Program}{w:World}{K:aA}{tg:Expr}(a it:Addr):Turn P w K tg (HW K a) [it] it (λi h=>h.IsTupleIter it a i) where
 mem:=by simp
 obj:=λi h st b hb=>by
  have e:b=it:=by simpa using hb
  subst e
  obtain⟨o,e,c,d⟩:=st
  exact⟨o,e,λv z=>by rw[d]at z;cases z⟩
 keep:=λi h h' st k=>st.at λo e=>k it (by simp) o e
 item:=by
  intro X hP hw hK hc i pins s σ H E I hf st hg
  subst hP hw hK
  obtain⟨xs,x,hq,hx⟩:=hg
  obtain⟨its,rv,p,hz⟩:=I.tuple hq
  obtain⟨u,hu,ru⟩:=rv.get hx
  obtain⟨f0,f1,f2,f3,f4,f5⟩:=hf it (by simp)
  refine wpAny_pyNext_tuple_item st (show s.heap.IsTuple a its.toArray from p) (x:=u) (by simpa using hu) λh' st' sb=>?_
  have I1:Inv X pins σ H {s with heap:=h'}:=I.turned (t':=s.toks) (λb o hb e=>(sb.2 b hb).trans e) f0 f1 f3 f4 f5
  obtain⟨o,e,c,d⟩:=id st'
  exact⟨u,rfl,Iv (s:={s with heap:=h'}) e c d (by decide) ⟨x,H,I1,ru,⟨rfl,λys hy=>by rw[I.uG hy hq];exact hx⟩,st',λb hb=>(hf b hb).1⟩⟩
 done:=by
  intro X hP hw hK hc i pins s σ H E I hf st hg
  subst hP hw hK
  obtain⟨xs,hq,hx⟩:=hg
  obtain⟨its,rv,p,hz⟩:=I.tuple hq
  obtain⟨f0,f1,f2,f3,f4,f5⟩:=hf it (by simp)
  have hl:=rv.length
  exact wpAny_pyNext_tuple_end (I.ok.hd hc) st (show s.heap.IsTuple a its.toArray from p) (by simp;omega) λh' eb=>⟨rfl,I.turned (t':=s.toks) (λb o hb e=>eb b o hb e) f0 f1 f3 f4 f5⟩
 self:=λ_ _ _ _ _ st h=>wpAny_pyIter_tupleiter st h
end L2
namespace L2
open PySem PySem.Spec PyProof.Rows
section
variable{X:Cx}{tg:Expr}
def Rr(K:aA)(tl:TE):TI:=λσ H R=>tl σ H λx H1=>∃a,x=.ref a∧(∃xs,gW K H1 a xs)∧R (HS K a) H1
def Yt(K:aA)(tl:TE):TI:=λσ H R=>tl σ H λx H1=>∃a,x=.ref a∧(∃xs,jP K H1 a xs)∧R (HW K a) H1
theorem Oc{l:Expr}{tl:TE}(hl:PE X l tl):PI X tg l (Rr X.K tl):=by
 intro pins s σ H R I h
 refine cG (hl pins s σ H _ I h) λv s1 ⟨x,H1,I1,r1,q1⟩=>?_
 obtain⟨a,e,⟨xs,hq⟩,q⟩:=q1
 subst e
 cases r1
 obtain⟨its,rv,p,hz⟩:=I1.list hq
 refine wpAny_pyIter_list p.isList ?_
 refine⟨s1.heap.objs.size,[s1.heap.objs.size],_,_,H1,rfl,I1.kept (t':=s1.toks) λb o e=>Heap.get?_push_of_some _ e,Fy a _,⟨_,Heap.get?_push_size _ rfl,rfl,rfl⟩,λb hb=>?_,q⟩
 have e:b=s1.heap.objs.size:=by simpa using hb
 subst e
 exact I1.Ur (B6 _) (I1.hok.fresh (B6 _))
theorem Us{l:Expr}{tl:TE}(hl:PE X l tl):PI X tg l (Yt X.K tl):=by
 intro pins s σ H R I h
 refine cG (hl pins s σ H _ I h) λv s1 ⟨x,H1,I1,r1,q1⟩=>?_
 obtain⟨a,e,⟨xs,hq⟩,q⟩:=q1
 subst e
 cases r1
 obtain⟨its,rv,p,hz⟩:=I1.tuple hq
 refine wpAny_pyIter_tuple (show s1.heap.IsTuple a its.toArray from p) ?_
 refine⟨s1.heap.objs.size,[s1.heap.objs.size],_,_,H1,rfl,I1.kept (t':=s1.toks) λb o e=>Heap.get?_push_of_some _ e,Ai a _,⟨_,Heap.get?_push_size _ rfl,rfl,rfl⟩,λb hb=>?_,q⟩
 have e:b=s1.heap.objs.size:=by simpa using hb
 subst e
 exact I1.Ur (B6 _) (I1.hok.fresh (B6 _))
def Ut(wi:TI)(g:TG)(tb:TS):TS:=λD σ H=>wi σ H λJ H1=>∃W:Nat→Nat→St→Hp→Prop,(∃m,W 0 m σ H1)∧∀i m σ H,W i m σ H →
 (J.stop i H∧D.nx σ H)∨(J.go i H∧∃N:St→Hp→Prop,(∀σ' H',N σ' H'→∃m',m'<m∧W (i+1) m' σ' H')∧∀x H',J.Ys i H x H'→g x σ H' λσ2 H2=>tb {D with nx:=N,ct:=N,bk:=D.nx} σ2 H2)
def pX(fp:List Addr)(h:Heap):List (Addr×Obj):=fp.filterMap λb=>(h.get? b).map λo=>(b,o)
theorem fZ{fp:List Addr}{h:Heap}{b:Addr}{o:Obj}(hb:b∈fp)(e:h.get? b=some o):(b,o)∈pX fp h:=R3.mpr ⟨b,hb,by rw[e];rfl⟩
theorem Fz{fp:List Addr}{h:Heap}{p:Addr×Obj}(hp:p∈pX fp h):p.1∈fp∧h.get? p.1=some p.2:=by
 obtain⟨b,hb,e⟩:=R3.mp hp
 cases q:h.get? b with
 | none=>rw[q]at e;cases e
 | some o=>
  rw[q]at e
  have e':(b,o)=p:=D9 e
  subst e'
  exact⟨hb,q⟩
theorem Inv.pinned{pins:List (Addr×Obj)}{σ:St}{H:Hp}{s:Shared}{fp:List Addr}(I:Inv X pins σ H s)(hf:∀b∈fp,vQ X pins H b)(ho:∀b∈fp,∃o,s.heap.get? b=some o∧∀v,o.data≠.cell v):Inv X (pins++pX fp s.heap) σ H s:=
 I.Dd λp hp=>(E4.mp hp).elim (λz=>I.pin p (C8 _ z)) λz=>by
  obtain⟨hb,e⟩:=Fz z
  obtain⟨f0,f1,f2,_⟩:=hf p.1 hb
  obtain⟨o,e',d⟩:=ho p.1 hb
  rw[e]at e';cases e'
  exact⟨e,f0,f1,f2,d⟩
theorem Inv.lH{pins pl:List (Addr×Obj)}{σ:St}{H:Hp}{s:Shared}(I:Inv X (pins++pl) σ H s):Inv X pins σ H s:=I.Dd λp hp=>I.pin p (C8 _ (G5 _ hp))
theorem Uu{iter:Expr}{body:List Stmt}{wi:TI}{g:TG}{tb:TS}{pos:Pos}(hp:PassesOwn (model X.prog X.w) X.A X.env X.xe)(hc:X.calm=true)(hi:PI X tg iter wi)(hg:PG X tg g)(hb:Af X body tb)
  (hs:∀x,foldedSetIterable iter X.env x=pure x:=by intro _;rfl):PS X (.For tg iter body [] pos) (Ut wi g tb):=by
 intro pins s σ H D I h
 refine wpAny_For (cG (hi pins s σ H _ I h) λv s1 h1=>cG h1 λitv s2 h2=>?_) hs
 obtain⟨it,fp,tn,J,H2,e,I2,T,st2,f2,W,⟨m0,w0⟩,turn⟩:=h2
 subst e
 have stat:∀{H':Hp},(∀b∈fp,H' b=none)→∀b∈fp,vQ X pins H' b:=λhn b hb=>⟨hn b hb,(f2 b hb).2⟩
 refine codeAny_forLoop_any (λn s'=>∃i σ' H',Inv X pins σ' H' s'∧tn i s'.heap∧(∀b∈fp,H' b=none)∧W i n σ' H') ?_ m0 ⟨0,σ,H2,I2,st2,λb hb=>(f2 b hb).1,w0⟩
 rintro n s3 ⟨i,σ3,H3,I3,st3,fr3,w3⟩
 rcases turn i n σ3 H3 w3 with ⟨stop,qn⟩ | ⟨go,N,hN,step⟩
 ·refine wpAny_passesOwn hp (cG (T.done X rfl rfl rfl hc i pins s3 σ3 H3 X.xe I3 (stat fr3) st3 stop) λr s4 ⟨hr,I4⟩=>?_)
  subst hr
  exact wpAny_execs_nil ⟨σ3,H3,I4,qn⟩
 ·refine wpAny_passesOwn hp (cG (T.item X rfl rfl rfl hc i pins s3 σ3 H3 X.xe I3 (stat fr3) st3 go) λr s4 ⟨u,hr,h4⟩=>?_)
  subst hr
  refine wpAny_passesOwn hp (cG h4 λ_ s5 ⟨x,H5,I5,r5,y5,st5,fr5⟩=>?_)
  have QK:=I5.pinned (stat fr5) (T.obj _ _ st5)
  refine wpAny_passesOwn hp (cG (hg _ s5 σ3 H5 x u _ QK r5 (step x H5 y5)) λ_ s6 ⟨σ6,H6,I6,q6⟩=>?_)
  refine wpAny_passesOwn hp (cG (hb _ s6 σ6 H6 _ I6 q6) λf s7 q7=>?_)
  have again:∀{σ7:St} {H7:Hp},Inv X (pins++pX fp s5.heap) σ7 H7 s7→N σ7 H7→∃m,m<n∧∃i σ' H',Inv X pins σ' H' s7∧tn i s7.heap∧(∀b∈fp,H' b=none)∧W i m σ' H':=λ{σ7 H7} I7 n7=>by
   obtain⟨m',hm,w7⟩:=hN σ7 H7 n7
   refine⟨m',hm,i+1,σ7,H7,I7.lH,T.keep _ _ _ st5 λb hb o e=>(I7.pin (b,o) (C8 _ (C8 _ (fZ hb e)))).1,λb hb=>?_,w7⟩
   obtain⟨o,e,d⟩:=T.obj _ _ st5 b hb
   exact(I7.pin (b,o) (C8 _ (C8 _ (fZ hb e)))).2.1
  cases f with
  | next=>obtain⟨σ7,H7,I7,n7⟩:=q7;exact again I7 n7
  | cont=>obtain⟨σ7,H7,I7,n7⟩:=q7;exact again I7 n7
  | brk=>obtain⟨σ7,H7,I7,q7⟩:=q7;exact⟨σ7,H7,I7.lH,q7⟩
  | ret v=>obtain⟨x7,σ7,H7,I7,r7,q7⟩:=q7;exact⟨x7,σ7,H7,I7.lH,r7,q7⟩
end
end L2
namespace L2
open PySem PySem.Spec PyProof.Rows
abbrev R2:=V→V→Hp→VK→Prop
def jQ(X:Cx)(f:Value→Value→Sem Value)(r:R2):Prop:=
 ∀(pins:List (Addr×Obj))(s:Shared)(σ:St)(H:Hp)(x y:V)(v u:Value)(Q:VK),Inv X pins σ H s→RelV x v→RelV y u→r x y H Q →
  wpAny (model X.prog X.w) X.A (f v u) (EP X pins σ Q) X.xe s
def dY(X:Cx)(f:Value)(r:List V→Hp→VK→Prop):Prop:=
 ∀(pins:List (Addr×Obj))(s:Shared)(σ:St)(H:Hp)(xs:List V)(us:List Value)(Q:VK),Inv X pins σ H s→Vals xs us→r xs H Q →
  wpAny (model X.prog X.w) X.A (call f us) (EP X pins σ Q) X.xe s
def xY(r:R2)(ta tb:TE):TE:=λσ H Q=>ta σ H λx H1=>tb σ H1 λy H2=>r x y H2 Q
def MJ(r:V→Hp→VK→Prop)(ta:TE):TE:=λσ H Q=>ta σ H λx H1=>r x H1 Q
def rI(C:Int→Int→Prop)(g:Int→Int→V):R2:=λx y H Q=>∃i j,x=.int i∧y=.int j∧C i j∧Q (g i j) H
def Nj(g:Int→Int→V):R2:=λx y H Q=>∃i j,x=.int i∧y=.int j∧Q (g i j) H
section
variable{X:Cx}{a b c:Expr}{ta tb tc:TE}{pos:Pos}
theorem Uv(ha:PE X a ta)(hb:PE X b tb){pins:List (Addr×Obj)}{s:Shared}{σ:St}{H:Hp}{R:V→V→Hp→Prop}(I:Inv X pins σ H s)
  (h:ta σ H λx H1=>tb σ H1 λy H2=>R x y H2) {Q:Value→Shared→Prop} {f:Value→Value→Sem Value}
  (hf:∀v u s2 x y H2,Inv X pins σ H2 s2→RelV x v→RelV y u→R x y H2→wpAny (model X.prog X.w) X.A (f v u) Q X.xe s2) :
  wpAny (model X.prog X.w) X.A (eval a X.env) (λv s₁=>wpAny (model X.prog X.w) X.A (eval b X.env) (λu s₂=>wpAny (model X.prog X.w) X.A (f v u) Q X.xe s₂) X.xe s₁) X.xe s:=by
 refine cG (ha pins s σ H _ I h) λv s1 ⟨x,H1,I1,r1,q1⟩=>?_
 refine cG (hb pins s1 σ H1 _ I1 q1) λu s2 ⟨y,H2,I2,r2,q2⟩=>?_
 exact hf v u s2 x y H2 I2 r1 r2 q2
theorem Yu{op:Operator}{r:R2}(ho:jQ X (binaryOp op) r)(ha:PE X a ta)(hb:PE X b tb):PE X (.BinOp a op b pos) (xY r ta tb):=by
 intro pins s σ H Q I h
 exact wpAny_BinOp (Uv ha hb I h λv u s2 x y H2 I2 rx ry q=>ho pins s2 σ H2 x y v u Q I2 rx ry q)
theorem Yv{f:Value→Value→Sem Value}{C:Int→Int→Prop}{g:Int→Int→Int}
  (rule:∀(i j:Int)(t u:Tok)(s:Shared)(Q:Value→Shared→Prop)(E:Value→Shared→Prop),C i j→Q (.int (g i j) s.toks) {s with toks:=s.toks+1}→wpAny (model X.prog X.w) X.A (f (.int i t) (.int j u)) Q E s) :
  jQ X f (rI C λi j=>.int (g i j)):=by
 intro pins s σ H x y v u Q I rx ry h
 obtain⟨i,j,rfl,rfl,hc,q⟩:=h
 obtain⟨t,rfl⟩:=rx
 obtain⟨t',rfl⟩:=ry
 exact rule i j t t' s _ _ hc ⟨.int (g i j),H,I.tok _,⟨_,rfl⟩,q⟩
theorem Yw{f:Value→Value→Sem Value}{g:Int→Int→Int}
  (rule:∀(i j:Int)(t u:Tok)(s:Shared)(Q:Value→Shared→Prop)(E:Value→Shared→Prop),Q (.int (g i j) s.toks) {s with toks:=s.toks+1}→wpAny (model X.prog X.w) X.A (f (.int i t) (.int j u)) Q E s) :
  jQ X f (Nj λi j=>.int (g i j)):=by
 intro pins s σ H x y v u Q I rx ry h
 obtain⟨i,j,rfl,rfl,q⟩:=h
 obtain⟨t,rfl⟩:=rx
 obtain⟨t',rfl⟩:=ry
 exact rule i j t t' s _ _ ⟨.int (g i j),H,I.tok _,⟨_,rfl⟩,q⟩
theorem HX{f:Value→Value→Sem Value}{g:Int→Int→Bool}
  (rule:∀(i j:Int)(t u:Tok)(s:Shared)(Q:Value→Shared→Prop)(E:Value→Shared→Prop),Q (.bool (g i j)) s→wpAny (model X.prog X.w) X.A (f (.int i t) (.int j u)) Q E s) :
  jQ X f (Nj λi j=>.bl (g i j)):=by
 intro pins s σ H x y v u Q I rx ry h
 obtain⟨i,j,rfl,rfl,q⟩:=h
 obtain⟨t,rfl⟩:=rx
 obtain⟨t',rfl⟩:=ry
 exact rule i j t t' s _ _ ⟨.bl (g i j),H,I,rfl,q⟩
def Ga(i j:Int):Prop:=0<j∧j<1073741824
def Gb(i j:Int):Prop:=0≤j∧j≤1000000∧i.natAbs<2 ^ 64
def vR(i j:Int):Prop:=(-(2 ^ 64)<i∧i<2 ^ 64)∨(-(2 ^ 64)<j∧j<2 ^ 64)
theorem vR.ok{i j:Int}(h:vR i j):IntMulOk i j:=by
 rcases h with ⟨h1,h2⟩ | ⟨h1,h2⟩
 ·exact .of_left (intBits_le_64 h1 h2)
 ·exact .of_right (intBits_le_64 h1 h2)
theorem Uw:jQ X (binaryOp .Add) (Nj λi j=>.int (i+j)):=Yw λ_ _ _ _ _ _ _ q=>add_int q
theorem Ux:jQ X (binaryOp .Sub) (Nj λi j=>.int (i-j)):=Yw λ_ _ _ _ _ _ _ q=>sub_int q
theorem Uy:jQ X (binaryOp .Mult) (rI vR λi j=>.int (i*j)):=Yv λ_ _ _ _ _ _ _ hc q=>mul_int q hc.ok
theorem Od:jQ X (binaryOp .FloorDiv) (rI Ga λi j=>.int (i/j)):=Yv λi j _ _ _ _ _ hc q=>by
 have h1:(0:Int)<j:=hc.1
 have h2:j<1073741824:=hc.2
 exact floordiv_int (by omega) (by rw[Int.fdiv_eq_ediv_of_nonneg i (by omega)];exact q) (.inl (PyProof.noPylong_small (by omega)))
theorem Uz:jQ X (binaryOp .Mod) (rI (λ_ j=>0<j) λi j=>.int (i%j)):=Yv λi j _ _ _ _ _ hc q=>by
 have h1:(0:Int)<j:=hc
 exact mod_int' (by omega) (by rw[Int.fmod_eq_emod_of_nonneg i (by omega)];exact q)
theorem Va:jQ X (binaryOp .Pow) (rI Gb λi j=>.int (i ^ j.toNat)):=Yv λ_ _ _ _ _ _ _ hc q=>pow_int_small hc.1 hc.2.1 hc.2.2 q
end
def Gd:V→V→Bool
  | .non,.non=>true | .non,.int _=>true | .int _,.non=>true | .non,.bl _=>true | .bl _,.non=>true | .non,.str _=>true | .str _,.non=>true
  | .int _,.int _=>true | .bl _,.bl _=>true | .str _,.str _=>true | .byt _,.byt _=>true
  | .int _,.str _=>true | .str _,.int _=>true | .bl _,.str _=>true | .str _,.bl _=>true
  | _,_=>false
def HY:R2:=λx y H Q=>Gd x y=true∧Q (.bl (decide (x=y))) H
def MK:R2:=λx y H Q=>Gd x y=true∧Q (.bl (!decide (x=y))) H
theorem Df{i j:Int}:decide (V.int i=V.int j)=(i==j):=by
 rw[K3]
 simp
theorem Iw{i j:Bool}:decide (V.bl i=V.bl j)=(i==j):=by
 rw[K3]
 simp
theorem Dg{i j:Str}:decide (V.str i=V.str j)=(i==j):=by
 rw[K3]
 simp
theorem Dh{i j:Array UInt8}:decide (V.byt i=V.byt j)=(i.toList==j.toList):=by
 rw[K3]
 cases i
 cases j
 simp
section
variable{X:Cx}{a b c:Expr}{ta tb tc:TE}{pos:Pos}
theorem aY{pins:List (Addr×Obj)}{σ:St}{H:Hp}{s:Shared}{Q:VK}{k k':Bool}(I:Inv X pins σ H s)(q:Q (.bl k) H)(e:k=k'):EP X pins σ Q (.bool k') s:=by
 subst e
 exact⟨.bl k,H,I,rfl,q⟩
theorem Yx:jQ X (compareOp .Eq) HY:=by
 intro pins s σ H x y v u Q I rx ry h
 obtain⟨hs,q⟩:=h
 cases x with
 | non=>
  cases rx
  cases y with
  | non=>cases ry;exact PySem.EqNone.eq_none_none (aY I q (by simp))
  | bl j=>cases ry;exact PySem.EqNone.eq_none_bool (aY I q (by simp))
  | int j=>obtain⟨t',rfl⟩:=ry;exact PySem.EqNone.eq_none_int (aY I q (by simp))
  | str j=>obtain⟨t',rfl⟩:=ry;exact PySem.EqNone.eq_none_str (aY I q (by simp))
  | _=>exact absurd (show false=true from hs) C6
 | bl i=>
  cases rx
  cases y with
  | non=>cases ry;exact PySem.EqNone.eq_bool_none (aY I q (by simp))
  | bl j=>cases ry;exact eq_bool (aY I q Iw)
  | str j=>obtain⟨t',rfl⟩:=ry;exact PySem.EqMixed.eq_bool_str (aY I q (by simp))
  | _=>exact absurd (show false=true from hs) C6
 | int i=>
  obtain⟨t,rfl⟩:=rx
  cases y with
  | non=>cases ry;exact PySem.EqNone.eq_int_none (aY I q (by simp))
  | int j=>obtain⟨t',rfl⟩:=ry;exact eq_int (aY I q Df)
  | str j=>obtain⟨t',rfl⟩:=ry;exact PySem.EqMixed.eq_int_str (aY I q (by simp))
  | _=>exact absurd (show false=true from hs) C6
 | str i=>
  obtain⟨t,rfl⟩:=rx
  cases y with
  | non=>cases ry;exact PySem.EqNone.eq_str_none (aY I q (by simp))
  | bl j=>cases ry;exact PySem.EqMixed.eq_str_bool (aY I q (by simp))
  | int j=>obtain⟨t',rfl⟩:=ry;exact PySem.EqMixed.eq_str_int (aY I q (by simp))
  | str j=>obtain⟨t',rfl⟩:=ry;exact eq_str (aY I q Dg)
  | _=>exact absurd (show false=true from hs) C6
 | byt i=>
  obtain⟨t,rfl⟩:=rx
  cases y with
  | byt j=>obtain⟨t',rfl⟩:=ry;exact PySem.W.eq_bytes (aY I q Dh)
  | _=>exact absurd (show false=true from hs) C6
 | _=>cases y<;>exact absurd (show false=true from hs) C6
theorem Yy:jQ X (compareOp .NotEq) MK:=by
 intro pins s σ H x y v u Q I rx ry h
 obtain⟨hs,q⟩:=h
 cases x with
 | non=>
  cases rx
  cases y with
  | non=>cases ry;exact PySem.EqNone.ne_none_none (aY I q (by simp))
  | bl j=>cases ry;exact PySem.EqNone.ne_none_bool (aY I q (by simp))
  | int j=>obtain⟨t',rfl⟩:=ry;exact PySem.EqNone.ne_none_int (aY I q (by simp))
  | str j=>obtain⟨t',rfl⟩:=ry;exact PySem.EqNone.ne_none_str (aY I q (by simp))
  | _=>exact absurd (show false=true from hs) C6
 | bl i=>
  cases rx
  cases y with
  | non=>cases ry;exact PySem.EqNone.ne_bool_none (aY I q (by simp))
  | bl j=>cases ry;exact ne_bool (aY I q (congrArg not Iw))
  | str j=>obtain⟨t',rfl⟩:=ry;exact PySem.EqMixed.ne_bool_str (aY I q (by simp))
  | _=>exact absurd (show false=true from hs) C6
 | int i=>
  obtain⟨t,rfl⟩:=rx
  cases y with
  | non=>cases ry;exact PySem.EqNone.ne_int_none (aY I q (by simp))
  | int j=>obtain⟨t',rfl⟩:=ry;exact ne_int (aY I q (congrArg not Df))
  | str j=>obtain⟨t',rfl⟩:=ry;exact PySem.EqMixed.ne_int_str (aY I q (by simp))
  | _=>exact absurd (show false=true from hs) C6
 | str i=>
  obtain⟨t,rfl⟩:=rx
  cases y with
  | non=>cases ry;exact PySem.EqNone.ne_str_none (aY I q (by simp))
  | bl j=>cases ry;exact PySem.EqMixed.ne_str_bool (aY I q (by simp))
  | int j=>obtain⟨t',rfl⟩:=ry;exact PySem.EqMixed.ne_str_int (aY I q (by simp))
  | str j=>obtain⟨t',rfl⟩:=ry;exact ne_str (aY I q (congrArg not Dg))
  | _=>exact absurd (show false=true from hs) C6
 | byt i=>
  obtain⟨t,rfl⟩:=rx
  cases y with
  | byt j=>obtain⟨t',rfl⟩:=ry;exact PySem.W.ne_bytes (aY I q (congrArg not Dh))
  | _=>exact absurd (show false=true from hs) C6
 | _=>cases y<;>exact absurd (show false=true from hs) C6
theorem Rt:jQ X (compareOp .Lt) (Nj λi j=>.bl (decide (i<j))):=HX λ_ _ _ _ _ _ _ q=>lt_int q
theorem jQ.or{f:Value→Value→Sem Value}{r r':R2}(h:jQ X f r)(h':jQ X f r'):jQ X f (λx y H Q=>r x y H Q∨r' x y H Q):=by
 intro pins s σ H x y v u Q I rx ry q
 rcases q with q | q
 ·exact h pins s σ H x y v u Q I rx ry q
 ·exact h' pins s σ H x y v u Q I rx ry q
theorem eQ(b:Expr){op:CmpOp}(h:op≠.In:=by decide)(h2:op≠.NotIn:=by decide):behindInMarks op b=false:=by
 have e1:(op==CmpOp.In)=false:=by cases op<;>first | rfl | exact absurd rfl h
 have e2:(op==CmpOp.NotIn)=false:=by cases op<;>first | rfl | exact absurd rfl h2
 cases b<;>simp[behindInMarks,e1,e2]
theorem Oe{op:CmpOp}{r:R2}(ho:jQ X (compareOp op) r)(ha:PE X a ta)(hb:PE X b tb)(hm:behindInMarks op b=false):PE X (.Compare a [op] [b] pos) (xY r ta tb):=by
 intro pins s σ H Q I h
 exact wpAny_Compare1 (Uv ha hb I h λv u s2 x y H2 I2 rx ry q=>ho pins s2 σ H2 x y v u Q I2 rx ry q) hm
def Iz(t:TE):TT:=λσ H Q=>t σ H λx H'=>∃k,x=.bl k∧Q k H'
theorem Og{op:CmpOp}{r:R2}(ho:jQ X (compareOp op) r)(ha:PE X a ta)(hb:PE X b tb)(hm:behindInMarks op b=false):PT X (.Compare a [op] [b] pos) (Iz (xY r ta tb)):=by
 intro pins s σ H Q I h
 refine wpAny_isTrue_Compare1 (cG (ha pins s σ H _ I h) λv s1 ⟨x,H1,I1,r1,q1⟩=>cG (hb pins s1 σ H1 _ I1 q1) λu s2 ⟨y,H2,I2,r2,q2⟩=>
  cG (ho pins s2 σ H2 x y v u _ I2 r1 r2 q2) λc s3 ⟨z,H3,I3,r3,k,e,q3⟩=>?_) hm
 subst e
 cases r3
 exact wpAny_truthy_bool ⟨H3,I3,q3⟩
theorem vU:(sizeLine:Nat)<2 ^ 63:=by rw[sizeLine_eq];decide
theorem vals1{x:V}{us:List Value}(r:Vals [x] us):∃u,us=[u]∧RelV x u:=by
 cases r with
 | cons r1 r2=>cases r2;exact⟨_,rfl,r1⟩
theorem vals2{x y:V}{us:List Value}(r:Vals [x,y] us):∃u w',us=[u,w']∧RelV x u∧RelV y w':=by
 cases r with
 | cons r1 r2=>
  cases r2 with
  | cons r3 r4=>cases r4;exact⟨_,_,rfl,r1,r3⟩
end
end L2
namespace L2
open PySem PySem.Spec PyProof.Rows
structure Vb(h:Heap)(x dx C:Addr)(mA:Str→Option Value):Prop where
 obj:h.get? x=some (P0 C dx)
 ns:h.Ns1 dx mA
 ne:dx≠x
theorem Ge{h:Heap}{dx:Addr}{mA:Str→Option Value}(n:h.Ns1 dx mA):∃od,h.get? dx=some od∧∀name,P7 name od=some (mA name):=by
 obtain⟨o,es,ep,ho,hd,hk,_,hm⟩:=n
 refine⟨o,ho,λname=>?_⟩
 have e:=hm name
 unfold nsFind findBy at e
 rw[←Array.find?_toList]at e
 unfold P7
 rw[hd]
 dsimp only
 split
 ·rename_i y q
  rw[q]at e
  exact congrArg some e
 ·rename_i q
  rw[q]at e
  have a:es.toList.any (·.refKey)=false:=by
   rw[List.any_eq_false]
   intro y hy
   obtain⟨z,t,hkey⟩:=hk y (Array.mem_toList_iff.mp hy)
   simp[DictEntry.refKey,hkey]
  have a':¬es.toList.any (·.refKey)=true:=by rw[a];exact C6
  rw[if_neg a']
  exact congrArg some e
theorem Vb.look{h:Heap}{x dx C:Addr}{mA:Str→Option Value}(I:Vb h x dx C mA):∃od,PySem.W.InstAt h x (P0 C dx) C (some od)∧∀name,P7 name od=some (mA name):=
 let ⟨od,ho,hl⟩:=Ge I.ns
 ⟨od,⟨I.obj,rfl,rfl,ho⟩,hl⟩
section
variable{prog:Program}{w:World}{A:Around}{E:Value→Shared→Prop}{s:Shared}{K:aA}{x dx C f:Addr}{mA:Str→Option Value}{name:Str}{v:Value}
end
theorem oM.some_of{v:V}{o:Option Value}(r:oM (some v) o):∃u,o=some u∧RelV v u:=by
 cases o with
 | none=>exact(show False from r).elim
 | some u=>exact⟨u,rfl,r⟩
section
variable{P:Program}{w:World}{H H':Hp}{h h':Heap}{a C dx:Addr}{fs fs':List (Str×V)}
theorem Oh(hok:jU P w H h)(e:H a=some (.ins C dx fs)):∃mA,Vb h a dx C mA∧(∀f,oM (fs.lookup f) (mA f))∧U2 mA (fs.map (·.1))∧fs.length≤1000∧H dx=some (.own a):=by
 obtain⟨d,z,ne,ob,mA,n,r,q⟩:=(show bN P w H h a (.ins C dx fs)from hok a _ e)
 exact⟨mA,⟨ob,n,ne⟩,r,q,z,d⟩
end
structure DY(K:aA)(C:Addr):Prop where
 pg:S4 K C Str.empty=true
 hd:PySem.W.hasDictIn K C=true
 po:PySem.W.plainOver K C=true
 sa:G4 K (.ref C) "__setattr__" = some (some (.builtin "object.__setattr__"))
theorem DY.get{K:aA}{C:Addr}(c:DY K C)(f:Str):S4 K C f=true:=c.pg
def Vc(K:aA)(C:Addr)(f:Str):Prop:=G4 K (.ref C) f=some none
structure VN(K:aA)(C:Addr)(f:Str)(v:V)(u:Value):Prop where
 at_:G4 K (.ref C) f=some (some u)
 rel:RelV v u
 get:N4 K u "__get__" = some none
 cp:PySem.W.copiedNames.contains f=false
structure Meth(K:aA)(C:Addr)(m:Str)(f:Addr):Prop where
 at_:G4 K (.ref C) m=some (some (.ref f))
 fn:U4 K (.ref f)=true
 kp:G0 K (.ref f)=true
section
variable{X:Cx}{pins:List (Addr×Obj)}{σ:St}{H:Hp}{s:Shared}{a C dx:Addr}{fs:List (Str×V)}{f:Str}{v:V}{A:Around}{E:Value→Shared→Prop}
end
section
variable{X:Cx}{o e value:Expr}{f:Str}{pos pos' tpos:Pos}{ta tv:TE}
end
section
variable{X:Cx}{pins:List (Addr×Obj)}{σ:St}{H:Hp}{s:Shared}{A:Around}{E:Value→Shared→Prop}{Q:Value→Shared→Prop}{c:Value}{b:Bool}
inductive oO(K:aA)(H:Hp):V→Value→Prop where
 | non:oO K H .non (.type "NoneType")
 | bl (x:Bool):oO K H (.bl x) (.type "bool")
 | int (i:Int):oO K H (.int i) (.type "int")
 | str (x:Str):oO K H (.str x) (.type "str")
 | flt (x:UInt64):oO K H (.flt x) (.type "float")
 | lst {a:Addr} {xs:List V} (e:H a=some (.lst xs)):oO K H (.ref a) (.type "list")
 | eV {a:Addr} {o:Obj} {xs:List V} (e:H a=some (.eV o (.lst xs))):oO K H (.ref a) (.type "list")
 | tup {a:Addr} {xs:List V} (e:H a=some (.tup xs)):oO K H (.ref a) (.type "tuple")
 | dK {a:Addr} {kvs:List (Key×V)} (e:H a=some (.dK kvs)):oO K H (.ref a) (.type "dict")
 | dT {a:Addr} {kvs:List (List Key×V)} (e:H a=some (.dT kvs)):oO K H (.ref a) (.type "dict")
 | ins {a C dx:Addr} {fs:List (Str×V)} (e:H a=some (.ins C dx fs)) (cl:DY K C) (ha:G4 K (.ref C) "__class__" = some (some (.builtin "object.__class__")))
   (hn:N4 K (.builtin "object.__class__") "__get__" = some (some (.builtin "getset_descriptor.__get__"))) (htk:T0 K (.builtin "object.__class__")=some true)
   (hm:T9 K C (.type "object")=some true):oO K H (.ref a) (.ref C)
theorem uH{x:V}{u t:Value}(I:Inv X pins σ H s)(rx:RelV x u)(ty:oO X.K H x t)(e:E1 X.K t c=some b)(h:∀tk,Q (.bool b) {s with toks:=tk}) :
  wpAny (model X.prog X.w) A (call (.builtin "isinstance") [u,c]) Q E s:=by
 cases ty with
 | non=>cases(show u=Value.none from rx);exact E5 PySem.W.kitx_none I.vN True.intro e (λz=>nomatch z) h
 | bl y=>cases(show u=Value.bool y from rx);exact E5 PySem.W.kitx_bool I.vN True.intro e (λz=>nomatch z) h
 | int i=>obtain⟨t,q⟩:=(show ∃t,u=Value.int i t from rx);cases q;exact E5 PySem.W.kitx_int I.vN True.intro e (λz=>nomatch z) h
 | str y=>obtain⟨t,q⟩:=(show ∃t,u=Value.str y t from rx);cases q;exact E5 PySem.W.kitx_str I.vN True.intro e (λz=>nomatch z) h
 | flt y=>obtain⟨t,q⟩:=(show ∃t,u=Value.float y t from rx);cases q;exact E5 PySem.W.kitx_float I.vN True.intro e (λz=>nomatch z) h
 | @lst a xs ea=>
  cases(show u=Value.ref a from rx)
  obtain⟨_,_,n,_,h1⟩:=(show bN X.prog X.w H s.heap a (.lst xs)from I.hok a _ ea)
  exact E5 N5 I.vN ⟨_,h1,rfl⟩ e (λz=>nomatch z) h
 | @eV a ob xs ea=>
  cases(show u=Value.ref a from rx)
  obtain⟨_,_,_,n,_,h1⟩:=(show bN X.prog X.w H s.heap a (.eV ob (.lst xs))from I.hok a _ ea)
  exact E5 N5 I.vN ⟨_,h1,rfl⟩ e (λz=>nomatch z) h
 | @tup a xs ea=>
  cases(show u=Value.ref a from rx)
  obtain⟨_,_,_,p⟩:=(show bN X.prog X.w H s.heap a (.tup xs)from I.hok a _ ea)
  obtain⟨o,h1,h2,_⟩:=p
  exact E5 R4 I.vN ⟨o,h1,h2⟩ e (λz=>nomatch z) h
 | @dK a kvs ea=>
  cases(show u=Value.ref a from rx)
  obtain⟨_,_,vs,_,p⟩:=(show bN X.prog X.w H s.heap a (.dK kvs)from I.hok a _ ea)
  obtain⟨o,es,ep,h1,h2,_⟩:=p
  exact E5 S0 I.vN ⟨o,h1,h2.1⟩ e (λz=>nomatch z) h
 | @dT a kvs ea=>
  cases(show u=Value.ref a from rx)
  obtain⟨_,_,xs,_,o,es,ep,h1,h2,_⟩:=(show bN X.prog X.w H s.heap a (.dT kvs)from I.hok a _ ea)
  exact E5 S0 I.vN ⟨o,h1,h2.1⟩ e (λz=>nomatch z) h
 | @ins a C dx fs ea cl ha hn htk hm=>
  cases(show u=Value.ref a from rx)
  obtain⟨mA,O,_⟩:=Oh I.hok ea
  obtain⟨od,J,_⟩:=O.look
  exact E5 (PySem.W.kitx_own (cl.get _) cl.hd ha hn htk hm) I.vN J e (λz=>nomatch z) h
end
end L2
namespace L2
open PySem PySem.Spec PyProof.Rows
structure dH(k:Nat)(A:Around):Prop where
 hd:A.handled=none
 dp:A.depth+3*k+5<recursionLimit
 un:A.units+16*k+200<cLine
theorem dH.mono{j k:Nat}{A:Around}(r:dH k A)(h:j≤k):dH j A:=⟨r.hd,by have:=r.dp;omega,by have:=r.un;omega⟩
theorem dH.deeper{k:Nat}{A:Around}(r:dH (k+1) A)(env:Env):dH k (A.deeper env):=
 ⟨r.hd,by have:=r.dp;show A.depth+1+3*k+5<_;omega,by have:=r.un;show A.units+3+16*k+200<_;omega⟩
theorem dH.depth{k:Nat}{A:Around}(r:dH k A):A.depth<recursionLimit:=by have:=r.dp;omega
theorem dH.units{k:Nat}{A:Around}(r:dH k A):A.units+64<cLine:=by have:=r.un;omega
def oR:TA:=λ_ H Q=>Q [] H
def eX(ta:TE)(tr:TA):TA:=λσ H Q=>ta σ H λx H1=>tr σ H1 λxs H2=>Q (x::xs) H2
section
variable{X:Cx}{e:Expr}{es:List Expr}{te:TE}{t:TA}{pos:Pos}
theorem mJ:PA X [] oR:=λ_ _ _ _ H Q I h=>Calls.spliced_nil ⟨[],H,I,.nil,h⟩
theorem gA(ha:PE X e te)(hr:PA X es t)(hs:starEach (e::es) X.env=(false,eval e X.env)::starEach es X.env:=by rfl):PA X (e::es) (eX te t):=by
 intro pos pins s σ H Q I h
 rw[hs]
 show wpAny _ _ (spliced ((false,eval e X.env)::backTo pos (starEach es X.env))) _ _ s
 refine Calls.spliced_cons (cG (ha pins s σ H _ I h) λu s1 ⟨x,H1,I1,r1,q1⟩=>?_)
 exact cG (hr pos pins s1 σ H1 _ I1 q1) λus s2 ⟨xs,H2,I2,r2,q2⟩=>⟨x::xs,H2,I2,.cons r1 r2,q2⟩
def Vd(t:TA):TE:=λσ H Q=>t σ H λxs H1=>xs.length≤sizeLine∧∀p,H1 p=none→Q (.ref p) (upd H1 p (.tup xs))
def Ja(t:TA):TE:=λσ H Q=>t σ H λxs H1=>xs.length≤sizeLine∧∀p,H1 p=none→Q (.ref p) (upd H1 p (.lst xs))
theorem Ve{x1}(h:PA X es t):PE X (.Tuple es x1 pos) (Vd t):=by
 intro pins s σ H Q I hq
 refine wpAny_Tuple_spliced (cG (h pos pins s σ H _ I hq) λus s1 ⟨xs,H1,I1,r,z,q⟩=>⟨by rw[←r.length];exact z,?_⟩)
 have hf:H1 s1.heap.objs.size=none:=I1.hok.fresh (B6 _)
 refine⟨.ref s1.heap.objs.size,upd H1 s1.heap.objs.size (.tup xs),I1.laid (t':=s1.toks) (λb u e=>Heap.get?_push_of_some _ e) (B6 _) ?_,rfl,q _ hf⟩
 exact⟨z,us,r,⟨_,Heap.get?_push_size _ rfl,rfl,_,rfl⟩⟩
theorem Jb(h:PA X es t):PE X (.List es pos) (Ja t):=by
 intro pins s σ H Q I hq
 refine wpAny_List_spliced (cG (h pos pins s σ H _ I hq) λus s1 ⟨xs,H1,I1,r,z,q⟩=>⟨by rw[←r.length];exact z,?_⟩)
 have hf:H1 s1.heap.objs.size=none:=I1.hok.fresh (B6 _)
 refine⟨.ref s1.heap.objs.size,upd H1 s1.heap.objs.size (.lst xs),I1.laid (t':=s1.toks) (λb u e=>Heap.get?_push_of_some _ e) (B6 _) ?_,rfl,q _ hf⟩
 exact⟨z,us,0,r,Heap.get?_push_size _ rfl⟩
end
abbrev Sp:=List V→Hp→VK→XK→Prop
abbrev Gf:=List Env→Hp→Shared→XK→Value→Shared→Prop
structure Oi(P:Program)(w:World)(K:aA)(mg:Str→Option Value)(base:Heap)(A:Around)(outer:List Env)(s:Shared)(H:Hp):Prop where
 frames:A.frames=some outer
 mod:Mod K mg base
 bs:∀b o,base.get? b=some o→s.heap.get? b=some o∧H b=none
 Rn:base.objs.size≤s.heap.objs.size
 pW:s.heap.FunFrames base outer
 Yd:∀b∈frs outer,H b=none
 hok:jU P w H s.heap
 bare:AllBare s.gens
def CE(outer:List Env)(P:Program)(w:World)(H:Hp)(s:Shared)(Q:VK)(u:Value)(s':Shared):Prop:=
 ∃v H',s'.os=s.os∧AllBare s'.gens∧Un (frs outer) [] H H' s.heap s'.heap∧jU P w H' s'.heap∧RelV v u∧Q v H'
def CR(CX:Gf)(outer:List Env)(P:Program)(w:World)(H:Hp)(s:Shared)(Q:VK)(E:XK)(r:Result)(s':Shared):Prop:=
 match r with
 | .ok (.ret u)=>CE outer P w H s Q u s'
 | .ok _=>False
 | .error e=>CX outer H s E e s'
structure mK(P:Program)(w:World)(K:aA)(mg:Str→Option Value)(base:Heap)(CX:Gf)(k:Nat)(f:Addr)(fd:FuncData)(ps:List Str)(sp:Sp):Prop where
 len:∀vs H Q E,sp vs H Q E→vs.length=ps.length
 run:∀(A:Around)(outer:List Env)(s:Shared)(H:Hp)(args:Args)(us:List Value)(vs:List V)(Q:VK)(E:XK),dH k A→Oi P w K mg base A outer s H→BindsTo s fd args (ps.zip us)→Vals vs us→sp vs H Q E →
  codeAny (model P w) A (.call (.ref f) args) (CR CX outer P w H s Q E) s
section
variable{X:Cx}{pins:List (Addr×Obj)}{σ:St}{H:Hp}{s s':Shared}
theorem Inv.env0(I:Inv X pins σ H s):Oi X.prog X.w X.K X.mg X.base X.A X.stack s H:=
 ⟨I.ok.frames,I.ok.mod,I.bs,E7 I.ok.Rn I.sz,I.stack,I.Dc,I.hok,I.bare⟩
theorem Inv.after{Q:VK}{u:Value}(I:Inv X pins σ H s)(h:CE X.stack X.prog X.w H s Q u s'):EP X pins σ Q u s':=by
 obtain⟨v,H',os,bare,un,hok,r,q⟩:=h
 obtain⟨hh,g,d,t,os'⟩:=s'
 obtain rfl:os'=s.os:=os
 exact⟨v,H',I.call (h':=hh) (g':=g) (d':=d) (t':=t) (ch:=[]) un hok bare (λb z=>absurd z (by simp)),r,q⟩
end
def xZ(sp:Sp)(Ru:List V)(E:XK)(t:TA):TE:=λσ H Q=>t σ H λvs H1=>sp (vs++Ru) H1 Q E
def Binds(K:aA)(fd:FuncData)(ps:List Str)(ds:List Value):Prop:=
 ∀(s:Shared)(us:List Value),K.In s.heap→(us++ds).length=ps.length→BindsTo s fd ⟨us,[]⟩ (ps.zip (us++ds))
theorem Binds.all{K:aA}{fd:FuncData}{ps:List Str}(h:∀us:List Value,us.length=ps.length→bindArgs fd ⟨us,[]⟩=pure (ps.zip us)):Binds K fd ps []:=λs us _ hl=>by
 rw[L8]at hl ⊢
 exact .of_eq (h us hl)
def Passes(CX:Gf)(X:Cx)(E:XK):Prop:=∀(pins:List (Addr×Obj))(σ:St)(H:Hp)(s:Shared)(e:Value)(s':Shared),Inv X pins σ H s→CX X.stack H s E e s'→X.xe e s'
section
variable{X:Cx}{CX:Gf}{k:Nat}{f C:Addr}{fd:FuncData}{ps:List Str}{sp:Sp}{Ru:List V}{ds:List Value}{E:XK}{x m:Str}{p pos apos:Pos}{e o:Expr}{es:List Expr}{ta:TE}{t:TA}
theorem Vf{pins:List (Addr×Obj)}{σ:St}{H:Hp}{s:Shared}{Q:VK}{us:List Value}{vs:List V}(F:mK X.prog X.w X.K X.mg X.base CX k f fd ps sp)(hr:dH k X.A)(hb:Binds X.K fd ps ds)(hd:Vals Ru ds)(hx:Passes CX X E)
  (I:Inv X pins σ H s) (r:Vals vs us) (h:sp (vs++Ru) H Q E):wpAny (model X.prog X.w) X.A (call (.ref f) us) (EP X pins σ Q) X.xe s:=by
 have r2:Vals (vs++Ru) (us++ds):=r.append hd
 have hl:(us++ds).length=ps.length:=by rw[←r2.length];exact F.len _ _ _ _ h
 refine wpAny_call (codeAny_mono (F.run X.A X.stack s H ⟨us,[]⟩ (us++ds) (vs++Ru) Q E hr I.env0 (hb s us I.vN hl) r2 h) λr s' hq=>?_)
 cases r with
 | error e=>exact hx pins σ H s e s' I hq
 | ok fl=>
  cases fl with
  | ret u=>exact I.after hq
  | next=>exact False.elim hq
  | brk=>exact False.elim hq
  | cont=>exact False.elim hq
theorem Oj(F:mK X.prog X.w X.K X.mg X.base CX k f fd ps sp)(hr:dH k X.A)(hg:Gl X x)(hm:X.mg x=some (.ref f))(hk:G0 X.K (.ref f)=true)(hb:Binds X.K fd ps ds)(hd:Vals Ru ds)(hx:Passes CX X E)
  (ha:PA X (e::es) t) (hdb:(x==("__debug__" : Str))=false:=by decide) (he:starEach (e::es) X.env=(false,eval e X.env)::starEach es X.env:=by rfl) (hpl:(backTo pos (starEach es X.env)).any (·.1)=false:=by rfl) :
  PE X (.Call (.Name x p) (e::es) [] pos) (xZ sp Ru E t):=by
 intro pins s σ H Q I h
 refine wpAny_Call_Name_kw (De I hg hm ?_ hdb)
 refine PySem.W.callWith_K (h₀:=X.base) I.ok.mod.HF hk (cG (ha pos pins s σ H _ I h) λus s1 ⟨vs,H1,I1,r,q⟩=>⟨I1.vN,?_⟩) he hpl
 exact Vf F hr hb hd hx I1 r q
structure Mk(K:aA)(C f:Addr):Prop where
 makes:PySem.W.makesIn K C=true
 init:G4 K (.ref C) "__init__" = some (some (.ref f))
 fn:U4 K (.ref f)=true
 kp:G0 K (.ref C)=true
end
section
variable{X:Cx}{CX:Gf}{k:Nat}{f C:Addr}{fd:FuncData}{ps ks:List Str}{sp:Sp}{E:XK}{x m:Str}{p pos apos kpos:Pos}{e o:Expr}{es:List Expr}{kws:List Keyword}{te ta:TE}{t tk:TA}{nm:Option Str}
structure IK(K:aA)(fd:FuncData)(ps ks:List Str)(g:List Value→List Value→List Value)(gV:List V→List V→List V):Prop where
 to:∀(s:Shared)(us ws:List Value),K.In s.heap→(g us ws).length=ps.length→BindsTo s fd ⟨us,ks.zip ws⟩ (ps.zip (g us ws))
 rel:∀{vs:List V} {us:List Value} {zs:List V} {ws:List Value},Vals vs us→Vals zs ws→Vals (gV vs zs) (g us ws)
variable{g:List Value→List Value→List Value}{gV:List V→List V→List V}
end
structure bJ(N P:List Str)(sc:Scope):Prop where
 kind:sc.kind=.function
 co:sc.isCoroutine=false
 gen:sc.isGenerator=false
 nd:N.Nodup
 pre:N.take P.length=P
 par:∀x∈P,sc.names.lookup x=some .local∨sc.names.lookup x=some .cell
 Vg:∀y∈sc.names,y.2≠.free
theorem uI{kindOf:Str→Option NameKind}{x:Str}:∀{binds:List (Str×Value)} {m:Str→Option Value},(∀v,(x,v)∉binds)→bindL kindOf binds m x=m x
 | [],_,_=>rfl
 | (n,v)::r,m,h=>by
  unfold bindL
  rw[uI λw hw=>h w (C5 _ hw)]
  split
  ·have:x≠n:=by rintro rfl;exact h v C9
   simp[this]
  ·rfl
theorem uJ{kindOf:Str→Option NameKind}{x:Str}:∀{binds:List (Str×Value)} {m:Str→Option Value},(∀v,(x,v)∉binds)→bindC kindOf binds m x=m x
 | [],_,_=>rfl
 | (n,v)::r,m,h=>by
  unfold bindC
  rw[uJ λw hw=>h w (C5 _ hw)]
  split
  ·rfl
  ·have:x≠n:=by rintro rfl;exact h v C9
   simp[this]
theorem uK{kindOf:Str→Option NameKind}{x:Str}{v:Value}:∀{P:List Str} {vs:List Value} {i:Nat} {m:Str→Option Value},P.Nodup→P[i]?=some x→vs[i]?=some v→kindOf x=some .local →
  bindL kindOf (P.zip vs) m x=some v
 | [],_,_,_,_,h,_,_=>by simp at h
 | _::_,[],_,_,_,_,h,_=>by simp at h
 | p::P,w::vs,0,m,nd,h1,h2,hk=>by
  simp at h1 h2;subst h1;subst h2
  show bindL kindOf ((p,w)::P.zip vs) m p=_
  unfold bindL
  rw[uI λv hv=>(G1.mp nd).1 (P1 hv).1,if_pos hk]
  simp
 | p::P,w::vs,i+1,m,nd,h1,h2,hk=>by
  show bindL kindOf ((p,w)::P.zip vs) m x=_
  unfold bindL
  exact uK (i:=i) (G1.mp nd).2 (by simpa using h1) (by simpa using h2) hk
theorem uL{kindOf:Str→Option NameKind}{x:Str}{v:Value}:∀{P:List Str} {vs:List Value} {i:Nat} {m:Str→Option Value},P.Nodup→P[i]?=some x→vs[i]?=some v→kindOf x≠some .local →
  bindC kindOf (P.zip vs) m x=some v
 | [],_,_,_,_,h,_,_=>by simp at h
 | _::_,[],_,_,_,_,h,_=>by simp at h
 | p::P,w::vs,0,m,nd,h1,h2,hk=>by
  simp at h1 h2;subst h1;subst h2
  show bindC kindOf ((p,w)::P.zip vs) m p=_
  unfold bindC
  rw[uJ λv hv=>(G1.mp nd).1 (P1 hv).1,if_neg hk]
  simp
 | p::P,w::vs,i+1,m,nd,h1,h2,hk=>by
  show bindC kindOf ((p,w)::P.zip vs) m x=_
  unfold bindC
  exact uL (i:=i) (G1.mp nd).2 (by simpa using h1) (by simpa using h2) hk
def start(N:List Str)(vs:List V):St:=vs.map some++E2 (N.length-vs.length) none
def vV(CX:Gf)(P:Program)(w:World)(K:aA)(mg:Str→Option Value)(base:Heap)(N:List Str)(qual:Str)(scope:Scope)(f:Addr)(cd:Value)(A:Around)(outer:List Env)(s:Shared)(H:Hp)(E:XK):Cx where
 prog:=P
 w:=w
 K:=K
 mg:=mg
 base:=base
 A:=A.deeper (envOfC qual scope s.heap.objs.size f cd)
 N:=N
 s₀:=s
 H₀:=H
 env:=envOfC qual scope s.heap.objs.size f cd
 outer:=outer
 stack:=envOfC qual scope s.heap.objs.size f cd::outer
 ex:=[]
 calm:=true
 fn:=λ_=>true
 pn:=[]
 xe:=λe s'=>wpAny (model P w) (A.deeper (envOfC qual scope s.heap.objs.size f cd)) (leaving (envOfC qual scope s.heap.objs.size f cd) e) (λ_ s''=>CX outer H s E e s'') (λe' s''=>CX outer H s E e' s'') s'
theorem yC{sc:Scope}{n:Nat}{x:Str}(h:sc.names.lookup x=some .cell):∃c,(cellsFrom n sc.names []).lookup x=some c:=by
 have q:=P5 sc.names n [] (.inl h)
 exact O1.mp q
theorem Gg{CX:Gf}{P:Program}{w:World}{K:aA}{mg:Str→Option Value}{base:Heap}{N ps:List Str}{qual:Str}{scope:Scope}{f:Addr}{cd:Value}{A:Around}{outer:List Env}{s s1:Shared}{H:Hp}{E:XK}{us:List Value}{vs:List V}
  (S:bJ N ps scope) (hd:A.handled=none) (e0:Oi P w K mg base A outer s H) (hl:vs.length=ps.length) (r:Vals vs us)
  (x:InCallC s s.heap.objs.size (bindL (envOfC qual scope s.heap.objs.size f cd).kindOf (ps.zip us) λ_=>none) (cellsFrom (s.heap.objs.size+1) scope.names []) (bindC (envOfC qual scope s.heap.objs.size f cd).kindOf (ps.zip us) λ_=>none) s1) :
  Inv (vV CX P w K mg base N qual scope f cd A outer s H E) [] (start N vs) H s1:=by
 have hpl:ps.length≤N.length:=by have:=congrArg List.length S.pre;rw[J9]at this;omega
 obtain⟨h1,tk,rfl,hk⟩:=x.done
 have Yz:∀b:Addr,b∉(vV CX P w K mg base N qual scope f cd A outer s H E).ex:=λb z=>absurd (show b∈([]:List Addr)from z) (by simp)
 refine⟨⟨e0.mod,S.kind,rfl,rfl,B6 _,λy z c h1 h2=>?_,λy hy=>?_,λy c _ h=>?_,λ_=>hd,Around.frames_deeper e0.frames,.inr ⟨rfl,rfl⟩,λb z=>absurd z (Yz b),e0.bs,e0.Rn,λb _ _=>Yz b,λb z=>absurd z (Yz b),e0.pW,e0.Yd⟩,
  rfl,e0.bare,Un.kept hk,⟨_,x.toInCall.ns,λi y v h1 h2 h3=>?_⟩,λy c h=>⟨_,x.cell y c h⟩,e0.hok.fresh (B6 _),λy c h=>?_,λp hp=>absurd (show p∈([]:List (Addr×Obj))from hp) (by simp),e0.hok.kept hk,?_⟩
 ·exact name_of_addr x.apart (G2 h1) (G2 h2)
 ·have hy:scope.names.lookup y=some .cell∨scope.names.lookup y=some .free:=hy
  rcases hy with hy | hy
  ·exact yC hy
  ·exact absurd rfl (S.Vg _ (G2 hy))
 ·exact J4 (x.above y c (G2 h))
 ·have hi:i<vs.length:=by
   unfold start at h2
   by_cases hi:i<vs.length
   ·exact hi
   ·rw[N2 (by simpa using hi)]at h2
    rw[O6]at h2
    split at h2<;>cases h2
  have ha:vs[i]?=some v:=by
   unfold start at h2
   rw[N9 (by simpa using hi),C4]at h2
   cases e:vs[i]? with
   | none=>rw[e]at h2;cases h2
   | some a=>rw[e]at h2;cases h2;rfl
  obtain⟨u,hu,rv⟩:=r.get ha
  have hp:ps[i]?=some y:=by
   rw[←S.pre,List.getElem?_take_of_lt (by omega)];exact h1
  have MN:ps.Nodup:=by rw[←S.pre];exact S.nd.sublist (S1 _ _)
  refine⟨u,rv,?_⟩
  rcases S.par y (E8 hp)with k | k
  ·exact .inl ⟨k,uK MN hp hu k⟩
  ·obtain⟨c,e⟩:=yC (n:=s.heap.objs.size+1) k
   refine .inr ⟨.inl k,c,e,?_⟩
   have q:=x.cell y c e
   rw[uL MN hp hu (by show scope.names.lookup y≠_;rw[k];decide)]at q
   exact q
 ·exact e0.hok.fresh (J4 (x.above y c (G2 h)))
 ·unfold start
  show _=N.length
  rw[D7,B4,P8]
  omega
theorem Za{CX:Gf}{P:Program}{w:World}{K:aA}{mg:Str→Option Value}{base:Heap}{k:Nat}{f:Addr}{name qual:Str}{params:Arguments}{body:List Stmt}{scope:Scope}{dV kV doc pm cdv ct oc:Value}{an od:Option Addr}
  {osl:Array (Option Value)} {N ps:List Str} {sp:Sp} (lk:K.lookup f=some ⟨oc,od,.func (E9 name qual params body scope dV kV doc pm an cdv ct),osl⟩) (hcd:J7 K cdv qual=true) (S:bJ N ps scope)
  (len:∀vs H Q E,sp vs H Q E→vs.length=ps.length)
  (hbody:∀(A:Around)(outer:List Env)(s:Shared)(H:Hp)(vs:List V)(Q:VK)(E:XK),dH k (A.deeper (envOfC qual scope s.heap.objs.size f cdv))→sp vs H Q E →
   ∃t,Af (vV CX P w K mg base N qual scope f cdv A outer s H E) body t∧t {nx:=λ_ H'=>Q .non H',rt:=Q} (start N vs) H) :
  mK P w K mg base CX (k+1) f (E9 name qual params body scope dV kV doc pm an cdv ct) ps sp:=by
 refine⟨len,λA outer s H args us vs Q E hr e0 hb r hsp=>?_⟩
 have hl:=len _ _ _ _ hsp
 have KX:K.In s.heap:=e0.mod.HF.keeps λb o e=>(e0.bs b o e).1
 have lim:s.heap.NoLimit:=e0.mod.nolimit.keeps λb o e=>(e0.bs b o e).1
 have hkind:∀y∈ps.zip us,scope.names.lookup y.1=some .local∨(scope.names.lookup y.1=some .cell∧((cellsFrom (s.heap.objs.size+1) scope.names []).lookup y.1).isSome=true):=λ⟨n,v⟩ hy=>by
  rcases S.par n (P1 hy).1 with q | q
  ·exact .inl q
  ·exact .inr ⟨q,P5 _ _ _ (.inl q)⟩
 refine codeAny_call_function hr.depth (KX _ _ lk) rfl S.co S.gen rfl (PySem.W.codeRec_of KX hcd) (hb _ _ _ _ ?_)
 refine wpAny_newFunctionEnv_cells S.kind hkind λenv he s1 x=>?_
 subst he
 refine⟨lim.keeps x.toInCall.keep,codeAny_func ?_⟩
 obtain⟨t,ht,hq⟩:=hbody A outer s H vs Q E (hr.deeper _) hsp
 have I:Inv (vV CX P w K mg base N qual scope f cdv A outer s H E) [] (start N vs) H s1:=Gg S hr.hd e0 hl r x
 refine wpAny_mono (ht [] s1 (start N vs) H _ I hq) (λfl s' hs=>?_) λe s' hs=>hs
 have fin:∀{σ':St} {H':Hp} {v:V} {u:Value},Inv (vV CX P w K mg base N qual scope f cdv A outer s H E) [] σ' H' s'→RelV v u→Q v H'→CE outer P w H s Q u s':=
  λ{σ' H' v u} J rv q=>⟨v,H',J.os,J.bare,J.base,J.hok,rv,q⟩
 cases fl with
 | ret u=>
  obtain⟨v,σ',H',J,rv,q⟩:=hs
  exact fin J rv q
 | next=>
  obtain⟨σ',H',J,q⟩:=hs
  exact fin (v:=V.non) (u:=Value.none) J rfl q
 | brk=>
  obtain⟨_,_,_,q⟩:=hs
  exact False.elim q
 | cont=>
  obtain⟨_,_,_,q⟩:=hs
  exact False.elim q
end L2
namespace L2
open PySem PySem.Spec PyProof.Rows
section
variable{X:Cx}{x:Str}{p pos:Pos}{e:Expr}{es:List Expr}{t:TA}{id T:String}{r:List V→Hp→VK→Prop}
def Ol(r:List V→Hp→VK→Prop)(t:TA):TE:=λσ H Q=>t σ H λvs H1=>r vs H1 Q
theorem pY(hc:dY X (.builtin id) r)(hg:Gl X x)(hm:X.mg x=none)(hv:bootBuiltins x=some (.builtin id))(ha:PA X (e::es) t)(hn:x ≠ "__name__" := by decide) (hdb:(x==("__debug__" : Str))=false:=by decide)
  (he:starEach (e::es) X.env=(false,eval e X.env)::starEach es X.env:=by rfl) (hpl:(backTo pos (starEach es X.env)).any (·.1)=false:=by rfl):PE X (.Call (.Name x p) (e::es) [] pos) (Ol r t):=by
 intro pins s σ H Q I h
 refine wpAny_Call_Name_kw (vP I hg hm hv ?_ hn hdb)
 exact L9 (cG (ha pos pins s σ H _ I h) λus s1 ⟨vs,H1,I1,r1,q1⟩=>hc pins s1 σ H1 vs us Q I1 r1 q1) he hpl
theorem Gh(hc:dY X (.type T) r)(hg:Gl X x)(hm:X.mg x=none)(hv:bootBuiltins x=some (.type T))(ha:PA X (e::es) t)(hn:x ≠ "__name__" := by decide) (hdb:(x==("__debug__" : Str))=false:=by decide)
  (he:starEach (e::es) X.env=(false,eval e X.env)::starEach es X.env:=by rfl) (hpl:(backTo pos (starEach es X.env)).any (·.1)=false:=by rfl):PE X (.Call (.Name x p) (e::es) [] pos) (Ol r t):=by
 intro pins s σ H Q I h
 refine wpAny_Call_Name_kw (vP I hg hm hv ?_ hn hdb)
 exact PyProof.Rows.callWith_type1 (cG (ha pos pins s σ H _ I h) λus s1 ⟨vs,H1,I1,r1,q1⟩=>hc pins s1 σ H1 vs us Q I1 r1 q1) he hpl
end
end L2
namespace HT
open PySem PyProof.Rows
section
open PySem.SeqAt
open PySem.AutoSeq1 (wpAny_loadPart')
open PySem.MeetsSeq PySem.MeetsSeq2 PySem.MeetsSeq3
end
section
variable{prog:Program}{w:World}{A:Around}{E:Value→Shared→Prop}{s:Shared}
def oU(n d:Nat):Option Int→Nat
 | none=>d
 | some v=>if v<0 then(v+(n:Int)).toNat else min v.toNat n
theorem Om(n d k:Nat):oU n d (some (k:Int))=min k n:=by
 show (if(k:Int)<0 then((k:Int)+(n:Int)).toNat else min (k:Int).toNat n)=min k n
 rw[if_neg (by omega),S2]
end
end HT
namespace L2
open PySem PySem.Spec PyProof.Rows
abbrev TO:=St→Hp→(Option Int→Hp→Prop)→Prop
def PO(X:Cx)(e:Option Expr)(t:TO):Prop:=
 ∀(pins:List (Addr×Obj))(s:Shared)(σ:St)(H:Hp)(Q:Option Int→Hp→Prop),Inv X pins σ H s→t σ H Q →
  wpAny (model X.prog X.w) X.A (evalPart e X.env) (λu s'=>∃o H',Inv X pins σ H' s'∧IsPart u o∧Q o H') X.xe s
def Di:TO:=λ_ H Q=>Q none H
def Rw(t:TE):TO:=λσ H Q=>t σ H λx H1=>∃i,x=.int i∧Q (some i) H1
section
variable{X:Cx}{e:Expr}{te:TE}{lo hi:Option Expr}{tl th:TO}{pos p2:Pos}
theorem Oo:PO X none Di:=by
 intro pins s σ H Q I h
 rw[evalPart_none]
 exact wpAny_pure ⟨none,H,I,.none,h⟩
theorem Oq(h:PE X e te):PO X (some e) (Rw te):=by
 intro pins s σ H Q I hw
 rw[evalPart_some]
 refine cG (h pins s σ H _ I hw) λu s1 ⟨x,H1,I1,r1,q1⟩=>?_
 obtain⟨i,rfl,q⟩:=q1
 obtain⟨t,rfl⟩:=r1
 exact⟨some i,H1,I1,.int i t,q⟩
def IV(X:Cx)(r:V→Option Int→Option Int→Hp→VK→Prop):Prop:=
 ∀(pins:List (Addr×Obj))(s:Shared)(σ:St)(H:Hp)(x:V)(v vl vu:Value)(lo hi:Option Int)(sl:Addr)(Q:VK),Inv X pins σ H s→RelV x v→s.heap.IsSliceOf sl vl vu .none→IsPart vl lo→IsPart vu hi→r x lo hi H Q →
  ∃T id,typeLookup (.type T) "__getitem__" = pure (some (.builtin id))∧s.TypeIs v T∧wpAny (model X.prog X.w) X.A (getItem v (.ref sl)) (EP X pins σ Q) X.xe s
def IW(r:V→Option Int→Option Int→Hp→VK→Prop)(te:TE)(tl th:TO):TE:=λσ H Q=>te σ H λx H1=>tl σ H1 λl H2=>th σ H2 λu H3=>r x l u H3 Q
theorem yD{r:V→Option Int→Option Int→Hp→VK→Prop}(hr:IV X r)(he:PE X e te)(hl:PO X lo tl)(hu:PO X hi th):PE X (.Subscript e (.Slice lo hi none p2) pos) (IW r te tl th):=by
 intro pins s σ H Q I h
 refine Subscript_ (cG (he pins s σ H _ I h) λv s1 ⟨x,H1,I1,r1,q1⟩=>?_)
 refine wpAny_Slice (cG (hl pins s1 σ H1 _ I1 q1) λvl s2 ⟨l,H2,I2,pl,q2⟩=>cG (hu pins s2 σ H2 _ I2 q2) λvu s3 ⟨u,H3,I3,pu,q3⟩=>?_)
 rw[evalPart_none]
 refine wpAny_pure ?_
 have I4:Inv X pins σ H3 {s3 with heap:=s3.heap.push {cls:=.type "slice", data:=.fields #[vl,vu,.none]}}:=I3.kept (t':=s3.toks) λb ob q=>Heap.get?_push_of_some _ q
 obtain⟨T,id,hT,ht,hg⟩:=hr pins {s3 with heap:=s3.heap.push {cls:=.type "slice", data:=.fields #[vl,vu,.none]}} σ H3 x v vl vu l u s3.heap.objs.size Q I4 r1 (Heap.IsSliceOf.new ..) pl pu q3
 show wpAny (model X.prog X.w) X.A (subscriptTail e (.Slice lo hi none p2) v (.ref s3.heap.objs.size)) (EP X pins σ Q) X.xe {s3 with heap:=s3.heap.push {cls:=.type "slice", data:=.fields #[vl,vu,.none]}}
 exact tail_any (ops:=[.ref s3.heap.objs.size,v]) ht hT hg (by with_unfolding_all rfl)
def Aj(xs:List V)(lo hi:Option Int):List V:=(xs.drop (HT.oU xs.length 0 lo)).take (HT.oU xs.length xs.length hi-HT.oU xs.length 0 lo)
theorem yE(xs:List V)(lo hi:Option Int):(Aj xs lo hi).length≤xs.length:=by
 unfold Aj
 rw[J9,L4]
 omega
end
end L2
namespace L2
open PySem PySem.Spec PyProof.Rows
def Zb(n:Nat)(i:Int):Option Nat:=if 0≤i then(if i<n then some i.toNat else none)else if -(n:Int)≤i then some (i+n).toNat else none
def Jc{α:Type}(xs:List α)(i:Int):Option α:=(Zb xs.length i).bind λj=>xs[j]?
theorem Ot{n:Nat}{i:Int}{j:Nat}(h:Zb n i=some j):seqIndex? i n=some j∧j<n∧-(n:Int)≤i∧i<n:=by
 unfold Zb at h
 by_cases h0:0≤i
 ·rw[if_pos h0]at h
  by_cases h1:i<n
  ·rw[if_pos h1]at h
   have e:i.toNat=j:=D9 h
   exact⟨by rw[seqIndex_of h0 h1,e],by omega,by omega,h1⟩
  ·rw[if_neg h1]at h;cases h
 ·rw[if_neg h0]at h
  by_cases h1:-(n:Int)≤i
  ·rw[if_pos h1]at h
   have e:(i+n).toNat=j:=D9 h
   exact⟨by rw[seqIndex_neg (by omega) h1,e],by omega,h1,by omega⟩
  ·rw[if_neg h1]at h;cases h
theorem vW{α:Type}{xs:List α}{i:Int}{v:α}(h:Jc xs i=some v):∃j,seqIndex? i xs.length=some j∧xs[j]?=some v∧j<xs.length∧-(xs.length:Int)≤i∧i<xs.length:=by
 unfold Jc at h
 cases e:Zb xs.length i with
 | none=>rw[e]at h;cases h
 | some j=>
  rw[e]at h
  obtain⟨h1,h2,h3,h4⟩:=Ot e
  exact⟨j,h1,h,h2,h3,h4⟩
def Dj(b:Expr):Prop:=∀o i,subscripted b false o i=operate [o,i] (getItem o i)
def Nk(X:Cx)(r:R2):Prop:=
 ∀(value slice:Expr)(pins:List (Addr×Obj))(s:Shared)(σ:St)(H:Hp)(x y:V)(v u:Value)(Q:VK),Inv X pins σ H s→RelV x v→RelV y u→r x y H Q →
  subscripted slice false v u=operate [v,u] (getItem v u)→wpAny (model X.prog X.w) X.A (subscriptTail value slice v u) (EP X pins σ Q) X.xe s
def QL(X:Cx)(id:String)(r:V→List V→Hp→VK→Prop):Prop:=
 ∀(pins:List (Addr×Obj))(s:Shared)(σ:St)(H:Hp)(x:V)(xs:List V)(v:Value)(us:List Value)(Q:VK),Inv X pins σ H s→RelV x v→Vals xs us→r x xs H Q →
  wpAny (model X.prog X.w) X.A (call (.builtin id) (v::us)) (EP X pins σ Q) X.xe s
section
variable{X:Cx}{a b:Expr}{ta tb:TE}{pos:Pos}
theorem Nk.or{r r':R2}(h:Nk X r)(h':Nk X r'):Nk X (λx y H Q=>r x y H Q∨r' x y H Q):=by
 intro value slice pins s σ H x y v u Q I rx ry q hs
 rcases q with q | q
 ·exact h value slice pins s σ H x y v u Q I rx ry q hs
 ·exact h' value slice pins s σ H x y v u Q I rx ry q hs
theorem Zc{r:R2}(hr:Nk X r)(ha:PE X a ta)(hb:PE X b tb)(hs:Dj b):PE X (.Subscript a b pos) (xY r ta tb):=by
 intro pins s σ H Q I h
 exact Subscript_ (Uv ha hb I h λv u s2 x y H2 I2 rx ry q=>hr a b pins s2 σ H2 x y v u Q I2 rx ry q (hs _ _))
def Zd(K:aA):R2:=λx y H Q=>∃p xs i v,x=.ref p∧y=.int i∧gW K H p xs∧Jc xs i=some v∧Q v H
def Ze(K:aA):R2:=λx y H Q=>∃p xs i v,x=.ref p∧y=.int i∧jP K H p xs∧Jc xs i=some v∧Q v H
def Zf:R2:=λx y H Q=>∃z i c,x=.str z∧y=.int i∧z.length≤sizeLine∧Jc z.cps.toList i=some c∧Q (.str ⟨#[c]⟩) H
theorem Ou:Nk X (Zd X.K):=by
 intro value slice pins s σ H x y v u Q I rx ry h hs
 obtain⟨p,xs,i,z,rfl,rfl,hq,he,q⟩:=h
 cases rx
 obtain⟨t,rfl⟩:=ry
 obtain⟨its,r,pl,hz⟩:=I.list hq
 obtain⟨j,h1,h2,h3,h4,h5⟩:=vW he
 obtain⟨w,ew,Gi⟩:=r.get h2
 have hl:=r.length
 have hn:=vU
 have fin:EP X pins σ Q w s:=⟨z,H,I,Gi,q⟩
 by_cases h0:0≤i
 ·have hj:i.toNat=j:=by
   rw[seqIndex_of h0 h5]at h1
   exact D9 h1
  exact item_listR pl.isList h0 (by omega) (by rw[hj];simpa using ew) fin hs
 ·have hj:(i+(its.toArray.size:Int)).toNat=j:=by
   rw[seqIndex_neg (by omega) h4]at h1
   rw[B0,←hl]
   exact D9 h1
  exact subscriptTail_builtinR (x:=w) pl.isList.typeIs slot_list_getitem.lookup
   (wpAny_getItem_list_neg (Q:=λr s'=>r=w∧EP X pins σ Q r s') pl.isList (by omega) (by rw[B0]<;>omega) (by omega) (by rw[hj];simpa using ew) ⟨rfl,fin⟩) hs
theorem Vh:Nk X (Ze X.K):=by
 intro value slice pins s σ H x y v u Q I rx ry h hs
 obtain⟨p,xs,i,z,rfl,rfl,hq,he,q⟩:=h
 cases rx
 obtain⟨t,rfl⟩:=ry
 obtain⟨its,r,pl,hz⟩:=I.tuple hq
 obtain⟨j,h1,h2,h3,h4,h5⟩:=vW he
 obtain⟨w,ew,Gi⟩:=r.get h2
 have hl:=r.length
 have hn:=vU
 have fin:EP X pins σ Q w s:=⟨z,H,I,Gi,q⟩
 exact subscriptTail_builtinR (x:=w) pl.typeIs slot_tuple_getitem.lookup
  (getItem_tuple (j:=j) (Q:=λr s'=>r=w∧EP X pins σ Q r s') pl (by omega) (by omega) (by rw[B0,←hl];exact h1) (by simpa using ew) ⟨rfl,fin⟩) hs
theorem Vi:Nk X Zf:=by
 intro value slice pins s σ H x y v u Q I rx ry h hs
 obtain⟨z,i,c,rfl,rfl,hz,he,q⟩:=h
 obtain⟨t,rfl⟩:=rx
 obtain⟨t',rfl⟩:=ry
 obtain⟨j,h1,h2,h3,h4,h5⟩:=vW he
 have hl:z.cps.toList.length=z.length:=by simp[Str.length]
 rw[hl]at h1 h4 h5
 have hn:=vU
 exact tail_any (typeIs_str s z t) slot_str_getitem.lookup (getItem_str (c:=c) (by
  have e1:decide (i < -(2 ^ 63:Int))=false:=decide_eq_false (by omega)
  have e2:decide (i≥2 ^ 63)=false:=decide_eq_false (by omega)
  rw[e1,e2,Bool.or_false]) (by rw[h1];simpa using h2) ⟨.str ⟨#[c]⟩,H,I.tok _,⟨_,rfl⟩,q⟩) hs
def JB(K:aA):R2:=λx y H Q=>Zd K x y H Q∨Ze K x y H Q∨Zf x y H Q
theorem Vj:Nk X (JB X.K):=Ou.or (Vh.or Vi)
theorem vX(lo hi:Option Int)(n:Nat):(sliceBounds lo hi none n).1=((HT.oU n 0 lo:Nat):Int)∧(sliceBounds lo hi none n).2.1=((HT.oU n n hi:Nat):Int)∧(sliceBounds lo hi none n).2.2=1:=by
 refine⟨?_,?_,rfl⟩
 ·cases lo with
  | none=>simp[sliceBounds,HT.oU]
  | some i=>
   simp only[sliceBounds,HT.oU,S5,show (1:Int) > 0 by decide,if_true]
   by_cases h:i<0
   ·simp only[h,if_true]<;>omega
   ·simp only[h,if_false]<;>omega
 ·cases hi with
  | none=>simp[sliceBounds,HT.oU]
  | some i=>
   simp only[sliceBounds,HT.oU,S5,show (1:Int) > 0 by decide,if_true]
   by_cases h:i<0
   ·simp only[h,if_true]<;>omega
   ·simp only[h,if_false]<;>omega
theorem tW(its:List Value)(lo hi:Option Int):slicePick its.toArray lo hi none=((its.drop (HT.oU its.length 0 lo)).take (HT.oU its.length its.length hi-HT.oU its.length 0 lo)).toArray:=by
 obtain⟨h1,h2,h3⟩:=vX lo hi its.toArray.size
 unfold slicePick
 rw[h1,h2,h3]
 simp only[sliceRange_one,pick_run,B0]<;>rfl
def Ov(K:aA):V→Option Int→Option Int→Hp→VK→Prop:=λx lo hi H Q=>∃a xs,x=.ref a∧gW K H a xs∧∀p,H p=none→Q (.ref p) (upd H p (.lst (Aj xs lo hi)))
theorem Ox:IV X (Ov X.K):=by
 intro pins s σ H x v vl vu lo hi sl Q I rx hs pl pu h
 obtain⟨a,xs,rfl,hx,q⟩:=h
 cases rx
 obtain⟨its,r,ht,hz⟩:=I.list hx
 have hlen:=r.length
 refine⟨"list", _,slot_list_getitem.lookup,ht.isList.typeIs,?_⟩
 refine wpAny_getItem_list_slice ht.isList hs pl pu .none (by simp) ?_ (by rw[B0]<;>omega)
 rw[tW,←hlen]
 refine⟨.ref s.heap.objs.size,_,I.laid (t':=s.toks) (o:=.lst (Aj xs lo hi)) (λb ob q=>Heap.get?_push_of_some _ q) (B6 _) ?_,rfl,q _ (I.hok.fresh (B6 _))⟩
 exact⟨E7 (yE xs lo hi) hz,_,0,(r.drop (HT.oU xs.length 0 lo)).take (HT.oU xs.length xs.length hi-HT.oU xs.length 0 lo),Heap.get?_push_size _ rfl⟩
theorem vY:dY X (.builtin "len") (λxs H Q=>∃p ys,xs=[.ref p]∧(gW X.K H p ys∨jP X.K H p ys)∧Q (.int ys.length) H):=by
 intro pins s σ H xs us Q I r h
 obtain⟨p,ys,rfl,hq,q⟩:=h
 obtain⟨u,rfl,rx⟩:=vals1 r
 cases rx
 have hn:=vU
 rcases hq with hq | hq
 ·obtain⟨its,r',pl,hz⟩:=I.list hq
  have hlen:=r'.length
  exact Calls.call_len_list pl.isList (by simp only[B0]<;>omega) ⟨.int ys.length,H,I.tok _,⟨s.toks+1,by rw[B0,hlen]⟩,q⟩
 ·obtain⟨its,r',pl,hz⟩:=I.tuple hq
  have hlen:=r'.length
  exact len_tuple pl (by simp only[B0]<;>omega) ⟨.int ys.length,H,I.tok _,⟨s.toks+1,by rw[B0,hlen]⟩,q⟩
theorem vZ:dY X (.type "list") (λxs H Q=>∃p ys,xs=[.ref p]∧(gW X.K H p ys∨jP X.K H p ys)∧∀l,H l=none→Q (.ref l) (upd H l (.lst ys))):=by
 intro pins s σ H xs us Q I r h
 obtain⟨p,ys,rfl,hq,q⟩:=h
 obtain⟨u,rfl,rx⟩:=vals1 r
 cases rx
 have fin:∀(its:List Value),Vals ys its→ys.length≤sizeLine→∀(h':Heap)(c':Nat),(∀b o',s.heap.get? b=some o'→h'.get? b=some o') →
   h'.get? s.heap.objs.size=some {cls:=.type "list", dict:=none,data:=.seq its.toArray c',slots:=#[]}→EP X pins σ Q (.ref s.heap.objs.size) {s with heap:=h'}:=λits r' hz h' c' kp e=>
  ⟨.ref s.heap.objs.size,_,I.laid (t':=s.toks) kp (B6 _) (show bN X.prog X.w _ h' _ (.lst ys)from⟨hz,its,c',r',e⟩),rfl,q _ (I.hok.fresh (B6 _))⟩
 rcases hq with hq | hq
 ·obtain⟨its,r',pl,hz⟩:=I.list hq
  have hlen:=r'.length
  obtain⟨o,ho,hc,n,hd⟩:=pl.isList
  exact call_list_seq p (.inl rfl) ho hc hd (λh' c' kp e=>fin its r' hz h' c' kp e) (by simp only[B0]<;>omega)
 ·obtain⟨its,r',pl,hz⟩:=I.tuple hq
  have hlen:=r'.length
  obtain⟨o,ho,hc,n,hd⟩:=pl
  exact call_list_seq p (.inr rfl) ho hc hd (λh' c' kp e=>fin its r' hz h' c' kp e) (by simp only[B0]<;>omega)
def MP(K:aA)(T:String)(x:V)(H:Hp):Prop:=match x with
 | .str _=>T = "str"
 | .int _=>T = "int"
 | .ref p=>(T = "list" ∧ ∃xs,gW K H p xs)∨(T = "tuple" ∧ ∃o,K.lookup p=some o∧o.cls=.type "tuple" ∧ o.dict=none) ∨
   (T = "dict" ∧ ((∃kvs,H p=some (.dK kvs))∨∃kvs,H p=some (.dT kvs)))∨(T = "set" ∧ ∃S n,H p=some (.set S n))
 | _=>False
theorem Vk{pins:List (Addr×Obj)}{σ:St}{H:Hp}{s:Shared}{T:String}{x:V}{v:Value}(I:Inv X pins σ H s)(r:RelV x v)(ty:MP X.K T x H) :
  s.TypeIs v T∧∀a,v=.ref a→∃ob,s.heap.get? a=some ob∧ob.dict=none:=by
 cases x with
 | str z=>
  obtain⟨t,rfl⟩:=r
  cases(show T = "str" from ty)
  exact⟨typeIs_str s z t,λ_ e=>nomatch e⟩
 | int i=>
  obtain⟨t,rfl⟩:=r
  cases(show T = "int" from ty)
  exact⟨typeIs_int s i t,λ_ e=>nomatch e⟩
 | ref p=>
  cases r
  rcases ty with ⟨rfl,xs,hq⟩ | ⟨rfl,o,hk,hc,hd⟩ | ⟨rfl,hk⟩ | ⟨rfl,S,n,hk⟩
  ·obtain⟨its,_,pl,_⟩:=I.list hq
   refine⟨pl.isList.typeIs,λa e=>?_⟩
   cases e
   obtain⟨o,n,e,c,hd,_⟩:=pl
   exact⟨o,e,hd⟩
  ·refine⟨⟨o,I.vN p o hk,hc⟩,λa e=>?_⟩
   cases e
   exact⟨o,I.vN _ o hk,hd⟩
  ·have z:∃o,s.heap.get? p=some o∧o.ExactDict:=by
    rcases hk with ⟨kvs,hk⟩ | ⟨kvs,hk⟩
    ·obtain⟨_,_,_,_,o,_,_,e,ex,_⟩:=I.hok p _ hk
     exact⟨o,e,ex⟩
    ·obtain⟨_,_,_,_,o,_,_,e,ex,_⟩:=I.hok p _ hk
     exact⟨o,e,ex⟩
   obtain⟨o,e,ex⟩:=z
   refine⟨⟨o,e,ex.1⟩,λa e2=>?_⟩
   cases e2
   exact⟨o,e,ex.2.1⟩
  ·obtain⟨o,_,_,_,e,ex,_⟩:=I.hok p _ hk
   refine⟨⟨o,e,ex.1⟩,λa e2=>?_⟩
   cases e2
   exact⟨o,e,ex.2.1⟩
 | _=>exact False.elim ty
def EY(K:aA)(T:String)(r:V→List V→Hp→VK→Prop)(to:TE)(t:TA):TE:=λσ H Q=>to σ H λx H1=>MP K T x H1∧t σ H1 λxs H2=>r x xs H2 Q
variable{o e:Expr}{es:List Expr}{to:TE}{t:TA}{name:Str}{apos cpos:Pos}{T id:String}{r:V→List V→Hp→VK→Prop}
theorem Rx(pa:PlainAttrs T)(slot:Slot T name id)(hty:typeOf (.builtin id)=pure (.type "method_descriptor")) (hm:QL X id r) (ho:PE X o to) (ha:PA X (e::es) t)
  (hbase:attributeBase o name X.env (eval o X.env)=eval o X.env:=by rfl)
  (hfew:((backTo cpos (starEach (e::es) X.env)).all (λx=>!x.1)&&(backToKw cpos (keywordEach [] X.env)).all (λx=>x.1.isSome)
   && decide ((e::es).length+([]:List Keyword).length+(if([]:List Keyword).isEmpty then 0 else 1)<30))=true:=by rfl)
  (hline:(apos.endLine==cpos.line)=true:=by rfl) (hs:starEach (e::es) X.env=(false,eval e X.env)::starEach es X.env:=by rfl) (hplain:(backTo cpos (starEach es X.env)).any (·.1)=false:=by rfl) :
  PE X (.Call (.Attribute o name apos) (e::es) [] cpos) (EY X.K T r to t):=by
 intro pins s σ H Q I h
 refine wpAny_Call_method_late hbase hfew hline rfl (cG (ho pins s σ H _ I h) λv s1 ⟨x,H1,I1,r1,ty,q1⟩=>?_)
 obtain⟨h1,h2⟩:=Vk I1 r1 ty
 refine⟨T,id,pa,slot,hty,h1,h2,?_⟩
 have hA:=ha cpos pins s1 σ H1 _ I1 q1
 rw[hs]at hA ⊢
 refine Calls.callWith_builtin (by show (false||(backTo cpos (starEach es X.env)).any (·.1))=false;rw[hplain]<;>rfl) (Calls.evalArgs_plain ?_)
 exact cG hA λus s2 ⟨vs,H2,I2,r2,q2⟩=>hm pins s2 σ H2 x vs v us Q I2 r1 r2 q2
end
end L2
namespace L2
open PySem PySem.Spec PyProof.Rows
def QM(X:Cx)(id:String)(r:V→List V→Hp→VK→Prop):Prop:=
 ∀(pins:List (Addr×Obj))(s:Shared)(σ:St)(H:Hp)(x:V)(xs:List V)(v:Value)(us:List Value)(Q:VK),Inv X pins σ H s→RelV x v→Vals xs us→r x xs H Q →
  wpAny (model X.prog X.w) X.A (call (.builtin id) (v::us)) (EP X pins σ Q) X.xe s
theorem Vals.one:∀{x:V} {us:List Value},Vals [x] us→∃u,us=[u]∧RelV x u
 | _,_,.cons r .nil=>⟨_,rfl,r⟩
section
variable{X:Cx}{pins:List (Addr×Obj)}{σ:St}{H:Hp}{s:Shared}{l b:Addr}{xs ys zs:List V}
theorem Inv.JC{its its':List Value}{n:Nat}{f:Array Value→Array Value}{t':Nat}(I:Inv X pins σ H s)(hH:H l=some (.lst xs))
  (e:s.heap.get? l=some {cls:=.type "list", data:=.seq its.toArray n}) (hf:f its.toArray=its'.toArray) (hv:Vals ys its') (hz:ys.length≤sizeLine) :
  Inv X pins σ (upd H l (.lst ys)) {s with heap:=s.heap.update l (Obj.mapSeq f),toks:=t'}:=by
 have q:=PySem.IsL.update e f
 rw[hf]at q
 refine I.write (x:=l) (e:=l) (by rw[hH];exact trivial) (.inl rfl) (λb' u hb hu=>(Heap.get?_update_other s.heap (Obj.mapSeq f) (Ne.symm hb)).trans hu) ⟨_,q⟩ ?_
 exact⟨hz,its',_,hv,q⟩
theorem Inv.Zg{its:List Value}{t':Nat}(I:Inv X pins σ H s)(hv:Vals ys its)(hz:ys.length≤sizeLine) :
  Inv X pins σ (upd H s.heap.objs.size (.lst ys)) {s with heap:=s.heap.push {cls:=.type "list", data:=.seq its.toArray},toks:=t'}:=
 I.laid (λ_ _ q=>Heap.get?_push_of_some _ q) (B6 _) ⟨hz,its,0,hv,Heap.get?_push_size _ rfl⟩
theorem Inv.fresh(I:Inv X pins σ H s):H s.heap.objs.size=none:=I.hok.fresh (B6 _)
theorem Inv.JD(I:Inv X pins σ H s)(hH:H l=some (.lst xs)):xs.length≤sizeLine∧∃(its:List Value)(n:Nat),Vals xs its∧xs.length=its.length∧s.heap.get? l=some {cls:=.type "list", data:=.seq its.toArray n}:=by
 obtain⟨z,its,n,r,e⟩:=I.hok l _ hH
 exact⟨z,its,n,r,r.length,e⟩
end
section
variable{X:Cx}
def pH:V→List V→Hp→VK→Prop:=λx vs H Q=>∃l xs y,x=.ref l∧vs=[y]∧H l=some (.lst xs)∧xs.length<sizeLine∧Q .non (upd H l (.lst (xs++[y])))
theorem mL:QM X "list.append" pH:=by
 intro pins s σ H x vs v us Q I rx rv h
 obtain⟨l,xs,y,rfl,rfl,hH,hz,q⟩:=h
 cases rx
 obtain⟨u,rfl,ru⟩:=rv.one
 obtain⟨z,its,n,r,hl,e⟩:=I.JD hH
 refine call_meets F.slot_list_append ⟨_,e,rfl⟩ F.entry_list_append (F.args_list_append_2 _ _) (PySem.list_append l its.toArray n u (by rw[B0];omega)) ⟨e,?_⟩
 refine⟨.non,_,I.JC (its':=its++[u]) hH e (by simp) (r.append (.cons ru .nil)) ?_,rfl,q⟩
 rw[D7,List.length_singleton]
 omega
end
section
variable{prog:Program}{w:World}{A:Around}{E:Value→Shared→Prop}{s:Shared}
end
section
variable{X:Cx}
end
end L2
namespace L2
open PySem PySem.Spec PyProof.Rows
section
variable{κ:Type} [DecidableEq κ]
def gP(kvs:List (κ×V))(k:κ):Option V:=(kvs.find? λkv=>decide (kv.1=k)).map (·.2)
def putK(kvs:List (κ×V))(k:κ)(v:V):List (κ×V):=
 if(kvs.any λkv=>decide (kv.1=k))=true then kvs.map (λkv=>if kv.1=k then(kv.1,v)else kv)else kvs++[(k,v)]
def pZ(kvs:List (κ×V))(k:κ):List (κ×V):=kvs.filter λkv=>decide (kv.1≠k)
theorem qC{p:κ×V}{r:List (κ×V)}{k:κ}(e:p.1=k):gP (p::r) k=some p.2:=by simp[gP,J0,e]
theorem qD{p:κ×V}{r:List (κ×V)}{k:κ}(e:¬p.1=k):gP (p::r) k=gP r k:=by simp[gP,J0,e]
theorem qF(k:κ):∀kvs:List (κ×V),(kvs.any λkv=>decide (kv.1=k))=(gP kvs k).isSome
 | []=>rfl
 | p::r=>by
  rw[Q7]
  by_cases e:p.1=k
  ·simp only[qC e,decide_eq_true e,Bool.true_or,Option.isSome_some]
  ·rw[qD e,decide_eq_false e,Bool.false_or];exact qF k r
theorem nW(kvs:List (κ×V))(k:κ)(v:V):(putK kvs k v).length≤kvs.length+1:=by
 unfold putK
 split
 ·rw[B4];omega
 ·rw[D7,F0,T2];omega
theorem oM.eY{o:Option V}{u:Option Value}(r:oM o u):o.isSome=u.isSome:=by
 cases o with
 | none=>cases u with
  | none=>rfl
  | some _=>exact(show False from r).elim
 | some _=>cases u with
  | none=>exact(show False from r).elim
  | some _=>rfl
theorem KV.val{kvs:List (κ×V)}{vs:List (κ×Value)}(r:KV kvs vs)(k:κ):oM (gP kvs k) (valueAt vs k):=by
 unfold KV at r
 induction r with
 | nil=>exact True.intro
 | @cons p q ps qs h t ih=>
  obtain⟨h1,h2⟩:=h
  by_cases e:p.1=k
  ·have e':q.1=k:=h1.symm.trans e
   have b:valueAt (q::qs) k=some q.2:=by simp[valueAt,J0,e']
   rw[qC e,b];exact h2
  ·have e':¬q.1=k:=λz=>e (h1.trans z)
   have b:valueAt (q::qs) k=valueAt qs k:=by simp[valueAt,J0,e']
   rw[qD e,b];exact ih
theorem KV.any{kvs:List (κ×V)}{vs:List (κ×Value)}(r:KV kvs vs)(k:κ):(kvs.any λkv=>decide (kv.1=k))=vs.any λkv=>decide (kv.1=k):=by
 unfold KV at r
 induction r with
 | nil=>rfl
 | cons h t ih=>rw[Q7,Q7,ih,h.1]
theorem KV.repl{kvs:List (κ×V)}{vs:List (κ×Value)}(r:KV kvs vs)(k:κ){y:V}{u:Value}(ry:RelV y u) :
  KV (kvs.map λkv=>if kv.1=k then(kv.1,y)else kv) (vs.map λkv=>if kv.1=k then(kv.1,u)else kv):=by
 unfold KV at r ⊢
 induction r with
 | nil=>exact .nil
 | @cons p q ps qs h t ih=>
  rw[B3,B3]
  refine .cons ?_ ih
  obtain⟨h1,h2⟩:=h
  by_cases e:p.1=k
  ·rw[if_pos e,if_pos (h1.symm.trans e)];exact⟨h1,ry⟩
  ·rw[if_neg e,if_neg (λz=>e (h1.trans z))];exact⟨h1,h2⟩
theorem KV.put{kvs:List (κ×V)}{vs:List (κ×Value)}(r:KV kvs vs)(k:κ){y:V}{u:Value}(ry:RelV y u):KV (putK kvs k y) (stored vs k u):=by
 unfold putK stored
 rw[r.any k]
 by_cases e:(vs.any λkv=>decide (kv.1=k))=true
 ·rw[if_pos e,if_pos e];exact r.repl k ry
 ·rw[if_neg e,if_neg e];exact Paired.snoc r ⟨rfl,ry⟩
theorem KV.drop{kvs:List (κ×V)}{vs:List (κ×Value)}(r:KV kvs vs)(k:κ):KV (pZ kvs k) (without vs k):=by
 unfold KV at r ⊢
 unfold pZ without
 induction r with
 | nil=>exact .nil
 | @cons p q ps qs h t ih=>
  obtain⟨h1,h2⟩:=h
  rw[G7,G7]
  by_cases e:p.1=k
  ·have a:¬decide (p.1≠k)=true:=by simp[e]
   have b:¬decide (q.1≠k)=true:=by simp[h1.symm.trans e]
   rw[if_neg a,if_neg b];exact ih
  ·have e':¬q.1=k:=λz=>e (h1.trans z)
   have a:decide (p.1≠k)=true:=by simp[e]
   have b:decide (q.1≠k)=true:=by simp[e']
   rw[if_pos a,if_pos b];exact .cons ⟨h1,h2⟩ ih
theorem KV.keys{kvs:List (κ×V)}{vs:List (κ×Value)}(r:KV kvs vs):kvs.map (·.1)=vs.map (·.1):=by
 unfold KV at r
 induction r with
 | nil=>rfl
 | cons h t ih=>rw[B3,B3,ih,h.1]
theorem KV.length{kvs:List (κ×V)}{vs:List (κ×Value)}(r:KV kvs vs):kvs.length=vs.length:=Paired.length r
theorem Jd(kvs:List (κ×V))(k:κ):(pZ kvs k).length≤kvs.length:=J8 _ _
end
theorem uM{P:Program}{w:World}{k:Key}{u:Value}(r:RelV (kV k) u):(aP P w).is k u=true:=by
 cases k with
 | inl i=>obtain⟨t,e⟩:=(show ∃t,u=Value.int i t from r);subst e;exact nT P w i t
 | inr x=>obtain⟨t,e⟩:=(show ∃t,u=Value.str x t from r);subst e;exact xT P w x t
theorem uN{P:Program}{w:World}:∀{ks:List Key} {us:List Value},Vals (ks.map kV) us→ItemsAre (aP P w) ks us
 | [],_,r=>by rw[D4]at r;cases r;exact .nil
 | k::ks,_,r=>by
  rw[B3]at r
  cases r with
  | cons h t=>exact .cons (uM h) (uN t)
abbrev KT(H:Hp):List (List Key×V)→List (List Key×Addr×Value)→Prop:=Paired λp q=>p.1=q.1∧H q.2.1=some (.tup (p.1.map kV))∧RelV p.2 q.2.2
theorem KT.val{H:Hp}{kvs:List (List Key×V)}{xs:List (List Key×Addr×Value)}(r:KT H kvs xs)(k:List Key):oM (gP kvs k) ((atKey xs k).map (·.2)):=by
 induction r with
 | nil=>exact True.intro
 | @cons p q ps qs h t ih=>
  obtain⟨h1,_,h2⟩:=h
  by_cases e:p.1=k
  ·have e':q.1=k:=h1.symm.trans e
   have b:atKey (q::qs) k=some q.2:=by simp[atKey,J0,e']
   rw[qC e,b];exact h2
  ·have e':¬q.1=k:=λz=>e (h1.trans z)
   have b:atKey (q::qs) k=atKey qs k:=by simp[atKey,J0,e']
   rw[qD e,b];exact ih
theorem KT.repl{H:Hp}{kvs:List (List Key×V)}{xs:List (List Key×Addr×Value)}(r:KT H kvs xs)(k:List Key){y:V}{u:Value}(ry:RelV y u) :
  KT H (kvs.map λkv=>if kv.1=k then(kv.1,y)else kv) (xs.map (putAt k u)):=by
 induction r with
 | nil=>exact .nil
 | @cons p q ps qs h t ih=>
  rw[B3,B3]
  refine .cons ?_ ih
  obtain⟨h1,h2,h3⟩:=h
  unfold putAt
  by_cases e:p.1=k
  ·rw[if_pos e,if_pos (h1.symm.trans e)];exact⟨h1,h2,ry⟩
  ·rw[if_neg e,if_neg (λz=>e (h1.trans z))];exact⟨h1,h2,h3⟩
theorem KT.put{H:Hp}{kvs:List (List Key×V)}{xs:List (List Key×Addr×Value)}(r:KT H kvs xs)(k:List Key){b:Addr}{y:V}{u:Value}(hb:H b=some (.tup (k.map kV)))(ry:RelV y u) :
  KT H (putK kvs k y) (storedH xs k b u):=by
 have e:(kvs.any λkv=>decide (kv.1=k))=(atKey xs k).isSome:=by
  rw[qF,(r.val k).eY,N6]
 unfold putK storedH
 rw[e]
 by_cases q:(atKey xs k).isSome=true
 ·rw[if_pos q,if_pos q];exact r.repl k ry
 ·rw[if_neg q,if_neg q];exact Paired.snoc r ⟨rfl,hb,ry⟩
theorem KT.keeps{H H':Hp}{kvs:List (List Key×V)}{xs:List (List Key×Addr×Value)}(r:KT H kvs xs)(ht:∀b ys,H b=some (.tup ys)→H' b=some (.tup ys)):KT H' kvs xs:=
 Paired.Tw r λ_ _ z=>⟨z.1,ht _ _ z.2.1,z.2.2⟩
section
variable{P:Program}{w:World}{H:Hp}{h:Heap}{a:Addr}
theorem Ry{u:HO}(ok:jU P w H h)(e:Rd H a u):bN P w H h a u:=e.ok ok
theorem qG{kvs:List (Key×V)}(ok:jU P w H h)(e:Rd H a (.dK kvs)):kvs.length≤sizeLine∧(a==sysModules)=false∧∃vs,KV kvs vs∧h.DictOf (aP P w) a vs:=
 show bN P w H h a (.dK kvs)from Ry ok e
theorem Rz{kvs:List (Key×V)}(ok:jU P w H h)(e:H a=some (.dK kvs)):kvs.length≤sizeLine∧(a==sysModules)=false∧∃vs,KV kvs vs∧h.DictOf (aP P w) a vs:=qG ok (.inl e)
theorem qH{ks:List Key}(ok:jU P w H h)(e:H a=some (.tup (ks.map kV))):(tupleKind (aP P w)).is h ks a:=by
 obtain⟨_,its,r,o,h1,h2,n,h3⟩:=(show bN P w H h a (.tup (ks.map kV))from ok a _ e)
 exact⟨o,its.toArray,n,h1,h2,h3,by simpa using uN r⟩
theorem uO{kvs:List (List Key×V)}(ok:jU P w H h)(e:Rd H a (.dT kvs)):kvs.length≤sizeLine∧(a==sysModules)=false ∧
  ∃xs,KT H kvs xs∧h.DictOfH (tupleKind (aP P w)) a xs:=by
 obtain⟨z,y,xs,r,o,es,ep,h1,h2,h3,h4,h5⟩:=(show bN P w H h a (.dT kvs)from Ry ok e)
 refine⟨z,y,xs,r,o,es,ep,h1,h2,h3,h4,λx hx=>?_,h5⟩
 have all:∀{l:List (List Key×V)} {m:List (List Key×Addr×Value)},KT H l m→∀x∈m,(tupleKind (aP P w)).is h x.1 x.2.1:=by
  intro l m q
  induction q with
  | nil=>intro x hx;exact nomatch hx
  | @cons p q ps qs hq t ih=>
   intro x hx
   rcases E3.mp hx with e | hx
   ·subst e
    exact qH ok (by rw[←hq.1];exact hq.2.1)
   ·exact ih x hx
 exact all r x hx
theorem Zh{kvs:List (List Key×V)}(ok:jU P w H h)(e:H a=some (.dT kvs)):kvs.length≤sizeLine∧(a==sysModules)=false ∧
  ∃xs,KT H kvs xs∧h.DictOfH (tupleKind (aP P w)) a xs:=uO ok (.inl e)
end
def yF(H:Hp)(a:Addr)(y:V)(r:Option V):Prop:=
 (∃kvs k,Rd H a (.dK kvs)∧y=kV k∧r=gP kvs k)∨∃kvs k b,Rd H a (.dT kvs)∧y=.ref b∧H b=some (.tup (k.map kV))∧r=gP kvs k
def Zi(H:Hp)(a:Addr)(y v:V)(H':Hp):Prop:=
 (∃kvs k,H a=some (.dK kvs)∧y=kV k∧kvs.length<sizeLine∧H'=upd H a (.dK (putK kvs k v))) ∨
 ∃kvs k b,H a=some (.dT kvs)∧y=.ref b∧H b=some (.tup (k.map kV))∧kvs.length<sizeLine∧H'=upd H a (.dT (putK kvs k v))
section
variable{X:Cx}{pins:List (Addr×Obj)}{σ:St}{H:Hp}{s:Shared}{a:Addr}{y v:V}{u r:Value}{o:Option V}{A:Around}{E:Value→Shared→Prop}
theorem Inv.big(I:Inv X pins σ H s):sysModules<s.heap.objs.size:=by
 have h:mainGlobals<s.heap.objs.size:=(I.mod.glob.keeps I.bk).lt
 exact M3 (by decide) h
theorem Gj{Q:Value→Shared→Prop}(hu:A.units+1<cLine)(I:Inv X pins σ H s)(g:yF H a y (some v))(ry:RelV y u)(h:∀w' s',Inv X pins σ H s'→RelV v w'→Q w' s') :
  wpAny (model X.prog X.w) A (getItem (.ref a) u) Q E s:=by
 rcases g with ⟨kvs,k,e,ey,l⟩ | ⟨kvs,k,b,e,ey,eb,l⟩
 ·subst ey
  obtain⟨z,hd,vs,rel,dd⟩:=qG I.hok e
  obtain⟨w',hw,Gi⟩:=oM.some_of (v:=v) (o:=valueAt vs k) (by rw[l];exact rel.val k)
  exact wpAny_getItem_of (uM ry) dd.mapOf hw (h w' _ (I.tok _) Gi)
 ·subst ey
  cases(show u=Value.ref b from ry)
  obtain⟨z,hd,xs,rel,dd⟩:=uO I.hok e
  obtain⟨w',hw,Gi⟩:=oM.some_of (v:=v) (o:=(atKey xs k).map (·.2)) (by rw[l];exact rel.val k)
  obtain⟨p,hp,hp2⟩:=cR hw
  refine wpAny_getItem_heap (tupleKind_room_in1 hu) (qH I.hok eb) dd hp ?_
  rw[hp2]
  exact h w' _ (I.tok _) Gi
theorem JF{Q:Value→Shared→Prop}(hu:A.units+1<cLine)(I:Inv X pins σ H s)(g:yF H a y o)(ry:RelV y u)(h:∀s',Inv X pins σ H s'→Q (.bool o.isSome) s') :
  wpAny (model X.prog X.w) A (compareOp .In u (.ref a)) Q E s:=by
 rcases g with ⟨kvs,k,e,ey,l⟩ | ⟨kvs,k,b,e,ey,eb,l⟩
 ·subst ey
  obtain⟨z,hd,vs,rel,dd⟩:=qG I.hok e
  refine wpAny_in_of (uM ry) hd dd.mapOf ?_
  rw[←(rel.val k).eY,←l]
  exact h _ (I.tok _)
 ·subst ey
  cases(show u=Value.ref b from ry)
  obtain⟨z,hd,xs,rel,dd⟩:=uO I.hok e
  refine wpAny_in_heap (tupleKind_room_in1 hu) (qH I.hok eb) hd dd ?_
  have q:=(rel.val k).eY
  rw[N6]at q
  rw[←q,←l]
  exact h _ (I.tok _)
theorem Oz{Q:Value→Shared→Prop}(hu:A.units+1<cLine)(I:Inv X pins σ H s)(g:yF H a y o)(ry:RelV y u)(h:∀s',Inv X pins σ H s'→Q (.bool (!o.isSome)) s') :
  wpAny (model X.prog X.w) A (compareOp .NotIn u (.ref a)) Q E s:=by
 rcases g with ⟨kvs,k,e,ey,l⟩ | ⟨kvs,k,b,e,ey,eb,l⟩
 ·subst ey
  obtain⟨z,hd,vs,rel,dd⟩:=qG I.hok e
  refine wpAny_notIn_of (uM ry) hd dd.mapOf ?_
  rw[←(rel.val k).eY,←l]
  exact h _ (I.tok _)
 ·subst ey
  cases(show u=Value.ref b from ry)
  obtain⟨z,hd,xs,rel,dd⟩:=uO I.hok e
  refine wpAny_notIn_heap (tupleKind_room_in1 hu) (qH I.hok eb) hd dd ?_
  have q:=(rel.val k).eY
  rw[N6]at q
  rw[←q,←l]
  exact h _ (I.tok _)
theorem wA{h':Heap}{t':Nat}{ob:HO}(I:Inv X pins σ H s)(mu:Yc (H a))(hs:Heap.SameBut a s.heap h')(he:∃q,h'.get? a=some q)(new:bN X.prog X.w (upd H a ob) h' a ob) :
  Inv X pins σ (upd H a ob) {s with heap:=h',toks:=t'}:=
 I.write (x:=a) (e:=a) mu (.inl rfl) (λb q hb z=>(hs.2 b hb).trans z) he new
theorem Ak{P:Program}{w:World}{H':Hp}{h':Heap}{kvs:List (Key×V)}{vs:List (Key×Value)}(z:kvs.length≤sizeLine)(hd:(a==sysModules)=false)(rel:KV kvs vs)(dd:h'.DictOf (aP P w) a vs) :
  bN P w H' h' a (.dK kvs):=⟨z,hd,vs,rel,dd⟩
theorem Gk{H':Hp}{Q:Unit→Shared→Prop}(hu:A.units+1<cLine)(I:Inv X pins σ H s)(g:Zi H a y v H')(ry:RelV y u)(rv:RelV v r)(h:∀s',Inv X pins σ H' s'→Q () s') :
  wpAny (model X.prog X.w) A (setItem (.ref a) u r) Q E s:=by
 rcases g with ⟨kvs,k,e,ey,l,eH⟩ | ⟨kvs,k,b,e,ey,eb,l,eH⟩
 ·subst ey eH
  obtain⟨z,hd,vs,rel,dd⟩:=Rz I.hok e
  have hz:vs.length≤sizeLine:=by rw[←rel.length];exact z
  have hl:(putK kvs k v).length≤sizeLine:=by have:=nW kvs k v;omega
  refine wpAny_setItem_pairs (hsz:=hz) (uM ry) dd λh' Vl hs=>h _ ?_
  have he:∃q,h'.get? a=some q:=let ⟨q,_,_,hq,_⟩:=Vl;⟨q,hq⟩
  exact wA I (by rw[e];exact True.intro) hs he (Ak hl hd (rel.put k rv) Vl)
 ·subst ey eH
  cases(show u=Value.ref b from ry)
  obtain⟨z,hd,xs,rel,dd⟩:=Zh I.hok e
  have hz:xs.length≤sizeLine:=by rw[←Paired.length rel];exact z
  have hl:(putK kvs k v).length≤sizeLine:=by have:=nW kvs k v;omega
  refine wpAny_setItem_heap (hsz:=hz) (tupleKind_room_in1 hu) (qH I.hok eb) dd λh' Vl hs=>h _ ?_
  obtain⟨q,es,ep,hq,h2,h3,h4,_,h5⟩:=Vl
  refine wA I (by rw[e];exact True.intro) hs ⟨q,hq⟩ ⟨hl,hd,_,(rel.put k eb rv).keeps λc ys ec=>?_,q,es,ep,hq,h2,h3,h4,h5⟩
  rw[aJ (Yl ec e (λz=>nomatch z))]
  exact ec
end
section
variable{X:Cx}{pins:List (Addr×Obj)}{σ:St}{H:Hp}{s:Shared}{a:Addr}{kvs:List (Key×V)}{k:Key}{u:Value}{A:Around}{E:Value→Shared→Prop}
theorem Zj{v:V}{more:List Value}{Q:Value→Shared→Prop}(I:Inv X pins σ H s)(e:H a=some (.dK kvs))(ry:RelV (kV k) u)(l:gP kvs k=some v)(hm:more=[]∨∃x,more=[x])
  (h:∀w' s',Inv X pins σ (upd H a (.dK (pZ kvs k))) s'→RelV v w'→Q w' s'):wpAny (model X.prog X.w) A (call (.builtin "dict.pop") (.ref a::u::more)) Q E s:=by
 obtain⟨z,hd,vs,rel,dd⟩:=Rz I.hok e
 obtain⟨w',hw,Gi⟩:=oM.some_of (v:=v) (o:=valueAt vs k) (by rw[←l];exact rel.val k)
 have hp:(keyPart u).isSome=true:=by
  cases k with
  | inl i=>obtain⟨t,q⟩:=(show ∃t,u=Value.int i t from ry);subst q;rfl
  | inr x=>obtain⟨t,q⟩:=(show ∃t,u=Value.str x t from ry);subst q;rfl
 have ha:argsOk "dict.pop" ⟨.ref a::u::more,[]⟩:=by
  rcases hm with q | ⟨x,q⟩
  ·subst q;exact PySem.F.args_dict_pop_2 _ _
  ·subst q;exact PySem.F.args_dict_pop_3 _ _ _
 refine call_meetsIn P9 dd.typeIs PySem.F.entry_dict_pop ha (meets_dict_pop_there (aP X.prog X.w) a (uM ry) more hm hp)
  ⟨vs,w',dd,by rw[←rel.length];exact z,hw,λh' Vl hs=>h w' _ ?_ Gi⟩
 have he:∃q,h'.get? a=some q:=let ⟨q,_,_,hq,_⟩:=Vl;⟨q,hq⟩
 exact wA I (by rw[e];exact True.intro) hs he (Ak (E7 (Jd kvs k) z) hd (rel.drop k) Vl)
end
def Vm(i:Expr):Prop:=∀ov iv,subscripted i false ov iv=operate [ov,iv] (getItem ov iv)
theorem Pa{prog:Program}{w:World}{A:Around}{E:Value→Shared→Prop}{s:Shared}{env:Env}{value slice:Expr}{pos:Pos}{T id:String}{Q:Value→Shared→Prop}
  (hl:typeLookup (.type T) "__getitem__" = pure (some (.builtin id))) (hs:Vm slice)
  (h:wpAny (model prog w) A (eval value env) (λo s₁=>wpAny (model prog w) A (eval slice env) (λi s₂=>s₂.TypeIs o T∧wpAny (model prog w) A (getItem o i) Q E s₂) E s₁) E s) :
  wpAny (model prog w) A (eval (.Subscript value slice pos) env) Q E s:=by
 refine Subscript_ (wpAny_mono h (λo s₁ h₁=>wpAny_mono h₁ (λi s₂ h₂=>?_) λ_ _ x=>x) λ_ _ x=>x)
 obtain⟨hT,h₂⟩:=h₂
 unfold subscriptTail
 refine wpAny_bind ?_
 rw[getitemInPython_of_ne hT.not_modules]
 refine wpAny_bind (wpAny_specialOf hT hl ?_)
 have fin:wpAny (model prog w) A (subscripted slice false o i) (λr s₃=>wpAny (model prog w) A (letTemporaryGo value o r >>= λ_=>pure r) Q E s₃) E s₂:=by
  rw[hs o i]
  exact wpAny_operating (wpAny_mono h₂ (λr s₃ h₃=>wpAny_bind (wpAny_letTemporaryGo (wpAny_pure h₃))) λ_ _ x=>x)
 first
  | exact wpAny_pure (wpAny_bind fin)
  | exact wpAny_bind (wpAny_pure (wpAny_bind fin))
  | exact wpAny_bind fin
theorem yG{X:Cx}{pins:List (Addr×Obj)}{σ:St}{H:Hp}{s:Shared}{a:Addr}{y:V}{o:Option V}(I:Inv X pins σ H s)(g:yF H a y o):s.TypeIs (.ref a) "dict" := by
 rcases g with ⟨kvs,k,e,_,_⟩ | ⟨kvs,k,b,e,_,_,_⟩
 ·obtain⟨_,_,vs,_,dd⟩:=qG I.hok e
  exact dd.typeIs
 ·obtain⟨_,_,xs,_,dd⟩:=uO I.hok e
  exact dd.typeIs
def Sd(td ty:TE):TE:=λσ H Q=>td σ H λx H1=>ty σ H1 λy H2=>∃a v,x=.ref a∧yF H2 a y (some v)∧Q v H2
def Vn(ty td:TE):TE:=λσ H Q=>ty σ H λy H1=>td σ H1 λx H2=>∃a o,x=.ref a∧yF H2 a y o∧Q (.bl o.isSome) H2
def wB(ty td:TE):TE:=λσ H Q=>ty σ H λy H1=>td σ H1 λx H2=>∃a o,x=.ref a∧yF H2 a y o∧Q (.bl (!o.isSome)) H2
def Dk(td ty tv:TE):TS:=λD σ H=>tv σ H λv H1=>td σ H1 λx H2=>ty σ H2 λy H3=>∃a H4,x=.ref a∧Zi H3 a y v H4∧D.nx σ H4
section
variable{X:Cx}{o i e value:Expr}{pos pos' tpos:Pos}{td ty tv:TE}
theorem Pb(hu:X.A.units+1<cLine)(ho:PE X o td)(hi:PE X i ty)(hs:Vm i):PE X (.Subscript o i pos) (Sd td ty):=by
 intro pins s σ H Q I h
 refine Pa PySem.F.slot_dict_getitem.lookup hs (cG (ho pins s σ H _ I h) λu s1 ⟨x,H1,I1,rx,q1⟩=>cG (hi pins s1 σ H1 _ I1 q1) λiv s2 ⟨y,H2,I2,ry,a,v,ex,g,q2⟩=>?_)
 subst ex
 obtain rfl:u=Value.ref a:=rx
 exact⟨yG I2 g,Gj hu I2 g ry λw' s3 I3 Gi=>⟨v,H2,I3,Gi,q2⟩⟩
theorem Je(hu:X.A.units+1<cLine)(hi:PE X i ty)(ho:PE X o td):PC X .In i o (Vn ty td):=by
 intro pins s σ H Q I h
 refine cG (hi pins s σ H _ I h) λiv s1 ⟨y,H1,I1,ry,q1⟩=>cG (ho pins s1 σ H1 _ I1 q1) λu s2 ⟨x,H2,I2,rx,a,ov,ex,g,q2⟩=>?_
 subst ex
 obtain rfl:u=Value.ref a:=rx
 exact JF hu I2 g ry λs3 I3=>⟨.bl ov.isSome,H2,I3,rfl,q2⟩
theorem uP(hu:X.A.units+1<cLine)(hi:PE X i ty)(ho:PE X o td):PC X .NotIn i o (wB ty td):=by
 intro pins s σ H Q I h
 refine cG (hi pins s σ H _ I h) λiv s1 ⟨y,H1,I1,ry,q1⟩=>cG (ho pins s1 σ H1 _ I1 q1) λu s2 ⟨x,H2,I2,rx,a,ov,ex,g,q2⟩=>?_
 subst ex
 obtain rfl:u=Value.ref a:=rx
 exact Oz hu I2 g ry λs3 I3=>⟨.bl (!ov.isSome),H2,I3,rfl,q2⟩
theorem pI(hu:X.A.units+1<cLine)(ho:PE X o td)(hi:PE X i ty)(hv:PE X value tv)(hs:swapsWith value (some (.Subscript o i pos')) pos.line X.env=pure false) :
  PS X (.Assign [.Subscript o i pos'] value pos) (Dk td ty tv):=by
 intro pins s σ H D I h
 refine wpAny_Assign_Subscript (cG (hv pins s σ H _ I h) λr s1 ⟨v,H1,I1,rv,q1⟩=>cG (ho pins s1 σ H1 _ I1 q1) λu s2 ⟨x,H2,I2,rx,q2⟩=>cG (hi pins s2 σ H2 _ I2 q2) λiv s3 ⟨y,H3,I3,ry,a,H4,ex,g,q3⟩=>?_) hs
 subst ex
 obtain rfl:u=Value.ref a:=rx
 exact Gk hu I3 g ry rv λs4 I4=>⟨σ,H4,I4,q3⟩
end
theorem Jf{P:Program}{w:World}{H:Hp}(h:Heap)(hb:sysModules<h.objs.size):bN P w H (h.push {cls:=.type "dict", data:=.dict #[]}) h.objs.size (.dK []):=
 ⟨F9 _,beq_eq_false_iff_ne.mpr (Ne.symm (C3 hb)),[],.nil,Heap.DictOf.new h⟩
def Al:TE:=λ_ H Q=>∀p,H p=none→Q (.ref p) (upd H p (.dK []))
section
variable{X:Cx}{pos:Pos}
theorem Jg:PE X (.Dict [] [] pos) Al:=λpins s σ H Q I h=>
 wpAny_Dict_empty ⟨.ref s.heap.objs.size,_,I.laid (a:=s.heap.objs.size) (o:=.dK []) (t':=s.toks) (λ_ _ q=>Heap.get?_push_of_some _ q) (B6 _) (Jf s.heap I.big),rfl,h _ (I.hok.fresh (B6 _))⟩
end
def Am:List (TE×TE)→St→Hp→(List (V×V)→Hp→Prop)→Prop
 | [],_,H,Q=>Q [] H
 | (tk,tv)::r,σ,H,Q=>tk σ H λx H1=>tv σ H1 λy H2=>Am r σ H2 λps H3=>Q ((x,y)::ps) H3
abbrev VV:List (V×V)→List (Value×Value)→Prop:=Paired λp q=>RelV p.1 q.1∧RelV p.2 q.2
def QQ(X:Cx)(pos:Pos)(keys:List (Option Expr))(values:List Expr)(QR:List (TE×TE)):Prop:=
 ∀(pins:List (Addr×Obj))(s:Shared)(σ:St)(H:Hp)(Q:List (V×V)→Hp→Prop),Inv X pins σ H s→Am QR σ H Q →
  wpAny (model X.prog X.w) X.A (evalPairs (pairTrees keys values X.env pos)) (λvs s'=>∃ps H',Inv X pins σ H' s'∧VV ps vs∧Q ps H') X.xe s
structure M1(X:Cx)(o:Expr)(m:Str)(apos:Pos)(e:Expr)(cpos:Pos):Prop where
 base:attributeBase o m X.env (eval o X.env)=eval o X.env
 few:((backTo cpos (starEach [e] X.env)).all (λx=>!x.1)&&(backToKw cpos (keywordEach [] X.env)).all (λx=>x.1.isSome)
  && decide (([e]:List Expr).length+([]:List Keyword).length+(if([]:List Keyword).isEmpty then 0 else 1)<30))=true
 line:(apos.endLine==cpos.line)=true
 trees:backTo cpos (starEach [e] X.env)=[(false,eval e X.env)]
structure M2(X:Cx)(o:Expr)(m:Str)(apos:Pos)(e f:Expr)(cpos:Pos):Prop where
 base:attributeBase o m X.env (eval o X.env)=eval o X.env
 few:((backTo cpos (starEach [e,f] X.env)).all (λx=>!x.1)&&(backToKw cpos (keywordEach [] X.env)).all (λx=>x.1.isSome)
  && decide (([e,f]:List Expr).length+([]:List Keyword).length+(if([]:List Keyword).isEmpty then 0 else 1)<30))=true
 line:(apos.endLine==cpos.line)=true
 trees:backTo cpos (starEach [e,f] X.env)=[(false,eval e X.env),(false,eval f X.env)]
def MT(H:Hp)(a:Addr):Prop:=(∃kvs,Rd H a (.dK kvs))∨∃kvs,Rd H a (.dT kvs)
theorem Jh{X:Cx}{pins:List (Addr×Obj)}{σ:St}{H:Hp}{s:Shared}{a:Addr}(I:Inv X pins σ H s)(d:MT H a) :
  s.TypeIs (.ref a) "dict" ∧ (∀b,Value.ref a=.ref b→∃ob,s.heap.get? b=some ob∧ob.dict=none)∧(a==sysModules)=false:=by
 rcases d with ⟨kvs,e⟩ | ⟨kvs,e⟩
 ·obtain⟨_,hd,vs,_,dd⟩:=qG I.hok e
  refine⟨dd.typeIs,λb q=>?_,hd⟩
  cases q
  obtain⟨ob,_,_,h1,h2,_⟩:=dd
  exact⟨ob,h1,h2.2.1⟩
 ·obtain⟨_,hd,xs,_,dd⟩:=uO I.hok e
  refine⟨dd.typeIs,λb q=>?_,hd⟩
  cases q
  obtain⟨ob,_,_,h1,h2,_⟩:=dd
  exact⟨ob,h1,h2.2.1⟩
section
variable{X:Cx}{pins:List (Addr×Obj)}{σ:St}{H:Hp}{s:Shared}{a:Addr}{y d:V}{u r:Value}{o:Option V}{A:Around}{E:Value→Shared→Prop}
end
def An(td ty:TE):TE:=λσ H Q=>td σ H λx H1=>∃a,x=.ref a∧MT H1 a∧ty σ H1 λy H2=>∃kvs k v,H2 a=some (.dK kvs)∧y=kV k∧gP kvs k=some v∧Q v (upd H2 a (.dK (pZ kvs k)))
section
variable{X:Cx}{o e f:Expr}{apos cpos:Pos}{td ty tx:TE}
theorem Ji(ho:PE X o td)(he:PE X e ty)(m:M1 X o "pop" apos e cpos):PE X (.Call (.Attribute o "pop" apos) [e] [] cpos) (An td ty):=by
 intro pins s σ H Q I h
 refine wpAny_Call_method m.base m.few m.line O7 P9 PySem.F.type_dict_pop (cG (ho pins s σ H _ I h) λu s1 ⟨x,H1,I1,rx,a,ex,d,q1⟩=>?_)
 subst ex
 obtain rfl:u=Value.ref a:=rx
 obtain⟨t1,t2,_⟩:=Jh I1 d
 refine⟨t1,t2,?_⟩
 rw[m.trees]
 refine Calls.callWith_builtin rfl (Calls.evalArgs_plain (Calls.spliced_cons (cG (he pins s1 σ H1 _ I1 q1) λiv s2 ⟨y,H2,I2,ry,kvs,k,v,ea,ey,l,q2⟩=>Calls.spliced_nil ?_)))
 subst ey
 exact Zj I2 ea ry l (.inl rfl) λw' s3 I3 Gi=>⟨v,_,I3,Gi,q2⟩
end
section
variable{X:Cx}{pins:List (Addr×Obj)}{σ:St}{H:Hp}{s:Shared}{a:Addr}{kvs:List (Key×V)}{A:Around}{E:Value→Shared→Prop}
end
section
variable{X:Cx}{pins:List (Addr×Obj)}{σ:St}{H:Hp}{s:Shared}{a:Addr}{y:V}{u:Value}{A:Around}{E:Value→Shared→Prop}
end
end L2
namespace Att
open PySem PySem.W PySem.Calls PyProof.Rows
theorem oV{P:Params}{h:Heap}:∀(ns:List Int)(vs:List Value),WellAll P h vs (ns.map WData.int)→IntsAre vs ns:=by
 intro ns
 induction ns with
 | nil=>
  intro vs w
  rw[D4]at w
  cases w
  exact .nil
 | cons n ns ih=>
  intro vs w
  rw[B3]at w
  cases w with
  | cons a b=>
   cases a
   exact .cons _ _ (ih _ b)
theorem Gm{l:OpenLaw}{n:Nat}(hn:l.most=some n){P:Params}{h:Heap}{args:List WData}{vals:List Value}
  (hpre:l.row.toRowW.claim.pre args=true) (hwl:WellAll P h vals args) :
  ∃a vs ns,vals=[Value.ref a]∧args=[WData.list (ns.map WData.int)]∧h.get? a=some {cls:=.type "list", data:=.seq vs.toArray}∧IntsAre vs ns∧ns.length≤n:=by
 have hsh:WShape.hasAll [] args [.list .int]=true:=(pre_splitW hpre).1
 have hc:l.pre.holds [] {args:=args}=true:=(pre_splitW hpre).2
 obtain⟨d,r,rfl,h1,h2⟩:=hasAllW_cons hsh
 obtain rfl:=hasAllW_nil h2
 obtain⟨xs,rfl,h3⟩:=hasW_list h1
 obtain⟨ns,rfl⟩:=items_int h3
 have hlen:ns.length≤n:=by
  unfold OpenLaw.pre at hc
  have h4:(WTm.not (.lt (.lit (.int (n:Int))) (.len (.arg 0)))).holds [] {args:=[.list (ns.map .int)]}=true:=by
   have h4:=(holds_andW hc).1
   rw[hn]at h4
   exact h4
  have h5:=condW_of h4 (w_not (w_lt w_lit (w_len_list (w_arg rfl))))
  rw[B4]at h5
  refine Nat.le_of_not_lt λq=>?_
  have q':(n:Int)<((ns.length:Nat):Int):=by omega
  first
   | (rw[decide_eq_true q']at h5;exact absurd h5 (by decide))
   | (simp at h5;omega)
 cases hwl with
 | cons w1 w2=>
  cases w2
  cases w1 with
  | list ho hall=>exact⟨_,_,ns,rfl,rfl,ho,oV ns _ hall,hlen⟩
theorem Gn(l:OpenLaw)(args:List WData):l.row.toRowW.claim.post args (.bool true) args=true:=
 postW_of (r:=l.row.toRowW) (X:=(true==true))
  (show WShape.has [] (.bool true) .bool=true by first | rfl | decide | simp[WShape.has,WShape.arms,WShape.armsAll])
  (show (WTm.eq .res (.lit (.bool true))).value [] {args:=args,res:=some (.bool true),after:=args}=some (.bool (true==true))from w_eq_bool (w_res rfl) w_lit) rfl
section
variable{prog:Program}{w:World}{A:Around}{E:Value→Shared→Prop}{s:Shared}{K:Frag}
end
end Att
namespace L2
open PySem PySem.Spec PyProof.Rows
theorem uQ:∀{vs:List Value} {ns:List Int},IntsAre vs ns→Vals (ns.map V.int) vs
 | _,_,.nil=>.nil
 | _,_,.cons n t h=>.cons ⟨t,rfl⟩ (uQ h)
def Only(H:Hp):Prop:=∀b,H b=none∨∃o xs,H b=some (.eV o (.lst xs))
theorem Jj{P:Program}{w:World}{K:aA}{mg mb:Str→Option Value}{CX:Gf}{k:Nat}{fa a:Addr}{fd:FuncData}{x:Str}{sp:Sp}{s₁:Shared}{vs:List Value}{ns:List Int}
  (KX:K.In s₁.heap) (hns:s₁.heap.Ns mainGlobals mg) (hb:s₁.heap.Ns builtinsNs mb) (hbb:∀x:Str,x ≠ "__name__" → mb x=bootBuiltins x) (hlim:s₁.heap.NoLimit) (hg:s₁.gens=#[])
  (ha:s₁.heap.get? a=some {cls:=.type "list", data:=.seq vs.toArray}) (hi:IntsAre vs ns) (hl:ns.length≤sizeLine) (hr:dH k callerA)
  (F:∀base:Heap,K.In base→base.Ns mainGlobals mg→mK P w K mg base CX k fa fd [x] sp) (hbind:∀(s:Shared)(u:Value),BindsTo s fd ⟨[u],[]⟩ [(x,u)])
  (hsp:∀H:Hp,Only H→gW K H a (ns.map V.int)→sp [.ref a] H (λv _=>v=.bl true) λ_ _ _=>False)
  (JG:∀H e s',CX [] H s₁ (λ_ _ _=>False) e s'→False) :
  codeAny (model P w) callerA (.call (.ref fa) ⟨[.ref a],[]⟩) (λr s'=>r=.ok (.ret (.bool true))∧OldK s₁.heap s'.heap∧s'.os=s₁.os∧AllBare s'.gens) s₁:=by
 have rv:=uQ hi
 have lenV:=hi.length
 have core:∀H:Hp,Only H→gW K H a (ns.map V.int)→jU P w H s₁.heap→(∀b,H b≠none→b=a)→(H a≠none→K.lookup a=none) →
   codeAny (model P w) callerA (.call (.ref fa) ⟨[.ref a],[]⟩) (λr s'=>r=.ok (.ret (.bool true))∧OldK s₁.heap s'.heap∧s'.os=s₁.os∧AllBare s'.gens) s₁:=by
  intro H hO hS hok hA hK
  have Dl:∀{b:Addr} {o:Obj},s₁.heap.get? b=some o→H b=none→(vM s₁.heap H).get? b=some o:=λe n=>Ik e n
  have Yz:∀{b:Addr} {o:Obj} {es:Array DictEntry} {ep:Nat},s₁.heap.get? b=some o→o.data=.dict es ep→H b=none:=λ{b o es ep} e d=>by
   cases q:H b with
   | none=>rfl
   | some u=>
    have e':b=a:=hA b (by rw[q];simp)
    subst e'
    rw[ha]at e;cases e
    have d':Data.seq vs.toArray _=Data.dict es ep:=d
    cases d'
  have FJ:∀{b:Addr} {m:Str→Option Value},s₁.heap.Ns b m→(vM s₁.heap H).Ns b m:=λ{b m} ⟨o,es,ep,e,d,r⟩=>⟨o,es,ep,Dl e (Yz e d),d,r⟩
  have NB:K.In (vM s₁.heap H):=λb o e=>Dl (KX b o e) (by
   cases q:H b with
   | none=>rfl
   | some u=>
    have e':b=a:=hA b (by rw[q];simp)
    subst e'
    rw[hK (by rw[q];simp)]at e;cases e)
  have hM:Mod K mg (vM s₁.heap H):=⟨NB,FJ hns,⟨mb,FJ hb,hbb⟩,let ⟨mc,h1,h2⟩:=hlim;⟨mc,FJ h1,h2⟩⟩
  have e0:Oi P w K mg (vM s₁.heap H) callerA [] s₁ H:=⟨rfl,hM,λb o e=>Nu e,Nat.le_of_eq (Fx _ _),trivial,λb hb=>absurd (show b∈([]:List Addr)from hb) (by simp),hok,.of_eq hg⟩
  refine codeAny_mono ((F _ NB (FJ hns)).run callerA [] s₁ H ⟨[.ref a],[]⟩ [.ref a] [.ref a] _ _ hr e0 (hbind s₁ (.ref a)) (.cons rfl .nil) (hsp H hO hS)) λr s' h=>?_
  cases r with
  | error e=>exact(JG H e s' h).elim
  | ok fl=>
   cases fl with
   | next=>exact False.elim h
   | brk=>exact False.elim h
   | cont=>exact False.elim h
   | ret u=>
    obtain⟨v,H',os,bare,un,hok',r',q⟩:=h
    have q':v=.bl true:=q
    subst q'
    obtain rfl:u=Value.bool true:=r'
    refine⟨rfl,OldK.of_keep λb o e=>?_,os,bare⟩
    cases q:H b with
    | none=>exact un.keep b o e q (by intro z;exact absurd (show b∈([]:List Addr)from z) (by simp)) (by simp)
    | some u=>
     rcases hO b with z | ⟨ob,xs,z⟩
     ·rw[q]at z;cases z
     ·have z2:=un.tU b ob _ z
      obtain⟨e1,_⟩:=hok b _ z
      obtain⟨e2,_⟩:=hok' b _ z2
      rw[e]at e1;cases e1
      exact e2
 cases hk:K.lookup a with
 | some o=>
  have e:=KX a o hk
  rw[ha]at e
  cases e
  refine core (λ_=>none) (λ_=>.inl rfl) (.inr ⟨_,vs.toArray,_,hk,rfl,rfl,rfl,by rw[B0,lenV];exact hl,by simpa using rv⟩) (λb u z=>by have z':(none:Option HO)=some u:=z;cases z') (λb z=>absurd rfl z) λz=>absurd rfl z
 | none=>
  refine core (λb=>if b=a then some (.eV {cls:=.type "list", data:=.seq vs.toArray} (.lst (ns.map V.int)))else none) (λb=>?_) (.inl (.inr ⟨{cls:=.type "list", data:=.seq vs.toArray},if_pos rfl⟩)) (λb u z=>?_) (λb z=>?_) λ_=>hk
  ·by_cases hb:b=a
   ·exact .inr ⟨_,_,if_pos hb⟩
   ·exact .inl (if_neg hb)
  ·by_cases hb:b=a
   ·have z':=(if_pos hb).symm.trans z
    cases z'
    subst hb
    exact⟨ha,by rw[B4];exact hl,vs,_,rv,ha⟩
   ·have z':=(if_neg hb).symm.trans z
    cases z'
  ·by_cases hb:b=a
   ·exact hb
   ·exact absurd (if_neg hb) z
end L2
namespace L2
open PySem PySem.Spec PyProof.Rows
end L2
namespace L2
open PySem PySem.Spec PyProof.Rows
def cB(s:Stmt):Arguments:=match s with
 | .FunctionDef _ a _ _ _ _ _ _ _ _=>a
 | _=>{posonlyargs:=[],args:=[],vararg:=none,kwonlyargs:=[],kw_defaults:=[],kwarg:=none,defaults:=[]}
def bK(s:Stmt):List Stmt:=match s with
 | .FunctionDef _ _ b _ _ _ _ _ _ _=>b
 | _=>[]
def aH(s:Stmt):Scope:=match s with
 | .FunctionDef _ _ _ _ _ _ sc _ _ _=>sc
 | _=>{kind:=.function,names:=[],isGenerator:=false,isCoroutine:=false}
abbrev Ie:Gf:=λ_ _ _ _ _ _=>False
abbrev E0:XK:=λ_ _ _=>False
theorem Zk{X:Cx}:Passes Ie X E0:=λ_ _ _ _ _ _ _ h=>h.elim
structure Nm(K:aA)(x qual:Str)(st:Stmt)(f:Addr)(fd:FuncData):Prop where
 ex:∃(oc:Value)(od:Option Addr)(kV doc pm:Value)(an:Option Addr)(cdv ct:Value)(osl:Array (Option Value)),
  fd=E9 x qual (cB st) (bK st) (aH st) .none kV doc pm an cdv ct∧K.lookup f=some ⟨oc,od,.func fd,osl⟩∧J7 K cdv qual=true
 kp:G0 K (.ref f)=true
section
variable{P:Program}{w:World}{K:aA}{mg:Str→Option Value}{base:Heap}
theorem Nm.ok{x qual:Str}{st:Stmt}{f:Addr}{fd:FuncData}{N ps:List Str}{k:Nat}{sp:Sp}(F:Nm K x qual st f fd)(S:bJ N ps (aH st))(len:∀vs H Q E,sp vs H Q E→vs.length=ps.length)
  (hbody:∀(cdv:Value)(A:Around)(outer:List Env)(s:Shared)(H:Hp)(vs:List V)(Q:VK)(E:XK),dH k (A.deeper (envOfC qual (aH st) s.heap.objs.size f cdv))→sp vs H Q E →
   ∃t,Af (vV Ie P w K mg base N qual (aH st) f cdv A outer s H E).Uo (bK st) t∧t {nx:=λ_ H'=>Q .non H',rt:=Q} (start N vs) H):mK P w K mg base Ie (k+1) f fd ps sp:=by
 obtain⟨oc,od,kV,doc,pm,an,cdv,ct,osl,rfl,lk,hcd⟩:=F.ex
 refine Za lk hcd S len λA outer s H vs Q E hr hsp=>?_
 obtain⟨t,h,q⟩:=hbody cdv A outer s H vs Q E hr hsp
 exact⟨t,h.Uo,q⟩
theorem Nm.binds{x qual:Str}{st:Stmt}{f:Addr}{fd:FuncData}{ps:List Str}(F:Nm K x qual st f fd)
  (h:∀(kV doc pm:Value)(an:Option Addr)(cdv ct:Value)(us:List Value),us.length=ps.length→bindArgs (E9 x qual (cB st) (bK st) (aH st) .none kV doc pm an cdv ct) ⟨us,[]⟩=pure (ps.zip us)):Binds K fd ps []:=by
 obtain⟨oc,od,kV,doc,pm,an,cdv,ct,osl,rfl,lk,hcd⟩:=F.ex
 exact .all (h kV doc pm an cdv ct)
theorem Vo{x qual:Str}{st:Stmt}{f:Addr}{oc:Value}{od an:Option Addr}{osl:Array (Option Value)}{kV doc pm cdv ct:Value}(l:K.lookup f=some ⟨oc,od,.func (E9 x qual (cB st) (bK st) (aH st) .none kV doc pm an cdv ct),osl⟩)
  (c:J7 K cdv qual=true) (k:G0 K (.ref f)=true):Nm K x qual st f (E9 x qual (cB st) (bK st) (aH st) .none kV doc pm an cdv ct):=⟨⟨oc,od,kV,doc,pm,an,cdv,ct,osl,rfl,l,c⟩,k⟩
end
theorem gZ{A:Around}{k:Nat}(hr:dH k A):A.units+1<cLine:=R5 (Nat.add_le_add_left (by decide:1≤64) _) hr.units
theorem uR{n:Nat}(h:n≤1000):n<sizeLine:=R5 h (by decide)
section
variable{X:Cx}
theorem pv(i:Nat){x:Str}{pos:Pos}(hN:X.N[i]?=some x:=by rfl)(hv:DR X.env.scope x:=by first | exact F6 rfl | exact F4 (F6 rfl) | exact F4 (F4 rfl))(hd:(x==("__debug__" : Str))=false:=by decide)
  (hcd:(x==("__classdict__" : Str))=false:=by decide):PE X (.Name x pos) (tV i):=Tz hN hv hd hcd
end
def aD(H H':Hp):Prop:=∀b o,H b=some o→H' b=some o
theorem aD.refl(H:Hp):aD H H:=λ_ _ h=>h
theorem aD.trans{H H1 H2:Hp}(a:aD H H1)(b:aD H1 H2):aD H H2:=λc o h=>b c o (a c o h)
theorem aD.free{H H':Hp}(e:aD H H'){l:Addr}(h:H' l=U5):H l=U5:=by
 cases q:H l with
 | none=>rfl
 | some o=>
  rw[e l o q]at h
  cases h
theorem aD.seq{K:aA}{H H':Hp}{a:Addr}{xs:List V}(e:aD H H')(h:gW K H a xs):gW K H' a xs:=by
 rcases h with (h | ⟨o,h⟩) | h
 ·exact .inl (.inl (e _ _ h))
 ·exact .inl (.inr ⟨o,e _ _ h⟩)
 ·exact .inr h
section
variable{κ:Type} [DecidableEq κ]
end
end L2


namespace L2
open PySem PySem.Spec PyProof.Rows
theorem kE(env:Env):∀(names:List (Str×NameKind))(acc:List (Str×Addr)),(∀x∈names,x.2=.free→∃c,env.cells.lookup x.1=some c) →
    ∃cl:List (Str×Addr),(forIn names acc (λ(x:Str×NameKind) (r:List (Str×Addr))=>(match x with
      | (name,kind)=>if(kind==.free)=true then do let c ←cellOf env name;pure (ForInStep.yield ((name,c)::r))else pure (ForInStep.yield r):Sem (ForInStep (List (Str×Addr))))))=pure cl ∧
      (∀x c,cl.lookup x=some c→(∃k,(x,k)∈names∧k=.free∧env.cells.lookup x=some c)∨acc.lookup x=some c) ∧
      (∀x,(x,NameKind.free)∈names→∃c,cl.lookup x=some c)∧(∀x c,acc.lookup x=some c→∃c',cl.lookup x=some c')
  | [],acc,_=>⟨acc,rfl,λx c h=>.inr h,λx h=>by simp at h,λx c h=>⟨c,h⟩⟩
  | (n,k)::r,acc,h=>by
    rw[List.forIn_cons]
    by_cases hk:k=.free
    · subst hk
      obtain⟨c,hc⟩:=h (n,.free) C9 rfl
      obtain⟨cl,e,h1,h2,h3⟩:=kE env r ((n,c)::acc) λx hx=>h x (C5 _ hx)
      refine⟨cl,?_,λx d hd=>?_,λx hx=>?_,λx d hd=>?_⟩
      · have e0:cellOf env n=pure c:=by unfold cellOf;rw[hc]
        simp only[beq_self_eq_true,if_true,e0,pure_bind]
        exact e
      · rcases h1 x d hd with ⟨k',m,q⟩ | q
        · exact .inl ⟨k',C5 _ m,q⟩
        · rw[L5]at q
          by_cases e:x==n
          · rw[e]at q
            have e':=eq_of_beq e
            subst e'
            cases q
            exact .inl ⟨.free,C9,rfl,hc⟩
          · have e':(x==n)=false:=by simpa using e
            rw[e']at q
            exact .inr q
      · rcases E3.mp hx with q | q
        · cases q
          exact h3 n c (by simp)
        · exact h2 x q
      · by_cases e:x==n
        · exact h3 x c (by rw[L5,e])
        · have e':(x==n)=false:=by simpa using e
          exact h3 x d (by rw[L5,e'];exact hd)
    · obtain⟨cl,e,h1,h2,h3⟩:=kE env r acc λx hx=>h x (C5 _ hx)
      have hb:(k==NameKind.free)=false:=by simpa using hk
      refine⟨cl,?_,λx d hd=>?_,λx hx=>?_,h3⟩
      · simp only[hb,N0,if_false,pure_bind]
        exact e
      · rcases h1 x d hd with ⟨k',m,q⟩ | q
        · exact .inl ⟨k',C5 _ m,q⟩
        · exact .inr q
      · rcases E3.mp hx with q | q
        · cases q
          exact absurd rfl hk
        · exact h2 x q
theorem jV(scope:Scope)(env:Env)(h:∀x∈scope.names,x.2=.free→∃c,env.cells.lookup x.1=some c) :
    ∃cl,closureFor scope env=pure cl∧(∀x c,cl.lookup x=some c→(x,NameKind.free)∈scope.names∧env.cells.lookup x=some c)∧∀x,(x,NameKind.free)∈scope.names→∃c,cl.lookup x=some c:=by
  obtain⟨cl,e,h1,h2,_⟩:=kE env scope.names [] h
  refine⟨cl,?_,λx c hx=>?_,h2⟩
  · unfold closureFor
    exact(congrArg (λt=>t >>= pure) e).trans (pure_bind _ _)
  · rcases h1 x c hx with ⟨k,m,rfl,q⟩ | q
    · exact⟨m,q⟩
    · simp at q
theorem wC{scope:Scope}{env:Env}(hcell:∀y∈scope.names,y.2≠.cell){x:Str}(h:(relabel scope env).names.lookup x=some .cell∨(relabel scope env).names.lookup x=some .free):(x,NameKind.free)∈scope.names:=by
 have m:(x,NameKind.cell)∈(relabel scope env).names∨(x,NameKind.free)∈(relabel scope env).names:=by
  rcases h with h | h
  ·exact .inl (G2 h)
  ·exact .inr (G2 h)
 unfold relabel at m
 rcases m with m | m
 all_goals
  obtain⟨⟨n,k⟩,hm,e⟩:=D8.mp m
  dsimp only at e
  split at e
  ·rename_i hc
   simp only[G8,beq_iff_eq]at hc
   cases e
   first
    | (rw[hc.1.1]at hm;exact hm)
    | skip
  ·cases e
   first
    | exact hm
    | exact absurd rfl (hcell _ hm)
def bO(X:Cx)(scope:Scope)(N:List Str)(cl:List (Str×Addr))(fp:List Addr)(s:Shared)(H:Hp)(C:Addr):Cx where
 prog:=X.prog
 w:=X.w
 K:=X.K
 mg:=X.mg
 base:=X.base
 A:=X.A
 N:=N
 s₀:=s
 H₀:=H
 env:=compEnvC scope cl C X.env
 outer:=X.stack
 stack:=X.stack
 ex:=fp
 calm:=X.calm
 fn:=λ_=>false
 pn:=[]
 xe:=λ_ _=>False
def wD(σ:St)(fr:List Nat):St:=fr.map λi=>σ.getD i none
def blk(k:Nat)(σ:St)(fr:List Nat):St:=E2 k none++wD σ fr
def Kp(k:Nat)(σ:St)(fr:List Nat)(σ2:St):Prop:=σ2.length=(blk k σ fr).length∧∀(j:Nat) v,(blk k σ fr)[j]?=some (some v)→σ2[j]?=some (some v)
def Vp(X:Cx)(ifs:List Expr)(t:TT):Prop:=
 ∀(pins:List (Addr×Obj))(s:Shared)(σ:St)(H:Hp)(Q:Bool→Hp→Prop),Inv X pins σ H s→t σ H Q →
  wpAny (model X.prog X.w) X.A (forIn ifs true λc r=>if r=true then do let ok ←isTrue c X.env (eval c X.env);pure (ForInStep.yield ok)else pure (ForInStep.yield r)) (TP X pins σ Q) X.xe s
def Jk:TT:=λ_ H Q=>Q true H
theorem Pg{X:Cx}:Vp X [] Jk:=λ_ _ _ H _ I h=>wpAny_tests_nil ⟨H,I,h⟩
theorem Ph{X:Cx}{c:Expr}{t:TT}(h:PT X c t):Vp X [c] t:=λpins s σ H Q I q=>wpAny_tests_one (h pins s σ H Q I q)
theorem jR{prog:Program}{w:World}{A:Around}{R:Result→Shared→Prop}{s:Shared}{elt target iter:Expr}{ifs:List Expr}{scope:Scope}{pos:Pos}{it acc:Value}{env:Env}(I:Nat→Shared→Prop)
  (turn:∀n s,I n s→wpAny (model prog w) A (pyNext it) (λr s₁=>match r with
   | none=>R (.ok .next) s₁
   | some v=>wpAny (model prog w) A (letOwnedTupleGo target it v) (λ_ s₀=>wpAny (model prog w) A (assign target env v) (λ_ s₂=>
     wpAny (model prog w) A (forIn ifs true λc r=>if r=true then do let ok ←isTrue c env (eval c env);pure (ForInStep.yield ok)else pure (ForInStep.yield r)) (λok s₃=>
      if ok=true then wpAny (model prog w) A (eval elt env) (λx s₄=>
       wpAny (model prog w) A (call (.builtin "list.append") [acc,x]) (λ_ s₅=>∃m,m<n∧I m s₅) (λ_ _=>False) s₄) (λ_ _=>False) s₃
      else ∃m,m<n∧I m s₃) (λ_ _=>False) s₂) (λ_ _=>False) s₀) (λ_ _=>False) s₁) (λ_ _=>False) s)
  (n:Nat) (h:I n s) :
  codeAny (model prog w) A (.compLoop (.ListComp elt [⟨target,iter,ifs,0⟩] scope pos) 0 it acc env) R s:=by
 refine codeAny_loop rfl I (λn s hI=>?_) n h
 show wpAny _ A ((compTurn (.ListComp elt [⟨target,iter,ifs,0⟩] scope pos) 0 it acc env).onRaise (λx=>do noteFrame x env;theTreesLotGoes x)) _ _ s
 refine wpAny_noted ?_
 rw[compTurn_list]
 refine wpAny_mono (E:=λ_ _=>False) ?_ (λ_ _ q=>q) λ_ _ x=>x.elim
 refine wpAny_bind (wpAny_standAt (wpAny_bind (wpAny_mono (turn n s hI) (λr s₁ h₁=>?_) λ_ _ h'=>h')))
 cases r with
 | none=>exact wpAny_pure h₁
 | some v=>
  refine wpAny_bind (wpAny_mono h₁ (λ_ s₀ h₀=>?_) λ_ _ h'=>h')
  refine wpAny_bind (wpAny_mono h₀ (λ_ s₂ h₂=>wpAny_bind (wpAny_mono h₂ (λok s₃ h₃=>?_) λ_ _ h'=>h')) λ_ _ h'=>h')
  cases ok with
  | false=>exact wpAny_pure ⟨rfl,h₃⟩
  | true=>
   exact wpAny_bind (wpAny_bind (wpAny_mono h₃ (λx s₄ h₄=>wpAny_bind (wpAny_mono h₄ (λ_ s₅ h₅=>wpAny_pure (wpAny_pure ⟨rfl,h₅⟩)) λ_ _ h'=>h')) λ_ _ h'=>h'))
def Sg(J:It)(k:Nat)(fr:List Nat)(g:TG)(tc:TT)(te:TE)(σ:St)(H1:Hp)(Q:VK)(D:Addr):Prop:=∃W:Nat→Nat→List V→Hp→Prop,(∃m,W 0 m [] (upd H1 D (.lst []))) ∧
 ∀i m ys H,W i m ys H→H D=some (.lst ys)∧((J.stop i H∧Q (.ref D) H)∨(J.go i H∧∀x H',J.Ys i H x H'→g x (blk k σ fr) H' λσ2 H2=>Kp k σ fr σ2∧tc σ2 H2 λok H3=>if ok=true then
  te σ2 H3 λy H4=>H4 D=some (.lst ys)∧ys.length<sizeLine∧∃m',m'<m∧W (i+1) m' (ys++[y]) (upd H4 D (.lst (ys++[y])))else ∃m',m'<m∧W (i+1) m' ys H3))
def lJ(wi:TI)(k:Nat)(fr:List Nat)(g:TG)(tc:TT)(te:TE):TE:=λσ H Q=>wi σ H λJ H1=>∀D,H1 D=none→Sg J k fr g tc te σ H1 Q D
def cP(scope mG:Scope):Scope:=
 {scope with names:=scope.names.map λ(n,k)=>if(k==.free&&mG.kind==.function&&mG.names.lookup n==some .cell)then(n,.cell)else(n,k)}
structure bW(mG scope:Scope)(oN N:List Str)(k:Nat)(fr:List Nat):Prop where
 kind:scope.kind=.function
 cell:∀y∈scope.names,y.2≠.cell
 loc:∀y∈scope.names,y.2=.local→scope.names.lookup y.1=some .local
 free:∀y∈scope.names,y.2=.free→mG.names.lookup y.1=some .cell∨mG.names.lookup y.1=some .free
 len:N.length=k+fr.length
 slots:∀j∈D6 fr.length,oN[fr.getD j 0]?=N[k+j]?
 from_:∀x∈N.drop k,(x,NameKind.free)∈scope.names∧((cP scope mG).names.lookup x=some .cell∨(cP scope mG).names.lookup x=some .free)
def Jl(mG scope:Scope)(oN N:List Str)(k:Nat)(fr:List Nat):Bool:=
 decide (scope.kind=.function)&&decide (∀y∈scope.names,y.2≠.cell)&&decide (∀y∈scope.names,y.2=.local→scope.names.lookup y.1=some .local) &&
 decide (∀y∈scope.names,y.2=.free→mG.names.lookup y.1=some .cell∨mG.names.lookup y.1=some .free)&&decide (N.length=k+fr.length) &&
 decide (∀j∈D6 fr.length,oN[fr.getD j 0]?=N[k+j]?) &&
 decide (∀x∈N.drop k,(x,NameKind.free)∈scope.names∧((cP scope mG).names.lookup x=some .cell∨(cP scope mG).names.lookup x=some .free))
theorem bW.of{mG scope:Scope}{oN N:List Str}{k:Nat}{fr:List Nat}(h:Jl mG scope oN N k fr=true):bW mG scope oN N k fr:=by
 unfold Jl at h
 simp only[G8,decide_eq_true_eq]at h
 obtain⟨⟨⟨⟨⟨⟨h1,h2⟩,h3⟩,h4⟩,h5⟩,h6⟩,h7⟩:=h
 exact⟨h1,h2,h3,h4,h5,h6,h7⟩
section
variable{X:Cx}
theorem Pj{k:Nat}{σ:St}{fr:List Nat}{i:Nat}{v:V}(h:(blk k σ fr)[i]?=some (some v)):∃j o,i=k+j∧fr[j]?=some o∧σ[o]?=some (some v):=by
 unfold blk at h
 by_cases hi:i<k
 ·rw[N9 (by simpa using hi),O6]at h
  rw[if_pos hi]at h
  cases h
 ·rw[N2 (by simpa using hi),P8]at h
  unfold wD at h
  rw[C4]at h
  cases e:fr[i-k]? with
  | none=>rw[e]at h;cases h
  | some o=>
   rw[e]at h
   refine⟨i-k,o,by omega,e,?_⟩
   have h:some (σ.getD o none)=some (some v):=h
   have h:=D9 h
   rw[B7]at h
   cases e2:σ[o]? with
   | none=>rw[e2]at h;cases h
   | some z=>rw[e2]at h;exact congrArg some h
theorem Ao{pins:List (Addr×Obj)}{σ:St}{H:Hp}{s:Shared}{scope:Scope}{N:List Str}{k:Nat}{fr:List Nat}{cl:List (Str×Addr)}{fp:List Addr}{h₁:Heap}{tk:Nat}{m:Str→Option Value}
    (I:Inv X pins σ H s) (B:bW X.env.scope scope X.N N k fr) (hf:∀b∈fp,vQ X pins H b) (hfo:∀b∈fp,b<s.heap.objs.size)
    (hcl:∀x c,cl.lookup x=some c→(x,NameKind.free)∈scope.names∧X.env.cells.lookup x=some c) (Pk:∀x,(x,NameKind.free)∈scope.names→∃c,cl.lookup x=some c)
    (hn:h₁.Ns (s.heap.objs.size+1) m) (hs:Heap.SameBut (s.heap.objs.size+1) ((s.heap.push {cls:=.type "list", data:=.seq ([]:List Value).toArray}).push {cls:=.type "dict", data:=.dict #[]}) h₁) :
    Inv (bO X scope N cl fp s H (s.heap.objs.size+1)) [] (blk k σ fr) (upd H s.heap.objs.size (.lst [])) {s with heap:=h₁,toks:=tk}:=by
  have I3:=I.Zg (ys:=[]) (its:=[]) (t':=tk) .nil (F9 _)
  have hD:H s.heap.objs.size=none:=I.fresh
  have hC:H (s.heap.objs.size+1)=none:=I.hok.fresh (K1 _)
  have Ye:∀b o,(s.heap.push {cls:=.type "list", data:=.seq ([]:List Value).toArray}).get? b=some o→b≠s.heap.objs.size+1:=λb o e=>by
    have:=Heap.lt_size e
    rw[Heap.size_push]at this
    exact C3 this
  have Sh:∀b o,(s.heap.push {cls:=.type "list", data:=.seq ([]:List Value).toArray}).get? b=some o→h₁.get? b=some o:=λb o e=>
    hs.extBut b o (Ye b o e) (Heap.get?_push_of_some _ e)
  have kept:∀b o,s.heap.get? b=some o→h₁.get? b=some o:=λb o e=>Sh b o (Heap.get?_push_of_some _ e)
  refine⟨⟨I.ok.mod,B.kind,I.ok.glob,I.ok.blt,K1 _,λx y c h1 h2=>I.ok.inj x y c (hcl x c h1).2 (hcl y c h2).2,λx hx=>Pk x (wC B.cell hx),λx c h _=>(nomatch h),
      I.ok.hd,I.ok.frames,.inl rfl,λb hb=>⟨?_,λx c e=>(hf b hb).2.2.2.2.1 x c (hcl x c e).2⟩,λb o e=>I.bs b o e,E7 I.ok.Rn I.sz,λb o e hb=>?_,λb hb hb2=>?_,I.stack,I.Dc⟩,
    rfl,I.bare,Un.laid kept (B6 _) hD,⟨m,hn,λi x v h1 h2 h3=>?_⟩,λx c e=>?_,?_,λx c e=>?_,λp hp=>absurd (show p∈([]:List (Addr×Obj))from hp) (by simp),?_,?_⟩
  · exact C3 (F5 (hfo b hb))
  · rcases(hf b hb).2.2.2.1 with z | z
    · exact I.ok.Il b o e z
    · exact absurd (B8 (Heap.lt_size e) (E7 I.ok.Rn z)) (F1 _)
  · rcases E3.mp (I.vO b hb2)with z | z
    · exact(hf b hb).2.1 z
    · exact(hf b hb).2.2.1 z
  · obtain⟨j,o,rfl,h4,h5⟩:=Pj h2
    have h1:N[k+j]?=some x:=h1
    have hj:j<fr.length:=(B9.mp h4).1
    have hx:X.N[o]?=some x:=by
      have q:=B.slots j (J3.mpr hj)
      rw[B7,h4]at q
      exact q.trans h1
    obtain⟨hfr,QS⟩:=B.from_ x (E8 (i:=j) (by rw[N1];exact h1))
    have hk:=B.free _ hfr rfl
    obtain⟨m0,hn0,hl0⟩:=I.loc
    have hv:DR X.env.scope x:=by
      rcases hk with q | q
      · exact .inr (.inl q)
      · exact .inr (.inr q)
    obtain⟨u,r,l⟩:=hl0 o x v hx h5 hv
    refine⟨u,r,.inr ?_⟩
    rcases l with ⟨q,_⟩ | ⟨_,c,e,z⟩
    · rcases hk with q' | q'
      · exact absurd (q.symm.trans q') (by intro z;cases z)
      · exact absurd (q.symm.trans q') (by intro z;cases z)
    · obtain⟨c',e'⟩:=Pk x hfr
      have e2:=(hcl x c' e').2
      rw[e]at e2
      cases e2
      refine⟨QS,c,e',?_⟩
      obtain⟨oc,hoc,hd⟩:=z
      exact⟨oc,kept c oc hoc,hd⟩
  · obtain⟨v,oc,hoc,hd⟩:=I.cell x c (hcl x c e).2
    exact⟨v,oc,kept c oc hoc,hd⟩
  · show upd H s.heap.objs.size (.lst []) (s.heap.objs.size+1)=none
    rw[aJ (J6 (S6 _))]
    exact hC
  · have hc:=(hcl x c e).2
    obtain⟨v,oc,hoc,hd⟩:=I.cell x c hc
    show upd H s.heap.objs.size (.lst []) c=none
    rw[aJ (C3 (Heap.lt_size hoc))]
    exact I.gK x c hc
  · exact jU.kept I3.hok Sh
  · show (blk k σ fr).length=N.length
    rw[B.len]
    unfold blk wD
    simp
theorem yH{tg elt iter:Expr}{ifs:List Expr}{scope:Scope}{pos:Pos}{N:List Str}{k:Nat}{fr:List Nat}{g:TG}{tc:TT}{te:TE}{cl:List (Str×Addr)}{pins:List (Addr×Obj)}{σ:St}{H:Hp}{s:Shared}{it:Addr}{fp:List Addr}{tn:Nat→Heap→Prop}{J:It}{Q:VK}
    {RR:Value→Addr→Result→Shared→Prop} {E:Value→Shared→Prop} (hcalm:X.calm=true) (I:Inv X pins σ H s) (T:Turn X.prog X.w X.K tg J fp it tn) (st:tn 0 s.heap) (hf:∀b∈fp,vQ X pins H b) (B:bW X.env.scope scope X.N N k fr)
    (hcl:∀x c,cl.lookup x=some c→(x,NameKind.free)∈scope.names∧X.env.cells.lookup x=some c) (Pk:∀x,(x,NameKind.free)∈scope.names→∃c,cl.lookup x=some c)
    (hg:∀cl fp s H C,PG (bO X scope N cl fp s H C) tg g) (hc:∀cl fp s H C,Vp (bO X scope N cl fp s H C) ifs tc) (he:∀cl fp s H C,PE (bO X scope N cl fp s H C) elt te)
    (hw:∀D,H D=none→Sg J k fr g tc te σ H Q D)
    (hRR:∀D C m s' H',s'.heap.Ns C m→s.heap.objs.size≤C→H' C=none→C≠D→Inv X pins σ H' s'→Q (.ref D) H'→RR (.ref D) C (.ok .next) s') :
    wpAny (model X.prog X.w) X.A (newList []) (λacc s₃=>wpAny (model X.prog X.w) X.A (newFunctionEnv scope X.env.globals cl [] X.env.qual none .none (some X.env)) (λcenv s₄=>
      codeAny (model X.prog X.w) X.A (.compStart (.ListComp elt [⟨tg,iter,ifs,0⟩] scope pos) 0 (.ref it) acc {cenv with scope:=relabel scope X.env}) (RR acc cenv.locals) s₄) E s₃) E s:=by
  refine wpAny_newObj_type (wpAny_newFunctionEnv B.cell (by intro y hy;simp at hy) (λh₁ hns₁ hsb₁=>?_) B.kind)
  dsimp only at hns₁ hsb₁ ⊢
  rw[Heap.size_push]at hns₁ hsb₁ ⊢
  have hfo:∀b∈fp,b<s.heap.objs.size:=λb hb=>by
    obtain⟨o,e,_⟩:=T.obj 0 _ st b hb
    exact Heap.lt_size e
  have I4:=Ao (tk:=s.toks+([]:List (Str×Value)).length) I B hf hfo hcl Pk hns₁ hsb₁
  generalize hD:s.heap.objs.size=D at *
  have QT:H D=none:=by rw[←hD];exact I.fresh
  obtain⟨W,⟨m0,w0⟩,turn⟩:=hw D QT
  have st1:tn 0 h₁:=T.keep 0 _ _ st λb hb o e=>hsb₁.extBut b o (C3 (F5 (by have:=hfo b hb;exact this))) (Heap.get?_push_of_some _ (Heap.get?_push_of_some _ e))
  have QV:∀b∈fp,(upd H D (.lst [])) b=none:=λb hb=>by
    rw[aJ (C3 (hfo b hb))]
    exact(hf b hb).1
  generalize hX':bO X scope N cl fp s H (D+1)=X' at I4
  have stat:∀{H':Hp},(∀b∈fp,H' b=none)→∀b∈fp,vQ X' [] H' b:=λ{H'} hn b hb=>by
    subst hX'
    refine⟨hn b hb,?_,λz=>?_,.inl hb,λx c e=>(hf b hb).2.2.2.2.1 x c (hcl x c e).2,λp hp=>absurd (show p∈([]:List (Addr×Obj))from hp) (by simp)⟩
    · exact C3 (F5 (hfo b hb))
    · rcases E3.mp (I.vO b z)with z | z
      · exact(hf b hb).2.1 z
      · exact(hf b hb).2.2.1 z
  have loop:∀s₃:Shared,s₃={s with heap:=h₁,toks:=s.toks+([]:List (Str×Value)).length} →
      codeAny (model X.prog X.w) X.A (.compLoop (.ListComp elt [⟨tg,iter,ifs,0⟩] scope pos) 0 (.ref it) (.ref D) (compEnvC scope cl (D+1) X.env)) (RR (.ref D) (D+1)) s₃:=by
    rintro s₃ rfl
    refine jR (λn s'=>∃i ys H',Inv X' [] (blk k σ fr) H' s'∧tn i s'.heap∧(∀b∈fp,H' b=none)∧W i n ys H') ?_ m0 ⟨0,[],_,I4,st1,QV,w0⟩
    rintro n s5 ⟨i,ys,H5,I5,st5,fr5,w5⟩
    obtain⟨hys,way⟩:=turn i n ys H5 w5
    have e1:X'.prog=X.prog:=by rw[←hX'];rfl
    have e2:X'.w=X.w:=by rw[←hX'];rfl
    have e3:X'.K=X.K:=by rw[←hX'];rfl
    have e4:X'.A=X.A:=by rw[←hX'];rfl
    have e5:X'.calm=true:=by rw[←hX'];exact hcalm
    have e6:X'.env=compEnvC scope cl (D+1) X.env:=by rw[←hX'];rfl
    have e7:X'.xe=λ_ _=>False:=by rw[←hX'];rfl
    rcases way with ⟨stop,q⟩ | ⟨go,step⟩
    · have d:=T.done X' e1 e2 e3 e5 i [] s5 _ H5 (λ_ _=>False) I5 (stat fr5) st5 stop
      rw[e4]at d
      refine cG d λr s6 ⟨hr,I6⟩=>?_
      subst hr
      subst hX'
      obtain⟨m6,QW,_⟩:=I6.loc
      refine hRR D (D+1) m6 s6 H5 QW (K1 _) I6.free (J6 (S6 _)) ?_ q
      exact I.call' I6.os I6.base I6.hok I6.bare λb hb=>⟨(hf b hb).2.2.2.1,(hf b hb).2.1,(hf b hb).2.2.2.2.1,(hf b hb).2.2.2.2.2⟩
    · have d:=T.item X' e1 e2 e3 e5 i [] s5 _ H5 (λ_ _=>False) I5 (stat fr5) st5 go
      rw[e4]at d
      refine cG d λr s6 ⟨u,hr,h6⟩=>?_
      subst hr
      refine cG h6 λ_ s7 ⟨x,H7,I7,r7,y7,st7,fr7⟩=>?_
      have QX:=I7.pinned (stat fr7) (T.obj _ _ st7)
      have hg':PG X' tg g:=by rw[←hX'];exact hg _ _ _ _ _
      have hc':Vp X' ifs tc:=by rw[←hX'];exact hc _ _ _ _ _
      have he':PE X' elt te:=by rw[←hX'];exact he _ _ _ _ _
      have a1:=hg' _ s7 _ H7 x u _ QX r7 (step x H7 y7)
      rw[e1,e2,e4,e6,e7]at a1
      refine cG a1 λ_ s8 ⟨σ8,H8,I8,⟨kl,kk⟩,q8⟩=>?_
      have a2:=hc' _ s8 σ8 H8 _ I8 q8
      rw[e1,e2,e4,e6,e7]at a2
      refine cG a2 λok s9 ⟨H9,I9,q9⟩=>?_
      have again:∀{Ha:Hp} {ya:List V} {sa:Shared},Inv X' ([]++pX fp s7.heap) σ8 Ha sa→(∃m',m'<n∧W (i+1) m' ya Ha) →
          ∃m,m<n∧∃i ys H',Inv X' [] (blk k σ fr) H' sa∧tn i sa.heap∧(∀b∈fp,H' b=none)∧W i m ys H':=λ{Ha ya sa} Ia ⟨m',hm,w'⟩=>by
        refine⟨m',hm,i+1,ya,Ha,(Ia.weak kl.symm kk).lH,T.keep _ _ _ st7 λb hb o e=>(Ia.pin (b,o) (C8 _ (C8 _ (fZ hb e)))).1,λb hb=>?_,w'⟩
        obtain⟨o,e,d⟩:=T.obj _ _ st7 b hb
        exact(Ia.pin (b,o) (C8 _ (C8 _ (fZ hb e)))).2.1
      cases ok with
      | false=>exact again I9 q9
      | true=>
        have a3:=he' _ s9 σ8 H9 _ I9 q9
        rw[e1,e2,e4,e6,e7]at a3
        show wpAny _ _ _ _ _ s9
        refine cG a3 λv QZ ⟨y,H10,I10,r10,hD10,hz,q10⟩=>?_
        have a4:=mL (X:=X') _ QZ σ8 H10 (.ref D) [y] (.ref D) [v] (λ_ NK=>NK=upd H10 D (.lst (ys++[y]))) I10 rfl (.cons r10 .nil) ⟨D,ys,y,rfl,rfl,hD10,hz,rfl⟩
        rw[e1,e2,e4,e7]at a4
        refine cG a4 λ_ VP ⟨_,NK,I11,_,e11⟩=>?_
        subst e11
        exact again I11 q10
  exact codeAny_compStart_list (loop _ rfl) (T.self _ 0 _ _ _ st1 (loop _ rfl))
theorem Dm{tg elt iter:Expr}{ifs:List Expr}{scope:Scope}{pos:Pos}{wi:TI}{g:TG}{tc:TT}{te:TE}(N:List Str)(k:Nat)(fr:List Nat)(hcalm:X.calm=true)(B:bW X.env.scope scope X.N N k fr)(hi:PI X tg iter wi)
  (hg:∀cl fp s H C,PG (bO X scope N cl fp s H C) tg g) (hc:∀cl fp s H C,Vp (bO X scope N cl fp s H C) ifs tc) (he:∀cl fp s H C,PE (bO X scope N cl fp s H C) elt te)
  (hs:∀x,foldedSetIterable iter X.env x=pure x:=by intro _;rfl):PE X (.ListComp elt [⟨tg,iter,ifs,0⟩] scope pos) (lJ wi k fr g tc te):=by
 intro pins s σ H Q I h
 obtain⟨cl,e,h1,h2⟩:=jV scope X.env λy hy hk=>I.ok.has y.1 (B.free y hy hk)
 rw[eval_ListComp]
 refine wpAny_comprehension_free (use:=none) rfl hs e B.kind B.loc (wpAny_mono (hi pins s σ H _ I h) (λxv s₁ q₁=>wpAny_mono q₁ (λitv s₂ q₂=>?_) λ_ _ x=>x) λ_ _ x=>x)
 obtain⟨it,fp,tn,J,H2,rfl,I2,T,st2,f2,hw⟩:=q₂
 refine yH (Q:=Q) (RR:=λacc C=>compPost (model X.prog X.w) X.A X.xe none (EP X pins σ Q) acc C) hcalm I2 T st2 f2 B h1 h2 hg hc he hw ?_
 intro D C m s' H' hn hC hf hne I' q
 refine⟨m,hn,λh' hs'=>⟨.ref D,H',?_,rfl,q⟩⟩
 exact I'.turned (t':=s'.toks) (λb o hb eb=>(hs'.2 b hb).trans eb) hf (J6 (B8 I2.lt hC)) (.inr (E7 I2.sz hC)) (λx c ec z=>by
  obtain⟨v,q⟩:=I2.cell x c ec
  exact absurd (B8 q.lt (by rw[z];exact hC)) (F1 _)) λp hp z=>absurd (B8 (Heap.lt_size (I2.pin p hp).1) (by rw[z];exact hC)) (F1 _)
theorem Pn{tg elt iter:Expr}{ifs:List Expr}{scope:Scope}{pos spos py:Pos}{y:Str}{i:Nat}{wi:TI}{g:TG}{tc:TT}{te:TE}(N:List Str)(k:Nat)(fr:List Nat)(hcalm:X.calm=true)(B:bW X.env.scope scope X.N N k fr)(hN:X.N.Nodup)(hy:X.N[i]?=some y)(hx:Loc X.env.scope y)(hi:PI X tg iter wi)
  (hg:∀cl fp s H C,PG (bO X scope N cl fp s H C) tg g) (hc:∀cl fp s H C,Vp (bO X scope N cl fp s H C) ifs tc) (he:∀cl fp s H C,PE (bO X scope N cl fp s H C) elt te)
  (hsw:swapsWith (.ListComp elt [⟨tg,iter,ifs,0⟩] scope pos) (some (.Name y py)) spos.line X.env=pure true:=by rfl)
  (hs:∀x,foldedSetIterable iter X.env x=pure x:=by intro _;rfl) (hf:X.fn y=true∨X.env.scope.names.lookup y=some .local:=by first | exact .inl rfl | exact .inr rfl | assumption) :
  PS X (.Assign [.Name y py] (.ListComp elt [⟨tg,iter,ifs,0⟩] scope pos) spos) (xX (lJ wi k fr g tc te) (bZ i)):=by
 intro pins s σ H D I h
 obtain⟨cl,e,h1,h2⟩:=jV scope X.env λy hy hk=>I.ok.has y.1 (B.free y hy hk)
 rw[exec_Assign_Name_used _ _ _ _ hsw]
 refine wpAny_bind (wpAny_standAt (wpAny_bind ?_))
 show wpAny _ X.A (do let _ ←comprehension (.ListComp elt [⟨tg,iter,ifs,0⟩] scope pos) scope X.env _ (newList []) false (eval iter X.env) (some (assign (.Name y py) X.env))) _ _ s
 refine wpAny_bind (wpAny_mono (wpAny_comprehension_free (use:=some (assign (.Name y py) X.env)) (Q:=λ_ s'=>SP X pins D .next s') rfl hs e B.kind B.loc
  (wpAny_mono (hi pins s σ H _ I h) (λxv s₁ q₁=>wpAny_mono q₁ (λitv s₂ q₂=>?_) λ_ _ x=>x) λ_ _ x=>x)) (λ_ s' hq=>wpAny_pure (wpAny_pure hq)) λ_ _ x=>x)
 obtain⟨it,fp,tn,J,H2,rfl,I2,T,st2,f2,hw⟩:=q₂
 refine yH (Q:=λx H1=>bZ i x σ H1 D.nx) (RR:=λacc C=>compPost (model X.prog X.w) X.A X.xe (some (assign (.Name y py) X.env)) (λ_ s'=>SP X pins D .next s') acc C) hcalm I2 T st2 f2 B h1 h2 hg hc he hw ?_
 intro E C m s' H' hn hC hfr hne I' q
 show wpAny _ X.A (assign (.Name y py) X.env (.ref E)) _ _ _
 have Ni:∀x c,X.env.cells.lookup x=some c→c≠C:=λx c ec z=>by
  obtain⟨v,q⟩:=I2.cell x c ec
  exact absurd (B8 q.lt (by rw[z];exact hC)) (F1 _)
 refine wpAny_assign_Name (uF I' hN hy hx (show RelV (.ref E) (.ref E)from rfl) (λs6 I6 ⟨a,hsb,ha⟩=>?_) hf)
 have RB:C≠a:=by
  rcases ha with z | z
  ·rw[z];exact J6 (B8 I2.lt hC)
  ·exact λq=>Ni _ _ z q.symm
 refine⟨m,hn.sameBut hsb RB,λh'' hs''=>⟨_,H',?_,q⟩⟩
 exact I6.turned (t':=s6.toks) (λb o hb eb=>(hs''.2 b hb).trans eb) hfr (J6 (B8 I2.lt hC)) (.inr (E7 I2.sz hC)) Ni
  λp hp z=>absurd (B8 (Heap.lt_size (I2.pin p hp).1) (by rw[z];exact hC)) (F1 _)
end
end L2


set_option maxHeartbeats 4000000
namespace L2
open PySem PySem.Spec PyProof.Rows
def Vq(J:It)(P:Hp→Prop)(xs:List V):Prop:=
 ∀i H,P H→(i<xs.length→J.go i H)∧(∀x H',J.Ys i H x H'→H'=H∧(i<xs.length→xs[i]?=some x))∧(xs.length≤i→J.stop i H)
theorem Jm{K:aA}{a:Addr}{xs:List V}:Vq (HS K a) (λH=>gW K H a xs) xs:=λi H hq=>
 ⟨λh=>⟨xs,xs[i],hq,by simp[h]⟩,λx H' ⟨e,y⟩=>⟨e,λ_=>y xs hq⟩,λh=>⟨xs,hq,h⟩⟩
theorem Pq{K:aA}{a:Addr}{xs:List V}:Vq (HW K a) (λH=>jP K H a xs) xs:=λi H hq=>
 ⟨λh=>⟨xs,xs[i],hq,by simp[h]⟩,λx H' ⟨e,y⟩=>⟨e,λ_=>y xs hq⟩,λh=>⟨xs,hq,h⟩⟩
section
variable{X:Cx}
theorem wF{scope:Scope}{N:List Str}{x:Str}{pos:Pos}(hN:N.Nodup)(hi:N[0]?=some x)(hx:(cP scope X.env.scope).names.lookup x=some .local) :
  ∀cl fp s H C,PG (bO X scope N cl fp s H C) (.Name x pos) (bZ 0):=λ_ _ _ _ _=>jF hN hi (F6 hx) (F4 hx)
theorem Inv.freeze{pins:List (Addr×Obj)}{σ:St}{H:Hp}{s:Shared}{a:Addr}{u:HO}{o:Obj}(I:Inv X pins σ H s)(e:H a=some u)(mu:Yc (H a))(ho:s.heap.get? a=some o):Inv X pins σ (upd H a (.eV o u)) s:=by
 have n0:∀b,H b=none→upd H a (.eV o u) b=none:=λb hb=>by rw[aJ (Ne.symm (bU e hb))];exact hb
 refine⟨I.ok,I.os,I.bare,⟨I.base.keep,I.base.slot,λb ob h n hx=>n0 b (I.base.free b ob h n hx),I.base.there,λb xs h=>?_,λb ob w h=>?_,λb ps h=>?_⟩,I.loc,I.cell,n0 _ I.free,λx c h=>n0 _ (I.gK x c h),λp hp=>?_,?_,I.len⟩
 ·have q:=I.base.tups b xs h
  rw[aJ (λz=>by rw[z,e]at q;rw[e]at mu;cases q;exact mu)]
  exact q
 ·have q:=I.base.tU b ob w h
  rw[aJ (λz=>by rw[z,e]at q;rw[e]at mu;cases q;exact mu)]
  exact q
 ·obtain⟨more,q⟩:=I.base.vL b ps h
  exact⟨more,by rw[aJ (λz=>by rw[z,e]at q;rw[e]at mu;cases q;exact mu)];exact q⟩
 ·obtain⟨h1,h2,h3⟩:=I.pin p hp
  exact⟨h1,n0 _ h2,h3⟩
 ·have Ij:∀c y,H c=some (.own y)→c≠a:=λc y r z=>by rw[z,e]at r;rw[e]at mu;cases r;exact mu
  have Nt:∀c xs,H c=some (.tup xs)→c≠a:=λc xs r z=>by rw[z,e]at r;rw[e]at mu;cases r;exact mu
  intro b v q
  by_cases hb:b=a
  ·subst hb
   rw[aQ]at q
   cases q
   exact⟨ho,(I.hok b u e).stay (λc v _ q=>q) (λc r=>by rw[aJ (Ij c b r)];exact r) λc xs r=>by rw[aJ (Nt c xs r)];exact r⟩
  ·rw[aJ hb]at q
   exact(I.hok b v q).stay (λc v _ q=>q) (λc r=>by rw[aJ (Ij c b r)];exact r) λc xs r=>by rw[aJ (Nt c xs r)];exact r
def FN(a:Addr)(o:Obj)(kvs:List (Key×V)):It:=
 ⟨λi H=>H a=some (.eV o (.dK kvs))∧i<kvs.length,λi H x H'=>H'=H∧(kvs[i]?).map (λkv=>kV kv.1)=some x,λi H=>H a=some (.eV o (.dK kvs))∧kvs.length≤i⟩
theorem Jo{a:Addr}{o:Obj}{kvs:List (Key×V)}:Vq (FN a o kvs) (λH=>H a=some (.eV o (.dK kvs))) (kvs.map λkv=>kV kv.1):=λi H hq=>
 ⟨λh=>⟨hq,by simpa using h⟩,λx H' ⟨e,y⟩=>⟨e,λ_=>by rw[C4];exact y⟩,λh=>⟨hq,by simpa using h⟩⟩
theorem Dn{P:Program}{w:World}{k:Key}{v:Value}(h:(aP P w).is k v=true):RelV (kV k) v:=by
 rcases bG (k:=k) (v:=v) h with ⟨i,t,rfl,rfl⟩ | ⟨x,t,rfl,rfl⟩
 ·exact⟨t,rfl⟩
 ·exact⟨t,rfl⟩
theorem Dp{P:Program}{w:World}{o:Obj}{kvs:List (Key×Value)}{a:Addr}{h:Heap}(d:h.DictOf (aP P w) a kvs)(ho:h.get? a=some o):∃es ep,o.ExactDict∧o.data=.dict es ep∧KeysOf (aP P w) es∧Pairs (aP P w) es.toList kvs∧(kvs.map (·.1)).Nodup:=by
 obtain⟨o',es,ep,ho',r⟩:=d
 rw[ho]at ho'
 cases ho'
 exact⟨es,ep,r⟩
theorem Gp{P:Program}{w:World}{K:aA}{tg:Expr}(a it:Addr)(o:Obj)(kvs:List (Key×V))(ep:Nat)(NP:∃es,o.data=.dict es ep)(hne:a≠it) :
  Turn P w K tg (FN a o kvs) [it] it (λi h=>h.IsKeyIter it a i kvs.length ep) where
 mem:=by simp
 obj:=λi h st b hb=>by
  have e:b=it:=by simpa using hb
  subst e
  obtain⟨ob,ho,hc,hd⟩:=st
  exact⟨ob,ho,λv z=>by rw[hd]at z;cases z⟩
 keep:=λi h h' st k=>by
  obtain⟨ob,ho,r⟩:=st
  exact⟨ob,k it (by simp) _ ho,r⟩
 item:=by
  intro X hP hw hK hc i pins s σ H E I hf st hg
  subst hP hw hK
  obtain⟨f0,f1,f2,f3,f4,f5⟩:=hf it (by simp)
  obtain⟨hq,hlt⟩:=hg
  obtain⟨ho,hz,hsm,vs,rel,dd⟩:=I.hok a _ hq
  obtain⟨es,ep',r1,r2,r3,r4,r5⟩:=Dp dd ho
  obtain⟨RC,e0⟩:=NP
  rw[e0]at r2
  cases r2
  have hl:=KV.length rel
  have dat:s.heap.DictAt (aP X.prog X.w) a vs ep:=⟨o,_,ho,r1,e0,r3,r4,r5⟩
  obtain⟨⟨k,x⟩,hx⟩:∃p,vs[i]?=some p:=⟨vs[i]'(by omega),by simp⟩
  refine wpAny_pyNext_dict_item (by rw[←hl];exact st) dat hx λkey h' hkey hit' hs'=>?_
  have I1:Inv X pins σ H {s with heap:=h',toks:=s.toks}:=I.turned (λb o hb e=>(hs'.2 b hb).trans e) f0 f1 f3 f4 f5
  have hit2:=hit'
  obtain⟨ob,hob,hcl,hdt⟩:=hit2
  refine⟨_,rfl,Iv (s:={s with heap:=h',toks:=s.toks}) (n := "dict_keyiterator") hob hcl hdt (by decide) ⟨kV k,H,I1,Dn hkey,⟨rfl,?_⟩,by rw[hl];exact hit',λb hb=>(hf b hb).1⟩⟩
  have ek:=KV.keys rel
  have e1:(kvs.map (·.1))[i]?=(vs.map (·.1))[i]?:=by rw[ek]
  rw[C4,C4,hx]at e1
  cases e2:kvs[i]? with
  | none=>rw[e2]at e1;cases e1
  | some p=>
   rw[e2]at e1
   have e3:p.1=k:=D9 e1
   show some (kV p.1)=some (kV k)
   rw[e3]
 done:=by
  intro X hP hw hK hc i pins s σ H E I hf st hg
  subst hP hw hK
  obtain⟨f0,f1,f2,f3,f4,f5⟩:=hf it (by simp)
  obtain⟨hq,hle⟩:=hg
  obtain⟨ho,hz,hsm,vs,rel,dd⟩:=I.hok a _ hq
  obtain⟨es,ep',r1,r2,r3,r4,r5⟩:=Dp dd ho
  obtain⟨RC,e0⟩:=NP
  rw[e0]at r2
  cases r2
  have hl:=KV.length rel
  have dat:s.heap.DictAt (aP X.prog X.w) a vs ep:=⟨o,_,ho,r1,e0,r3,r4,r5⟩
  refine wpAny_pyNext_dict_end (I.ok.hd hc) (by rw[←hl];exact st) dat (by simp;omega) λh' he'=>⟨rfl,I.turned (t':=s.toks) (λb o hb e=>he' b o hb e) f0 f1 f3 f4 f5⟩
 self:=λ_ _ _ _ _ st h=>wpAny_pyIter_keyiter st h
def Jp(tl:TE):TI:=λσ H R=>tl σ H λx H1=>∃a kvs,x=.ref a∧H1 a=some (.dK kvs)∧∀o,R (FN a o kvs) (upd H1 a (.eV o (.dK kvs)))
theorem Pu{tg l:Expr}{tl:TE}(hl:PE X l tl):PI X tg l (Jp tl):=by
 intro pins s σ H R I h
 refine cG (hl pins s σ H _ I h) λv s1 ⟨x,H1,I1,r1,q1⟩=>?_
 obtain⟨a,kvs,rfl,hq,q⟩:=q1
 cases r1
 obtain⟨hz,hsm,vs,rel,dd⟩:=I1.hok a _ hq
 obtain⟨ep,hat⟩:=dd.dictAt
 obtain⟨o,es,ho,r1,r2,r3⟩:=id hat
 have I2:=I1.freeze hq (by rw[hq];exact trivial) ho
 refine wpAny_pyIter_dict hsm hat ?_
 have hne:a≠s1.heap.objs.size:=C3 (Heap.lt_size ho)
 refine⟨s1.heap.objs.size,[s1.heap.objs.size],_,_,_,rfl,I2.kept (t':=s1.toks) λb o e=>Heap.get?_push_of_some _ e,Gp a _ o kvs ep ⟨es,r2⟩ hne,⟨_,Heap.get?_push_size _ rfl,rfl,by rw[KV.length rel];rfl⟩,λb hb=>?_,q o⟩
 have e:b=s1.heap.objs.size:=by simpa using hb
 subst e
 exact I2.Ur (B6 _) (I2.hok.fresh (B6 _))
theorem Px{J:It}{P:Hp→Prop}{xs:List V}(hJ:Vq J P xs){g:TG}{tb:TS}{D:Ends}{σ:St}{H:Hp}(Pv:Nat→St→Hp→Prop)(h0:Pv 0 σ H)(hl:∀i σ H,i≤xs.length→Pv i σ H→P H)
  (hs:∀i x σ H,xs[i]?=some x→Pv i σ H→g x σ H λσ2 H2=>tb {D with nx:=Pv (i+1),ct:=Pv (i+1),bk:=D.nx} σ2 H2) (hd:∀σ H,Pv xs.length σ H→D.nx σ H) :
  ∃W:Nat→Nat→St→Hp→Prop,(∃m,W 0 m σ H)∧∀i m σ H,W i m σ H →
   (J.stop i H∧D.nx σ H)∨(J.go i H∧∃N:St→Hp→Prop,(∀σ' H',N σ' H'→∃m',m'<m∧W (i+1) m' σ' H')∧∀x H',J.Ys i H x H'→g x σ H' λσ2 H2=>tb {D with nx:=N,ct:=N,bk:=D.nx} σ2 H2):=by
 refine⟨λi m σ H=>m=xs.length-i∧i≤xs.length∧Pv i σ H,⟨xs.length,by simp,F9 _,h0⟩,?_⟩
 rintro i m σ H ⟨rfl,hi,p⟩
 obtain⟨j1,j2,j3⟩:=hJ i H (hl i σ H hi p)
 by_cases hlt:i<xs.length
 ·refine .inr ⟨j1 hlt,Pv (i+1),λσ' H' p'=>⟨xs.length-(i+1),by omega,rfl,hlt,p'⟩,λx H' y=>?_⟩
  obtain⟨e,ex⟩:=j2 x H' y
  subst e
  exact hs i x σ _ (ex hlt) p
 ·have e:i=xs.length:=by omega
  subst e
  exact .inl ⟨j3 (B6 _),hd σ H p⟩
end
end L2


namespace L2
open PySem PySem.Spec PyProof.Rows
section
variable{X:Cx}
end
inductive DV where
  | int (i:Int) | non | lst (ds:List DV) | tup (ds:List DV)
mutual
def Reads(K:aA)(H:Hp):DV→V→Prop
 | .int i,x=>x=.int i
 | .non,x=>x=.non
 | .lst ds,x=>∃a xs,x=.ref a∧gW K H a xs∧aZ K H ds xs
 | .tup ds,x=>∃a xs,x=.ref a∧jP K H a xs∧aZ K H ds xs
def aZ(K:aA)(H:Hp):List DV→List V→Prop
 | [],xs=>xs=[]
 | d::ds,xs=>∃y ys,xs=y::ys∧Reads K H d y∧aZ K H ds ys
end
mutual
def DV.depth:DV→Nat
 | .int _=>0
 | .non=>0
 | .lst ds=>bF ds+1
 | .tup ds=>bF ds+1
def bF:List DV→Nat
 | []=>0
 | d::ds=>max d.depth (bF ds)
end
theorem aZ.length{K:aA}{H:Hp}:∀{ds:List DV} {xs:List V},aZ K H ds xs→xs.length=ds.length
 | [],xs,h=>by
  unfold aZ at h
  rw[h]
  rfl
 | d::ds,xs,h=>by
  unfold aZ at h
  obtain⟨y,ys,rfl,_,h2⟩:=h
  simp[aZ.length h2]
theorem aZ.get{K:aA}{H:Hp}:∀{ds:List DV} {xs:List V} {i:Nat} {d:DV},aZ K H ds xs→ds[i]?=some d→∃x,xs[i]?=some x∧Reads K H d x
 | [],xs,i,d,h,e=>by simp at e
 | d'::ds,xs,0,d,h,e=>by
  unfold aZ at h
  obtain⟨y,ys,rfl,h1,_⟩:=h
  simp at e
  subst e
  exact⟨y,rfl,h1⟩
 | d'::ds,xs,i+1,d,h,e=>by
  unfold aZ at h
  obtain⟨y,ys,rfl,_,h2⟩:=h
  obtain⟨x,e1,e2⟩:=aZ.get h2 (by simpa using e)
  exact⟨x,by simpa using e1,e2⟩
theorem qI:∀{ds:List DV} {i:Nat} {d:DV},ds[i]?=some d→d.depth≤bF ds
 | [],i,d,e=>by simp at e
 | d'::ds,0,d,e=>by
  simp at e
  subst e
  unfold bF
  exact Nat.le_max_left _ _
 | d'::ds,i+1,d,e=>by
  have:=qI (ds:=ds) (i:=i) (d:=d) (by simpa using e)
  unfold bF
  exact E7 this (Nat.le_max_right _ _)
theorem qJ(A:Around):A.in1.units=A.units+1:=rfl
section
open SeqAt
open Classical in
noncomputable def iB(d e:DV):Bool:=decide (d=e)
theorem lK{d e:DV}:iB d e=true↔d=e:=by unfold iB;simp
theorem fD(d:DV):iB d d=true:=lK.mpr rfl
theorem bV{d e:DV}(h:d≠e):iB d e=false:=by unfold iB;simp[h]
theorem Py(a b:Int):iB (.int a) (.int b)=(a==b):=by
 by_cases h:a=b
 ·subst h;simp[fD]
 ·rw[bV (by simpa using h)];simp[h]
open Classical in
theorem cW{ds es:List DV}(hl:ds.length=es.length):((D6 ds.length).all λi=>match ds[i]?,es[i]? with | some d,some e=>iB d e | _,_=>true)=decide (ds=es):=by
 rw[K3,List.all_eq_true,decide_eq_true_iff]
 constructor
 ·intro h
  apply List.ext_getElem hl
  intro i h1 h2
  have:=h i (J3.mpr h1)
  simp only[A9 h1,A9 h2]at this
  exact lK.mp this
 ·rintro rfl i hi
  have hi':=J3.mp hi
  simp only[A9 hi']
  exact fD _
variable{X:Cx}{pins:List (Addr×Obj)}{σ:St}{H:Hp}{s:Shared}
open Classical in
theorem Dq(ds es:List DV):iB (.lst ds) (.lst es)=decide (ds=es):=by
 by_cases h:ds=es
 ·subst h;simp[fD]
 ·rw[bV (by intro z;cases z;exact h rfl)];simp[h]
open Classical in
theorem Dr(ds es:List DV):iB (.tup ds) (.tup es)=decide (ds=es):=by
 by_cases h:ds=es
 ·subst h;simp[fD]
 ·rw[bV (by intro z;cases z;exact h rfl)];simp[h]
theorem uT(I:Inv X pins σ H s):∀(n:Nat)(d e:DV)(x:V),d.depth≤n→Reads X.K H d x→Reads X.K H e x→d=e:=by
 have lists:∀(n:Nat),(∀(d e:DV)(x:V),d.depth≤n→Reads X.K H d x→Reads X.K H e x→d=e)→∀(ds es:List DV)(xs:List V),bF ds≤n→aZ X.K H ds xs→aZ X.K H es xs→ds=es:=by
  intro n ih ds
  induction ds with
  | nil=>
   intro es xs _ h1 h2
   have l1:=h1.length
   have l2:=h2.length
   cases es with
   | nil=>rfl
   | cons _ _=>rw[l1]at l2;simp at l2
  | cons d ds ihl=>
   intro es xs hd h1 h2
   have hd1:d.depth≤n:=by unfold bF at hd;omega
   have hd2:bF ds≤n:=by unfold bF at hd;omega
   unfold aZ at h1
   obtain⟨y,ys,rfl,a1,a2⟩:=h1
   cases es with
   | nil=>have:=h2.length;simp at this
   | cons e es=>
    unfold aZ at h2
    obtain⟨y',ys',q,b1,b2⟩:=h2
    cases q
    rw[ih d e y hd1 a1 b1,ihl es ys hd2 a2 b2]
 have kinds:∀{a:Addr} {xs ys:List V},gW X.K H a xs→jP X.K H a ys→False:=λ{a xs ys} h1 h2=>by
  obtain⟨_,_,p1,_⟩:=I.list h1
  obtain⟨_,_,p2,_⟩:=I.tuple h2
  exact ne_of_list_tuple p1.isList (show s.heap.IsTuple a _ from p2) rfl
 intro n
 induction n with
 | zero=>
  intro d e x hd h1 h2
  cases d with
  | int i=>
   unfold Reads at h1
   subst h1
   cases e with
   | int j=>unfold Reads at h2;cases h2;rfl
   | non=>unfold Reads at h2;cases h2
   | lst es=>unfold Reads at h2;obtain⟨_,_,q,_⟩:=h2;cases q
   | tup es=>unfold Reads at h2;obtain⟨_,_,q,_⟩:=h2;cases q
  | non=>
   unfold Reads at h1
   subst h1
   cases e with
   | non=>rfl
   | int j=>unfold Reads at h2;cases h2
   | lst es=>unfold Reads at h2;obtain⟨_,_,q,_⟩:=h2;cases q
   | tup es=>unfold Reads at h2;obtain⟨_,_,q,_⟩:=h2;cases q
  | lst ds=>unfold DV.depth at hd;omega
  | tup ds=>unfold DV.depth at hd;omega
 | succ n ih=>
  intro d e x hd h1 h2
  cases d with
  | int i=>
   unfold Reads at h1
   subst h1
   cases e with
   | int j=>unfold Reads at h2;cases h2;rfl
   | non=>unfold Reads at h2;cases h2
   | lst es=>unfold Reads at h2;obtain⟨_,_,q,_⟩:=h2;cases q
   | tup es=>unfold Reads at h2;obtain⟨_,_,q,_⟩:=h2;cases q
  | non=>
   unfold Reads at h1
   subst h1
   cases e with
   | non=>rfl
   | int j=>unfold Reads at h2;cases h2
   | lst es=>unfold Reads at h2;obtain⟨_,_,q,_⟩:=h2;cases q
   | tup es=>unfold Reads at h2;obtain⟨_,_,q,_⟩:=h2;cases q
  | lst ds=>
   unfold Reads at h1
   obtain⟨a,xs,rfl,hq,r⟩:=h1
   cases e with
   | int j=>unfold Reads at h2;cases h2
   | non=>unfold Reads at h2;cases h2
   | lst es=>
    unfold Reads at h2
    obtain⟨b,ys,q,hq2,r2⟩:=h2
    cases q
    have:=I.xW hq hq2
    subst this
    rw[lists n ih ds es xs (by unfold DV.depth at hd;omega) r r2]
   | tup es=>
    unfold Reads at h2
    obtain⟨b,ys,q,hq2,r2⟩:=h2
    cases q
    exact(kinds hq hq2).elim
  | tup ds=>
   unfold Reads at h1
   obtain⟨a,xs,rfl,hq,r⟩:=h1
   cases e with
   | int j=>unfold Reads at h2;cases h2
   | non=>unfold Reads at h2;cases h2
   | lst es=>
    unfold Reads at h2
    obtain⟨b,ys,q,hq2,r2⟩:=h2
    cases q
    exact(kinds hq2 hq).elim
   | tup es=>
    unfold Reads at h2
    obtain⟨b,ys,q,hq2,r2⟩:=h2
    cases q
    have:=I.uG hq hq2
    subst this
    rw[lists n ih ds es xs (by unfold DV.depth at hd;omega) r r2]
theorem Jq(I:Inv X pins σ H s)(i:Int)(e:DV)(y:V)(u v:Value)(A:Around)(hu:A.units<cLine)(r2:Reads X.K H e y)(rx:RelV (.int i) u)(ry:RelV y v):RcAt A s u v (iB (.int i) e)∧EqAt A s u v (iB (.int i) e):=by
 obtain⟨t,rfl⟩:=rx
 cases e with
 | int j=>
  unfold Reads at r2
  subst r2
  obtain⟨t',rfl⟩:=ry
  rw[Py]
  exact⟨RcAt.int_int _ _ _ _,EqAt.int_int _ _ _ _⟩
 | non=>
  unfold Reads at r2
  subst r2
  cases ry
  rw[bV (by intro z;cases z)]
  exact⟨RcAt.int_none _ _,EqAt.int_none _ _⟩
 | lst es=>
  unfold Reads at r2
  obtain⟨b,ys,rfl,hq,_⟩:=r2
  cases ry
  obtain⟨its,_,pl,_⟩:=I.list hq
  rw[bV (by intro z;cases z)]
  exact⟨RcAt.int_list _ _ pl.isList (hu),EqAt.int_list _ _ pl.isList (hu)⟩
 | tup es=>
  unfold Reads at r2
  obtain⟨b,ys,rfl,hq,_⟩:=r2
  cases ry
  obtain⟨its,_,pl,_⟩:=I.tuple hq
  rw[bV (by intro z;cases z)]
  exact⟨RcAt.int_tuple _ _ pl (hu),EqAt.int_tuple _ _ pl (hu)⟩
theorem Jr(I:Inv X pins σ H s)(e:DV)(y:V)(u v:Value)(A:Around)(hu:A.units<cLine)(r2:Reads X.K H e y)(rx:RelV .non u)(ry:RelV y v):RcAt A s u v (iB .non e)∧EqAt A s u v (iB .non e):=by
 cases rx
 cases e with
 | non=>
  unfold Reads at r2
  subst r2
  cases ry
  rw[fD]
  exact⟨RcAt.none_none,EqAt.same _⟩
 | int j=>
  unfold Reads at r2
  subst r2
  obtain⟨t',rfl⟩:=ry
  rw[bV (by intro z;cases z)]
  exact⟨RcAt.none_int _ _,EqAt.none_int _ _⟩
 | lst es=>
  unfold Reads at r2
  obtain⟨b,ys,rfl,hq,_⟩:=r2
  cases ry
  obtain⟨its,_,pl,_⟩:=I.list hq
  rw[bV (by intro z;cases z)]
  exact⟨RcAt.none_list pl.isList hu,EqAt.none_list pl.isList hu⟩
 | tup es=>
  unfold Reads at r2
  obtain⟨b,ys,rfl,hq,_⟩:=r2
  cases ry
  obtain⟨its,_,pl,_⟩:=I.tuple hq
  rw[bV (by intro z;cases z)]
  exact⟨RcAt.none_tuple pl hu,EqAt.none_tuple pl hu⟩
theorem qK(I:Inv X pins σ H s):∀(n:Nat)(A:Around),(∀(d e:DV)(x y:V)(u v:Value)(A:Around),d.depth≤n→A.units+n<cLine→Reads X.K H d x→Reads X.K H e y→RelV x u→RelV y v→RcAt A s u v (iB d e)∧EqAt A s u v (iB d e)) →
  ∀(ds es:List DV)(xs ys:List V)(us vs:List Value),bF ds≤n→A.units+(n+1)<cLine→aZ X.K H ds xs→aZ X.K H es ys→Vals xs us→Vals ys vs →
  ∀j (h1:j<us.toArray.size) (h2:j<vs.toArray.size),EqAt A.in1 s us.toArray[j] vs.toArray[j] (match ds[j]?,es[j]? with | some d,some e=>iB d e | _,_=>true):=by
 intro n A ih ds es xs ys us vs hd hu r1 r2 v1 v2 j h1 h2
 have l1:j<ds.length:=by rw[←r1.length,v1.length];simpa using h1
 have l2:j<es.length:=by rw[←r2.length,v2.length];simpa using h2
 obtain⟨x,ex,rx⟩:=r1.get (i:=j) (d:=ds[j]) (by simp)
 obtain⟨y,ey,ry⟩:=r2.get (i:=j) (d:=es[j]) (by simp)
 obtain⟨u,eu,ru⟩:=v1.get ex
 obtain⟨v,ev,rv⟩:=v2.get ey
 have e1:us.toArray[j]=u:=by
  rw[B9]at eu
  obtain⟨_,eu⟩:=eu
  simpa using eu
 have e2:vs.toArray[j]=v:=by
  rw[B9]at ev
  obtain⟨_,ev⟩:=ev
  simpa using ev
 rw[e1,e2]
 simp only[A9 l1,A9 l2]
 exact(ih _ _ x y u v A.in1 (E7 (qI (i:=j) (by simp)) hd) (by rw[qJ];omega) rx ry ru rv).2
theorem wG(I:Inv X pins σ H s):∀(n:Nat)(d e:DV)(x y:V)(u v:Value)(A:Around),d.depth≤n→A.units+n<cLine→Reads X.K H d x→Reads X.K H e y→RelV x u→RelV y v→RcAt A s u v (iB d e)∧EqAt A s u v (iB d e):=by
 have items:=qK I
 have seqs:∀(n:Nat)(A:Around),(∀(d e:DV)(x y:V)(u v:Value)(A:Around),d.depth≤n→A.units+n<cLine→Reads X.K H d x→Reads X.K H e y→RelV x u→RelV y v→RcAt A s u v (iB d e)∧EqAt A s u v (iB d e)) →
   ∀(d e:DV)(x y:V)(u v:Value),d.depth≤n+1→A.units+(n+1)<cLine→Reads X.K H d x→Reads X.K H e y→RelV x u→RelV y v→RcAt A s u v (iB d e)∧EqAt A s u v (iB d e):=by
  intro n A ih d e x y u v hd hu r1 r2 rx ry
  have of_same:∀{a b:Addr} {k:Bool},(a=b→k=true)→RcAt A s (.ref a) (.ref b) k→EqAt A s (.ref a) (.ref b) k:=λ{a b k} hk h=>by
   by_cases hab:a=b
   ·subst hab
    rw[hk rfl]
    exact EqAt.same _
   ·exact EqAt.of_refs hab h
  cases d with
  | int i=>
   unfold Reads at r1
   subst r1
   exact Jq I i e y u v A (by omega) r2 rx ry
  | non=>
   unfold Reads at r1
   subst r1
   exact Jr I e y u v A (by omega) r2 rx ry
  | lst ds=>
   unfold Reads at r1
   obtain⟨a,xs,rfl,hq1,Gq⟩:=r1
   cases rx
   obtain⟨jT,v1,lM,_⟩:=I.list hq1
   have hd':bF ds≤n:=by unfold DV.depth at hd;omega
   cases e with
   | int j=>
    unfold Reads at r2
    subst r2
    obtain⟨t',rfl⟩:=ry
    rw[bV (by intro z;cases z)]
    exact⟨RcAt.list_int _ _ lM.isList (by omega),EqAt.list_int _ _ lM.isList (by omega)⟩
   | non=>
    unfold Reads at r2
    subst r2
    cases ry
    rw[bV (by intro z;cases z)]
    exact⟨RcAt.list_none lM.isList (by omega),EqAt.list_none lM.isList (by omega)⟩
   | lst es=>
    unfold Reads at r2
    obtain⟨b,ys,rfl,hq2,Aq⟩:=r2
    cases ry
    obtain⟨its2,v2,oW,_⟩:=I.list hq2
    have e1:jT.toArray.size=ds.length:=by rw[B0,←v1.length,Gq.length]
    have e2:its2.toArray.size=es.length:=by rw[B0,←v2.length,Aq.length]
    have rc:RcAt A s (.ref a) (.ref b) (iB (.lst ds) (.lst es)):=by
     by_cases hl:ds.length=es.length
     ·have q:=RcAt.lists (A:=A) (s:=s) lM.isList oW.isList (by rw[e1,e2];exact hl) (by omega) (items n A ih ds es xs ys jT its2 hd' hu Gq Aq v1 v2)
      rw[e1,cW hl]at q
      rw[Dq]
      exact q
     ·rw[bV (by intro z;cases z;exact hl rfl)]
      exact RcAt.lists_lengths lM.isList oW.isList (by rw[e1,e2];simpa using hl) (by omega)
    exact⟨rc,of_same (λhab=>by
     subst hab
     refine lK.mpr (uT I (n+1) _ _ (.ref a) hd ?_ ?_)
     ·unfold Reads
      exact⟨a,xs,rfl,hq1,Gq⟩
     ·unfold Reads
      exact⟨a,ys,rfl,hq2,Aq⟩) rc⟩
   | tup es=>
    unfold Reads at r2
    obtain⟨b,ys,rfl,hq2,Aq⟩:=r2
    cases ry
    obtain⟨its2,v2,oW,_⟩:=I.tuple hq2
    rw[bV (by intro z;cases z)]
    exact⟨RcAt.list_tuple lM.isList oW (by omega),EqAt.list_tuple lM.isList oW (by omega)⟩
  | tup ds=>
   unfold Reads at r1
   obtain⟨a,xs,rfl,hq1,Gq⟩:=r1
   cases rx
   obtain⟨jT,v1,lM,_⟩:=I.tuple hq1
   have hd':bF ds≤n:=by unfold DV.depth at hd;omega
   cases e with
   | int j=>
    unfold Reads at r2
    subst r2
    obtain⟨t',rfl⟩:=ry
    rw[bV (by intro z;cases z)]
    exact⟨RcAt.tuple_int _ _ lM (by omega),EqAt.tuple_int _ _ lM (by omega)⟩
   | non=>
    unfold Reads at r2
    subst r2
    cases ry
    rw[bV (by intro z;cases z)]
    exact⟨RcAt.tuple_none lM (by omega),EqAt.tuple_none lM (by omega)⟩
   | lst es=>
    unfold Reads at r2
    obtain⟨b,ys,rfl,hq2,Aq⟩:=r2
    cases ry
    obtain⟨its2,v2,oW,_⟩:=I.list hq2
    rw[bV (by intro z;cases z)]
    exact⟨RcAt.tuple_list lM oW.isList (by omega),EqAt.tuple_list lM oW.isList (by omega)⟩
   | tup es=>
    unfold Reads at r2
    obtain⟨b,ys,rfl,hq2,Aq⟩:=r2
    cases ry
    obtain⟨its2,v2,oW,_⟩:=I.tuple hq2
    have e1:jT.toArray.size=ds.length:=by rw[B0,←v1.length,Gq.length]
    have e2:its2.toArray.size=es.length:=by rw[B0,←v2.length,Aq.length]
    have rc:RcAt A s (.ref a) (.ref b) (iB (.tup ds) (.tup es)):=by
     have q:=RcAt.tuples (A:=A) (s:=s) (l:=a) (b:=b) lM oW (by omega) (items n A ih ds es xs ys jT its2 hd' hu Gq Aq v1 v2)
     rw[e1,e2]at q
     by_cases hl:ds.length=es.length
     ·rw[←hl,O2,cW hl]at q
      rw[Dr]
      simpa using q
     ·rw[bV (by intro z;cases z;exact hl rfl)]
      have z:(ds.length==es.length)=false:=by simpa using hl
      rw[z,T7]at q
      exact q
    exact⟨rc,of_same (λhab=>by
     subst hab
     refine lK.mpr (uT I (n+1) _ _ (.ref a) hd ?_ ?_)
     ·unfold Reads
      exact⟨a,xs,rfl,hq1,Gq⟩
     ·unfold Reads
      exact⟨a,ys,rfl,hq2,Aq⟩) rc⟩
 intro n
 induction n with
 | zero=>
  intro d e x y u v A hd hu r1 r2 rx ry
  cases d with
  | int i=>
   unfold Reads at r1
   subst r1
   exact Jq I i e y u v A (by omega) r2 rx ry
  | non=>
   unfold Reads at r1
   subst r1
   exact Jr I e y u v A (by omega) r2 rx ry
  | lst ds=>unfold DV.depth at hd;omega
  | tup ds=>unfold DV.depth at hd;omega
 | succ n ih=>
  intro d e x y u v A hd hu r1 r2 rx ry
  exact seqs n A ih d e x y u v hd hu r1 r2 rx ry
end
section
variable{X:Cx}
def Vr(K:aA)(neg:Bool):R2:=λx y H Q=>∃d e,Reads K H d x∧Reads K H e y∧d.depth≤32∧Q (.bl (if neg then !iB d e else iB d e)) H
theorem Vs(hu:X.A.units+64<cLine):jQ X (compareOp .Eq) (Vr X.K false):=by
 intro pins s σ H x y v u Q I rx ry h
 obtain⟨d,e,r1,r2,hd,q⟩:=h
 exact(wG I 32 d e x y v u X.A hd (by omega) r1 r2 rx ry).1 X.prog X.w X.xe _ ⟨.bl _,H,I,rfl,q⟩
open SeqAt in
theorem Vt(hu:X.A.units+64<cLine):jQ X (compareOp .NotEq) (λx y H Q=>∃ds es,Reads X.K H (.lst ds) x∧Reads X.K H (.lst es) y∧bF ds≤32∧Q (.bl (!iB (.lst ds) (.lst es))) H):=by
 intro pins s σ H x y v u Q I rx ry h
 obtain⟨ds,es,r1,r2,hd,q⟩:=h
 unfold Reads at r1 r2
 obtain⟨a,xs,rfl,hq1,Gq⟩:=r1
 obtain⟨b,ys,rfl,hq2,Aq⟩:=r2
 cases rx
 cases ry
 obtain⟨jT,v1,lM,_⟩:=I.list hq1
 obtain⟨its2,v2,oW,_⟩:=I.list hq2
 have e1:jT.toArray.size=ds.length:=by rw[B0,←v1.length,Gq.length]
 have e2:its2.toArray.size=es.length:=by rw[B0,←v2.length,Aq.length]
 have rc:RcNeAt X.A s (.ref a) (.ref b) (!iB (.lst ds) (.lst es)):=by
  by_cases hl:ds.length=es.length
  ·have z:=RcNeAt.lists (A:=X.A) (s:=s) lM.isList oW.isList (by rw[e1,e2];exact hl) (by omega) (qK I 32 X.A (λd e x y u v A a1 a2 a3 a4 a5 a6=>wG I 32 d e x y u v A a1 a2 a3 a4 a5 a6) ds es xs ys jT its2 hd (by omega) Gq Aq v1 v2)
   rw[e1,cW hl]at z
   rw[Dq]
   exact z
  ·rw[bV (by intro z;cases z;exact hl rfl)]
   exact RcNeAt.lists_lengths lM.isList oW.isList (by rw[e1,e2];simpa using hl) (by omega)
 exact rc X.prog X.w X.xe _ ⟨.bl _,H,I,rfl,q⟩
end
end L2


namespace L2
open PySem PySem.Spec PyProof.Rows
structure Raw(K:aA)(mg:Str→Option Value)(x:Str)(st:Stmt):Prop where
 ex:∃f fd,Nm K x x st f fd∧mg x=some (.ref f)
theorem Vu{K:aA}{h:Heap}{mg:Str→Option Value}{x:Str}{st:Stmt}{f:Addr}{oc:Value}{od an:Option Addr}{osl:Array (Option Value)}{kV doc pm cdv ct:Value}(X:K.In h)(G:h.Ns mainGlobals mg)
  (a:R6 K mainGlobals x=some (some (.ref f))) (l:K.lookup f=some ⟨oc,od,.func (E9 x x (cB st) (bK st) (aH st) .none kV doc pm an cdv ct),osl⟩)
  (c:J7 K cdv x=true) (k:G0 K (.ref f)=true):Raw K mg x st:=⟨⟨f,_,Vo l c k,U0 X G a⟩⟩
structure mO(P:Program)(w:World)(K:aA)(mg:Str→Option Value)(base:Heap)(x:Str)(k:Nat)(n:Nat)(sp:Sp):Prop where
 ex:∃f fd ps,ps.length=n∧mK P w K mg base Ie k f fd ps sp∧Binds K fd ps []∧G0 K (.ref f)=true∧mg x=some (.ref f)
theorem Raw.cal{P:Program}{w:World}{K:aA}{mg:Str→Option Value}{base:Heap}{x:Str}{st:Stmt}{N ps:List Str}{k:Nat}{sp:Sp}(R:Raw K mg x st)(S:bJ N ps (aH st))(len:∀vs H Q E,sp vs H Q E→vs.length=ps.length)
  (hb:∀(kV doc pm:Value)(an:Option Addr)(cdv ct:Value)(us:List Value),us.length=ps.length→bindArgs (E9 x x (cB st) (bK st) (aH st) .none kV doc pm an cdv ct) ⟨us,[]⟩=pure (ps.zip us))
  (hbody:∀(f:Addr)(cdv:Value)(A:Around)(outer:List Env)(s:Shared)(H:Hp)(vs:List V)(Q:VK)(E:XK),dH k (A.deeper (envOfC x (aH st) s.heap.objs.size f cdv))→sp vs H Q E →
   ∃t,Af (vV Ie P w K mg base N x (aH st) f cdv A outer s H E).Uo (bK st) t∧t {nx:=λ_ H'=>Q .non H',rt:=Q} (start N vs) H):mO P w K mg base x (k+1) ps.length sp:=by
 obtain⟨f,fd,F,m⟩:=R.ex
 exact⟨f,fd,ps,rfl,F.ok S len λcdv A outer s H vs Q E hr h=>hbody f cdv A outer s H vs Q E hr h,F.binds hb,F.kp,m⟩
theorem Vv{X:Cx}{x:Str}{k n:Nat}{sp:Sp}{e:Expr}{es:List Expr}{p pos:Pos}{t:TA}(C:mO X.prog X.w X.K X.mg X.base x k n sp)(hr:dH k X.A)(hg:Gl X x)
  (ha:PA X (e::es) t) (hdb:(x==("__debug__" : Str))=false:=by decide) (he:starEach (e::es) X.env=(false,eval e X.env)::starEach es X.env:=by rfl) (hpl:(backTo pos (starEach es X.env)).any (·.1)=false:=by rfl) :
  PE X (.Call (.Name x p) (e::es) [] pos) (xZ sp [] E0 t):=by
 obtain⟨f,fd,ps,_,F,hb,hk,hm⟩:=C.ex
 exact Oj F hr hg hm hk hb .nil Zk ha hdb he hpl
theorem call_of{sp:Sp}{E:XK}{t:TA}{σ:St}{H:Hp}{Q:VK}(h:t σ H λvs H1=>sp vs H1 Q E):xZ sp [] E t σ H Q:=by
 unfold xZ
 have e:(λ(vs:List V) (H1:Hp)=>sp (vs++[]) H1 Q E)=λvs H1=>sp vs H1 Q E:=by funext vs H1;rw[L8]
 rw[e]
 exact h
theorem bD{H:Hp}{p:Addr}(h:H p=none)(o:HO):aD H (upd H p o):=λb u q=>by rw[aJ (bU q h)];exact q
theorem aD.tup{K:aA}{H H':Hp}{a:Addr}{xs:List V}(e:aD H H')(h:jP K H a xs):jP K H' a xs:=by
 rcases h with (h | ⟨o,h⟩) | h
 ·exact .inl (.inl (e _ _ h))
 ·exact .inl (.inr ⟨o,e _ _ h⟩)
 ·exact .inr h
mutual
theorem aD.reads{K:aA}{H H':Hp}(e:aD H H'):∀(d:DV)(x:V),Reads K H d x→Reads K H' d x
 | .int i,x,h=>by unfold Reads at h ⊢;exact h
 | .non,x,h=>by unfold Reads at h ⊢;exact h
 | .lst ds,x,h=>by
  unfold Reads at h ⊢
  obtain⟨a,xs,r,hq,l⟩:=h
  exact⟨a,xs,r,e.seq hq,aD.Av e ds xs l⟩
 | .tup ds,x,h=>by
  unfold Reads at h ⊢
  obtain⟨a,xs,r,hq,l⟩:=h
  exact⟨a,xs,r,e.tup hq,aD.Av e ds xs l⟩
theorem aD.Av{K:aA}{H H':Hp}(e:aD H H'):∀(ds:List DV)(xs:List V),aZ K H ds xs→aZ K H' ds xs
 | [],xs,h=>by unfold aZ at h ⊢;exact h
 | d::ds,xs,h=>by
  unfold aZ at h ⊢
  obtain⟨y,ys,r,h1,h2⟩:=h
  exact⟨y,ys,r,aD.reads e d y h1,aD.Av e ds ys h2⟩
end
theorem qL:∀ns:List Int,bF (ns.map DV.int)=0
 | []=>by rw[D4];unfold bF;rfl
 | n::ns=>by rw[B3];unfold bF DV.depth;rw[qL ns];rfl
end L2
namespace L2
theorem bW.at{scope:PySem.Scope}{N:List PySem.Str}{k:Nat}{fr:List Nat}(mG:PySem.Scope)(oN:List PySem.Str)(h:Jl mG scope oN N k fr=true):bW mG scope oN N k fr:=bW.of h
end L2
namespace L2
open PySem PySem.Spec PyProof.Rows
def lN(H:Hp)(p:Addr):Prop:=(∀xs,H p≠some (.tup xs))∧∀o xs,H p≠some (.eV o (.tup xs))
theorem fG{H:Hp}{p:Addr}{xs:List V}(h:H p=some (.lst xs)):lN H p:=⟨λys e=>(by rw[h]at e;cases e),λo ys e=>(by rw[h]at e;cases e)⟩
theorem lO{H:Hp}{p:Addr}{kvs:List (Key×V)}(h:H p=some (.dK kvs)):lN H p:=⟨λys e=>(by rw[h]at e;cases e),λo ys e=>(by rw[h]at e;cases e)⟩
theorem jP.upd{K:aA}{H:Hp}{a p:Addr}{xs:List V}{o:HO}(h:jP K H a xs)(n:lN H p):jP K (upd H p o) a xs:=by
 rcases h with (h | ⟨u,h⟩) | h
 ·exact .inl (.inl (by rw[aJ (λz=>n.1 xs (by rw[←z];exact h))];exact h))
 ·exact .inl (.inr ⟨u,by rw[aJ (λz=>n.2 u xs (by rw[←z];exact h))];exact h⟩)
 ·exact .inr h
mutual
def cX:DV→Bool
 | .int _=>true
 | .non=>true
 | .lst _=>false
 | .tup ds=>bM ds
def bM:List DV→Bool
 | []=>true
 | d::ds=>cX d&&bM ds
end
mutual
theorem Gr{K:aA}{H:Hp}{p:Addr}{o:HO}(n:lN H p):∀(d:DV)(x:V),cX d=true→Reads K H d x→Reads K (upd H p o) d x
 | .int i,x,_,h=>by unfold Reads at h ⊢;exact h
 | .non,x,_,h=>by unfold Reads at h ⊢;exact h
 | .lst ds,x,hi,h=>by unfold cX at hi;cases hi
 | .tup ds,x,hi,h=>by
  unfold cX at hi
  unfold Reads at h ⊢
  obtain⟨a,xs,r,hq,l⟩:=h
  exact⟨a,xs,r,hq.upd n,qM n ds xs hi l⟩
theorem qM{K:aA}{H:Hp}{p:Addr}{o:HO}(n:lN H p):∀(ds:List DV)(xs:List V),bM ds=true→aZ K H ds xs→aZ K (upd H p o) ds xs
 | [],xs,_,h=>by unfold aZ at h ⊢;exact h
 | d::ds,xs,hi,h=>by
  unfold bM at hi
  rw[G8]at hi
  unfold aZ at h ⊢
  obtain⟨y,ys,r,h1,h2⟩:=h
  exact⟨y,ys,r,Gr n d y hi.1 h1,qM n ds ys hi.2 h2⟩
end
theorem lQ{n d:Nat}{k:Nat}:HT.oU n d (some (k:Int))=min k n:=HT.Om n d k
end L2
namespace L2
open PySem PySem.Spec PyProof.Rows
section
variable{X:Cx}
end
end L2
namespace L2
open PySem PySem.Spec PyProof.Rows
end L2
namespace L2
open PySem PySem.Spec PyProof.Rows
section
variable{X:Cx}
end
theorem yI{K:aA}:E1 K (.type "int") (.type "int")=some true:=by unfold E1;rfl
theorem tX{K:aA}:E1 K (.type "bool") (.type "bool")=some true:=by unfold E1;rfl
theorem tY{K:aA}:E1 K (.type "list") (.type "list")=some true:=by unfold E1;rfl
theorem oX{K:aA}:E1 K (.type "tuple") (.type "tuple")=some true:=by unfold E1;rfl
theorem wH{K:aA}:E1 K (.type "int") (.type "bool")=some false:=by
  first | rfl | decide | (unfold E1 T8;rfl) | (unfold E1 T8;simp;decide)
end L2


namespace L2
open PySem PySem.Spec PyProof.Rows
section
variable{X:Cx}
open SeqAt in
theorem Vw(hu:X.A.units+64<cLine):jQ X (compareOp .NotEq) (λx y H Q=>∃ds es,Reads X.K H (.tup ds) x∧Reads X.K H (.tup es) y∧bF ds≤32∧Q (.bl (!iB (.tup ds) (.tup es))) H):=by
 intro pins s σ H x y v u Q I rx ry h
 obtain⟨ds,es,r1,r2,hd,q⟩:=h
 unfold Reads at r1 r2
 obtain⟨a,xs,rfl,hq1,Gq⟩:=r1
 obtain⟨b,ys,rfl,hq2,Aq⟩:=r2
 cases rx
 cases ry
 obtain⟨jT,v1,lM,_⟩:=I.tuple hq1
 obtain⟨its2,v2,oW,_⟩:=I.tuple hq2
 have e1:jT.toArray.size=ds.length:=by rw[B0,←v1.length,Gq.length]
 have e2:its2.toArray.size=es.length:=by rw[B0,←v2.length,Aq.length]
 have rc:RcNeAt X.A s (.ref a) (.ref b) (!iB (.tup ds) (.tup es)):=by
  have z:=RcNeAt.tuples (A:=X.A) (s:=s) (l:=a) (b:=b) lM oW (by omega) (qK I 32 X.A (λd e x y u v A a1 a2 a3 a4 a5 a6=>wG I 32 d e x y u v A a1 a2 a3 a4 a5 a6) ds es xs ys jT its2 hd (by omega) Gq Aq v1 v2)
  rw[e1,e2]at z
  by_cases hl:ds.length=es.length
  ·rw[←hl,O2,cW hl]at z
   rw[Dr]
   simpa using z
  ·rw[bV (by intro z;cases z;exact hl rfl)]
   have zz:(ds.length==es.length)=false:=by simpa using hl
   rw[zz,T7]at z
   exact z
 exact rc X.prog X.w X.xe _ ⟨.bl _,H,I,rfl,q⟩
end
end L2


namespace L2
open PySem PySem.Spec PyProof.Rows
inductive D where
  | non | bl (b:Bool) | int (i:Int) | str (x:Str)
  | lst (ds:List D) | tup (ds:List D)
  | dk (ks:List Key) (ds:List D)
  | dt (ks:List (List Key)) (ds:List D)
  | ins (C:Addr) (nm:List Str) (ds:List D)
abbrev Fp:=Addr→Prop
def Apart(A B:Fp):Prop:=∀x,A x→¬B x
def Is(A B:Fp):Prop:=∀x,A x↔B x
def None(A:Fp):Prop:=∀x,¬A x
abbrev cI(A B:Fp):Fp:=λx=>A x∨B x
mutual
def Rv(K:aA)(H:Hp):D→V→Prop
 | .non,v=>v=.non
 | .bl b,v=>v=.bl b
 | .int i,v=>v=.int i
 | .str x,v=>v=.str x
 | .lst ds,v=>∃a xs,v=.ref a∧gW K H a xs∧bC K H ds xs
 | .tup ds,v=>∃a xs,v=.ref a∧jP K H a xs∧bC K H ds xs
 | .dk ks ds,v=>∃a xs,v=.ref a∧Rd H a (.dK (ks.zip xs))∧ks.length=xs.length∧bC K H ds xs
 | .dt ks ds,v=>∃a xs,v=.ref a∧Rd H a (.dT (ks.zip xs))∧ks.length=xs.length∧bC K H ds xs
 | .ins C nm ds,v=>∃a dx xs,v=.ref a∧H a=some (.ins C dx (nm.zip xs))∧nm.length=xs.length∧bC K H ds xs
def bC(K:aA)(H:Hp):List D→List V→Prop
 | [],xs=>xs=[]
 | d::ds,xs=>∃y ys,xs=y::ys∧Rv K H d y∧bC K H ds ys
end
theorem aD.rd{H H':Hp}(e:aD H H'){a:Addr}{u:HO}(h:Rd H a u):Rd H' a u:=by
 rcases h with h | ⟨o,h⟩
 ·exact .inl (e _ _ h)
 ·exact .inr ⟨o,e _ _ h⟩
mutual
theorem aD.rv{K:aA}{H H':Hp}(e:aD H H'):∀(d:D)(v:V),Rv K H d v→Rv K H' d v
 | .non,v,h=>by unfold Rv at h ⊢;exact h
 | .bl _,v,h=>by unfold Rv at h ⊢;exact h
 | .int _,v,h=>by unfold Rv at h ⊢;exact h
 | .str _,v,h=>by unfold Rv at h ⊢;exact h
 | .lst ds,v,h=>by unfold Rv at h ⊢;obtain⟨a,xs,r,hq,l⟩:=h;exact⟨a,xs,r,e.seq hq,aD.Ig e ds xs l⟩
 | .tup ds,v,h=>by unfold Rv at h ⊢;obtain⟨a,xs,r,hq,l⟩:=h;exact⟨a,xs,r,e.tup hq,aD.Ig e ds xs l⟩
 | .dk ks ds,v,h=>by unfold Rv at h ⊢;obtain⟨a,xs,r,hq,hl,l⟩:=h;exact⟨a,xs,r,e.rd hq,hl,aD.Ig e ds xs l⟩
 | .dt ks ds,v,h=>by unfold Rv at h ⊢;obtain⟨a,xs,r,hq,hl,l⟩:=h;exact⟨a,xs,r,e.rd hq,hl,aD.Ig e ds xs l⟩
 | .ins C nm ds,v,h=>by unfold Rv at h ⊢;obtain⟨a,dx,xs,r,hq,hl,l⟩:=h;exact⟨a,dx,xs,r,e _ _ hq,hl,aD.Ig e ds xs l⟩
theorem aD.Ig{K:aA}{H H':Hp}(e:aD H H'):∀(ds:List D)(xs:List V),bC K H ds xs→bC K H' ds xs
 | [],xs,h=>by unfold bC at h ⊢;exact h
 | d::ds,xs,h=>by unfold bC at h ⊢;obtain⟨y,ys,r,h1,h2⟩:=h;exact⟨y,ys,r,aD.rv e d y h1,aD.Ig e ds ys h2⟩
end
theorem bC.length{K:aA}{H:Hp}:∀{ds:List D} {xs:List V},bC K H ds xs→xs.length=ds.length
 | [],xs,h=>by unfold bC at h;subst h;rfl
 | d::ds,xs,h=>by unfold bC at h;obtain⟨y,ys,rfl,_,h2⟩:=h;rw[F0,F0,bC.length h2]
theorem bC.get{K:aA}{H:Hp}:∀{ds:List D} {xs:List V} {i:Nat} {d:D},bC K H ds xs→ds[i]?=some d→∃x,xs[i]?=some x∧Rv K H d x
 | [],xs,i,d,h,e=>by simp at e
 | d'::ds,xs,0,d,h,e=>by unfold bC at h;obtain⟨y,ys,rfl,h1,_⟩:=h;simp at e;subst e;exact⟨y,rfl,h1⟩
 | d'::ds,xs,i+1,d,h,e=>by
  unfold bC at h
  obtain⟨y,ys,rfl,_,h2⟩:=h
  obtain⟨x,e1,e2⟩:=bC.get (i:=i) (d:=d) h2 (by simpa using e)
  exact⟨x,by simpa using e1,e2⟩
def cQ{α β:Type}(R:α→Fp→β→Prop):List α→Fp→List β→Prop
 | [],A,ys=>None A∧ys=[]
 | d::ds,A,ys=>∃y yt A1 A2,ys=y::yt∧Apart A1 A2∧Is A (cI A1 A2)∧R d A1 y∧cQ R ds A2 yt
section
variable{α β:Type}{R R':α→Fp→β→Prop}
theorem cQ.congr:∀{ds:List α} {A A':Fp} {ys:List β},cQ R ds A ys→Is A A'→cQ R ds A' ys
 | [],A,A',ys,h,e=>⟨λx q=>h.1 x ((e x).mpr q),h.2⟩
 | d::ds,A,A',ys,⟨y,yt,A1,A2,h1,h2,h3,h4⟩,e=>⟨y,yt,A1,A2,h1,h2,λx=>((e x).symm).trans (h3 x),h4⟩
theorem cQ.mono:∀{ds:List α} {A:Fp} {ys:List β},cQ R ds A ys→(∀e B z,(∀x,B x→A x)→R e B z→R' e B z)→cQ R' ds A ys
 | [],A,ys,h,_=>h
 | d::ds,A,ys,⟨y,yt,A1,A2,h1,h2,h3,h4,h5⟩,m=>
  ⟨y,yt,A1,A2,h1,h2,h3,m _ _ _ (λx q=>(h3 x).mpr (.inl q)) h4,h5.mono λe B z hb=>m e B z λx q=>(h3 x).mpr (.inr (hb x q))⟩
theorem cQ.focus:∀{ds:List α} {A:Fp} {ys:List β} {i:Nat} {d:α},cQ R ds A ys→ds[i]?=some d→∃y A1 C,ys[i]?=some y∧Apart A1 C∧Is A (cI A1 C)∧R d A1 y ∧
    ∀(R':α→Fp→β→Prop),(∀e B z,(∀x,B x→C x)→R e B z→R' e B z)→∀d' y' Np,Apart Np C→R' d' Np y'→cQ R' (ds.set i d') (cI Np C) (ys.set i y')
  | [],A,ys,i,d,h,e=>by simp at e
  | d0::ds,A,ys,0,d,⟨y,yt,A1,A2,h1,h2,h3,h4,h5⟩,e=>by
    simp at e
    subst e h1
    exact⟨y,A1,A2,rfl,h2,h3,h4,λR' m d' y' Np ap r=>⟨y',yt,Np,A2,rfl,ap,λx=>Iff.rfl,r,h5.mono m⟩⟩
  | d0::ds,A,ys,i+1,d,⟨y,yt,A1,A2,h1,h2,h3,h4,h5⟩,e=>by
    subst h1
    obtain⟨z,B1,C,e1,ap,hA,r,k⟩:=cQ.focus (i:=i) (d:=d) h5 (by simpa using e)
    refine⟨z,B1,cI A1 C,by simpa using e1,?_,?_,r,λR' m d' y' Np ap' r'=>?_⟩
    · intro x hx hc
      rcases hc with hc | hc
      · exact h2 x hc ((hA x).mpr (.inl hx))
      · exact ap x hx hc
    · intro x
      rw[h3 x]
      constructor
      · rintro(q | q)
        · exact .inr (.inl q)
        · rcases(hA x).mp q with q | q
          · exact .inl q
          · exact .inr (.inr q)
      · rintro(q | q | q)
        · exact .inr ((hA x).mpr (.inl q))
        · exact .inl q
        · exact .inr ((hA x).mpr (.inr q))
    · refine⟨y,_,A1,cI Np C,rfl,?_,?_,m _ _ _ (λx q=>.inl q) h4,k R' (λe B z hb=>m e B z λx q=>.inr (hb x q)) d' y' Np (λx q q'=>ap' x q (.inr q')) r'⟩
      · intro x q q'
        rcases q' with q' | q'
        · exact ap' x q' (.inl q)
        · exact h2 x q ((hA x).mpr (.inr q'))
      · intro x
        show (Np x∨A1 x∨C x)↔(A1 x∨Np x∨C x)
        constructor
        · rintro(q | q | q)
          · exact .inr (.inl q)
          · exact .inl q
          · exact .inr (.inr q)
        · rintro(q | q | q)
          · exact .inr (.inl q)
          · exact .inl q
          · exact .inr (.inr q)
theorem cQ.snoc:∀{ds:List α} {A A1:Fp} {ys:List β} {d:α} {y:β},cQ R ds A ys→R d A1 y→Apart A A1→cQ R (ds++[d]) (cI A A1) (ys++[y])
 | [],A,A1,ys,d,y,h,r,ap=>by
  rw[h.2]
  exact⟨y,[],A1,λ_=>False,rfl,λ_ _ z=>z,λx=>⟨λq=>q.elim (λq=>absurd q (h.1 x)) .inl,λq=>q.elim .inr False.elim⟩,r,λ_ z=>z,rfl⟩
 | d0::ds,A,A1,ys,d,y,⟨y0,yt,B1,B2,h1,h2,h3,h4,h5⟩,r,ap=>by
  subst h1
  refine⟨y0,yt++[y],B1,cI B2 A1,rfl,?_,?_,h4,cQ.snoc h5 r λx q=>ap x ((h3 x).mpr (.inr q))⟩
  ·intro x q q'
   rcases q' with q' | q'
   ·exact h2 x q q'
   ·exact ap x ((h3 x).mpr (.inl q)) q'
  ·intro x
   show (A x∨A1 x)↔(B1 x∨B2 x∨A1 x)
   rw[h3 x]
   exact or_assoc
end
mutual
def Ow(K:aA)(H:Hp):D→Fp→V→Prop
 | .non,A,v=>None A∧v=.non
 | .bl b,A,v=>None A∧v=.bl b
 | .int i,A,v=>None A∧v=.int i
 | .str x,A,v=>None A∧v=.str x
 | .lst ds,A,v=>∃a xs B,v=.ref a∧H a=some (.lst xs)∧¬B a∧Is A (cI (·=a) B)∧bH K H ds B xs
 | .tup ds,A,v=>∃a xs,v=.ref a∧jP K H a xs∧bH K H ds A xs
 | .dk ks ds,A,v=>∃a xs B,v=.ref a∧H a=some (.dK (ks.zip xs))∧ks.length=xs.length∧¬B a∧Is A (cI (·=a) B)∧bH K H ds B xs
 | .dt ks ds,A,v=>∃a xs B,v=.ref a∧H a=some (.dT (ks.zip xs))∧ks.length=xs.length∧¬B a∧Is A (cI (·=a) B)∧bH K H ds B xs
 | .ins C nm ds,A,v=>∃a dx xs B,v=.ref a∧H a=some (.ins C dx (nm.zip xs))∧H dx=some (.own a)∧nm.length=xs.length∧¬B a∧¬B dx∧Is A (cI (λx=>x=a∨x=dx) B)∧bH K H ds B xs
def bH(K:aA)(H:Hp):List D→Fp→List V→Prop
 | [],A,ys=>None A∧ys=[]
 | d::ds,A,ys=>∃y yt A1 A2,ys=y::yt∧Apart A1 A2∧Is A (cI A1 A2)∧Ow K H d A1 y∧bH K H ds A2 yt
end
theorem cA{K:aA}{H:Hp}:∀{ds:List D} {A:Fp} {ys:List V},bH K H ds A ys↔cQ (Ow K H) ds A ys
 | [],A,ys=>by unfold bH cQ;exact Iff.rfl
 | d::ds,A,ys=>by
  unfold bH cQ
  constructor
  ·rintro⟨y,yt,A1,A2,h1,h2,h3,h4,h5⟩;exact⟨y,yt,A1,A2,h1,h2,h3,h4,cA.mp h5⟩
  ·rintro⟨y,yt,A1,A2,h1,h2,h3,h4,h5⟩;exact⟨y,yt,A1,A2,h1,h2,h3,h4,cA.mpr h5⟩
def mQ(K:aA)(H H':Hp):Prop:=∀a xs,jP K H a xs→jP K H' a xs
theorem aD.tk{K:aA}{H H':Hp}(e:aD H H'):mQ K H H':=λ_ _ h=>e.tup h
theorem Ow.congr{K:aA}{H:Hp}{d:D}{A A':Fp}{v:V}(h:Ow K H d A v)(e:Is A A'):Ow K H d A' v:=by
 cases d with
 | non=>unfold Ow at h ⊢;exact⟨λx q=>h.1 x ((e x).mpr q),h.2⟩
 | bl b=>unfold Ow at h ⊢;exact⟨λx q=>h.1 x ((e x).mpr q),h.2⟩
 | int b=>unfold Ow at h ⊢;exact⟨λx q=>h.1 x ((e x).mpr q),h.2⟩
 | str b=>unfold Ow at h ⊢;exact⟨λx q=>h.1 x ((e x).mpr q),h.2⟩
 | lst ds=>unfold Ow at h ⊢;obtain⟨a,xs,B,h1,h2,h3,h4,h5⟩:=h;exact⟨a,xs,B,h1,h2,h3,λx=>(e x).symm.trans (h4 x),h5⟩
 | tup ds=>unfold Ow at h ⊢;obtain⟨a,xs,h1,h2,h3⟩:=h;exact⟨a,xs,h1,h2,cA.mpr ((cA.mp h3).congr e)⟩
 | dk ks ds=>unfold Ow at h ⊢;obtain⟨a,xs,B,h1,h2,h2',h3,h4,h5⟩:=h;exact⟨a,xs,B,h1,h2,h2',h3,λx=>(e x).symm.trans (h4 x),h5⟩
 | dt ks ds=>unfold Ow at h ⊢;obtain⟨a,xs,B,h1,h2,h2',h3,h4,h5⟩:=h;exact⟨a,xs,B,h1,h2,h2',h3,λx=>(e x).symm.trans (h4 x),h5⟩
 | ins C nm ds=>unfold Ow at h ⊢;obtain⟨a,dx,xs,B,h1,h2,h2',h3,h3',h3'',h4,h5⟩:=h;exact⟨a,dx,xs,B,h1,h2,h2',h3,h3',h3'',λx=>(e x).symm.trans (h4 x),h5⟩
mutual
theorem Ow.frame{K:aA}{H H':Hp}(t:mQ K H H'):∀(d:D)(A:Fp)(v:V),Ow K H d A v→(∀a,A a→H' a=H a)→Ow K H' d A v
 | .non,A,v,h,f=>by unfold Ow at h ⊢;exact h
 | .bl _,A,v,h,f=>by unfold Ow at h ⊢;exact h
 | .int _,A,v,h,f=>by unfold Ow at h ⊢;exact h
 | .str _,A,v,h,f=>by unfold Ow at h ⊢;exact h
 | .lst ds,A,v,h,f=>by
  unfold Ow at h ⊢
  obtain⟨a,xs,B,h1,h2,h3,h4,h5⟩:=h
  exact⟨a,xs,B,h1,(f a ((h4 a).mpr (.inl rfl))).trans h2,h3,h4,bH.frame t ds B xs h5 λb q=>f b ((h4 b).mpr (.inr q))⟩
 | .tup ds,A,v,h,f=>by unfold Ow at h ⊢;obtain⟨a,xs,h1,h2,h3⟩:=h;exact⟨a,xs,h1,t _ _ h2,bH.frame t ds A xs h3 f⟩
 | .dk ks ds,A,v,h,f=>by
  unfold Ow at h ⊢
  obtain⟨a,xs,B,h1,h2,h2',h3,h4,h5⟩:=h
  exact⟨a,xs,B,h1,(f a ((h4 a).mpr (.inl rfl))).trans h2,h2',h3,h4,bH.frame t ds B xs h5 λb q=>f b ((h4 b).mpr (.inr q))⟩
 | .dt ks ds,A,v,h,f=>by
  unfold Ow at h ⊢
  obtain⟨a,xs,B,h1,h2,h2',h3,h4,h5⟩:=h
  exact⟨a,xs,B,h1,(f a ((h4 a).mpr (.inl rfl))).trans h2,h2',h3,h4,bH.frame t ds B xs h5 λb q=>f b ((h4 b).mpr (.inr q))⟩
 | .ins C nm ds,A,v,h,f=>by
  unfold Ow at h ⊢
  obtain⟨a,dx,xs,B,h1,h2,h2',h3,h3',h3'',h4,h5⟩:=h
  exact⟨a,dx,xs,B,h1,(f a ((h4 a).mpr (.inl (.inl rfl)))).trans h2,(f dx ((h4 dx).mpr (.inl (.inr rfl)))).trans h2',h3,h3',h3'',h4,bH.frame t ds B xs h5 λb q=>f b ((h4 b).mpr (.inr q))⟩
theorem bH.frame{K:aA}{H H':Hp}(t:mQ K H H'):∀(ds:List D)(A:Fp)(ys:List V),bH K H ds A ys→(∀a,A a→H' a=H a)→bH K H' ds A ys
 | [],A,ys,h,f=>by unfold bH at h ⊢;exact h
 | d::ds,A,ys,h,f=>by
  unfold bH at h ⊢
  obtain⟨y,yt,A1,A2,h1,h2,h3,h4,h5⟩:=h
  exact⟨y,yt,A1,A2,h1,h2,h3,Ow.frame t d A1 y h4 λb q=>f b ((h3 b).mpr (.inl q)),bH.frame t ds A2 yt h5 λb q=>f b ((h3 b).mpr (.inr q))⟩
end
mutual
theorem Ow.rv{K:aA}{H:Hp}:∀(d:D)(A:Fp)(v:V),Ow K H d A v→Rv K H d v
 | .non,A,v,h=>by unfold Ow at h;unfold Rv;exact h.2
 | .bl _,A,v,h=>by unfold Ow at h;unfold Rv;exact h.2
 | .int _,A,v,h=>by unfold Ow at h;unfold Rv;exact h.2
 | .str _,A,v,h=>by unfold Ow at h;unfold Rv;exact h.2
 | .lst ds,A,v,h=>by unfold Ow at h;unfold Rv;obtain⟨a,xs,B,h1,h2,h3,h4,h5⟩:=h;exact⟨a,xs,h1,gW.of h2,bH.rv ds B xs h5⟩
 | .tup ds,A,v,h=>by unfold Ow at h;unfold Rv;obtain⟨a,xs,h1,h2,h3⟩:=h;exact⟨a,xs,h1,h2,bH.rv ds A xs h3⟩
 | .dk ks ds,A,v,h=>by unfold Ow at h;unfold Rv;obtain⟨a,xs,B,h1,h2,h2',h3,h4,h5⟩:=h;exact⟨a,xs,h1,.inl h2,h2',bH.rv ds B xs h5⟩
 | .dt ks ds,A,v,h=>by unfold Ow at h;unfold Rv;obtain⟨a,xs,B,h1,h2,h2',h3,h4,h5⟩:=h;exact⟨a,xs,h1,.inl h2,h2',bH.rv ds B xs h5⟩
 | .ins C nm ds,A,v,h=>by unfold Ow at h;unfold Rv;obtain⟨a,dx,xs,B,h1,h2,h2',h3,h3',h3'',h4,h5⟩:=h;exact⟨a,dx,xs,h1,h2,h3,bH.rv ds B xs h5⟩
theorem bH.rv{K:aA}{H:Hp}:∀(ds:List D)(A:Fp)(ys:List V),bH K H ds A ys→bC K H ds ys
 | [],A,ys,h=>by unfold bH at h;unfold bC;exact h.2
 | d::ds,A,ys,h=>by unfold bH at h;unfold bC;obtain⟨y,yt,A1,A2,h1,h2,h3,h4,h5⟩:=h;exact⟨y,yt,h1,Ow.rv d A1 y h4,bH.rv ds A2 yt h5⟩
end
def iC(H:Hp)(a:Addr):Prop:=(∃o,H a=some o)∧lN H a
mutual
theorem Ow.cells{K:aA}{H:Hp}:∀(d:D)(A:Fp)(v:V),Ow K H d A v→∀a,A a→iC H a
 | .non,A,v,h,a,q=>by unfold Ow at h;exact absurd q (h.1 a)
 | .bl _,A,v,h,a,q=>by unfold Ow at h;exact absurd q (h.1 a)
 | .int _,A,v,h,a,q=>by unfold Ow at h;exact absurd q (h.1 a)
 | .str _,A,v,h,a,q=>by unfold Ow at h;exact absurd q (h.1 a)
 | .lst ds,A,v,h,a,q=>by
  unfold Ow at h
  obtain⟨p,xs,B,h1,h2,h3,h4,h5⟩:=h
  rcases(h4 a).mp q with z | z
  ·cases z;exact⟨⟨_,h2⟩,fG h2⟩
  ·exact bH.cells ds B xs h5 a z
 | .tup ds,A,v,h,a,q=>by unfold Ow at h;obtain⟨p,xs,h1,h2,h3⟩:=h;exact bH.cells ds A xs h3 a q
 | .dk ks ds,A,v,h,a,q=>by
  unfold Ow at h
  obtain⟨p,xs,B,h1,h2,h2',h3,h4,h5⟩:=h
  rcases(h4 a).mp q with z | z
  ·cases z;exact⟨⟨_,h2⟩,lO h2⟩
  ·exact bH.cells ds B xs h5 a z
 | .dt ks ds,A,v,h,a,q=>by
  unfold Ow at h
  obtain⟨p,xs,B,h1,h2,h2',h3,h4,h5⟩:=h
  rcases(h4 a).mp q with z | z
  ·cases z;exact⟨⟨_,h2⟩,λys e=>(by rw[h2]at e;cases e),λo ys e=>(by rw[h2]at e;cases e)⟩
  ·exact bH.cells ds B xs h5 a z
 | .ins C nm ds,A,v,h,a,q=>by
  unfold Ow at h
  obtain⟨p,dx,xs,B,h1,h2,h2',h3,h3',h3'',h4,h5⟩:=h
  rcases(h4 a).mp q with (z | z) | z
  ·cases z;exact⟨⟨_,h2⟩,λys e=>(by rw[h2]at e;cases e),λo ys e=>(by rw[h2]at e;cases e)⟩
  ·cases z;exact⟨⟨_,h2'⟩,λys e=>(by rw[h2']at e;cases e),λo ys e=>(by rw[h2']at e;cases e)⟩
  ·exact bH.cells ds B xs h5 a z
theorem bH.cells{K:aA}{H:Hp}:∀(ds:List D)(A:Fp)(ys:List V),bH K H ds A ys→∀a,A a→iC H a
 | [],A,ys,h,a,q=>by unfold bH at h;exact absurd q (h.1 a)
 | d::ds,A,ys,h,a,q=>by
  unfold bH at h
  obtain⟨y,yt,A1,A2,h1,h2,h3,h4,h5⟩:=h
  rcases(h3 a).mp q with z | z
  ·exact Ow.cells d A1 y h4 a z
  ·exact bH.cells ds A2 yt h5 a z
end
mutual
def D.cX:D→Bool
  | .non=>true | .bl _=>true | .int _=>true | .str _=>true
  | .tup ds=>D.bM ds
  | _=>false
def D.bM:List D→Bool
  | []=>true
  | d::ds=>D.cX d&&D.bM ds
end
abbrev nil:Fp:=λ_=>False
mutual
theorem qN{K:aA}{H:Hp}:∀(d:D)(v:V),d.cX=true→Rv K H d v→Ow K H d nil v
 | .non,v,_,h=>by unfold Rv at h;unfold Ow;exact⟨λ_ z=>z,h⟩
 | .bl _,v,_,h=>by unfold Rv at h;unfold Ow;exact⟨λ_ z=>z,h⟩
 | .int _,v,_,h=>by unfold Rv at h;unfold Ow;exact⟨λ_ z=>z,h⟩
 | .str _,v,_,h=>by unfold Rv at h;unfold Ow;exact⟨λ_ z=>z,h⟩
 | .tup ds,v,i,h=>by unfold D.cX at i;unfold Rv at h;unfold Ow;obtain⟨a,xs,h1,h2,h3⟩:=h;exact⟨a,xs,h1,h2,wI ds xs i h3⟩
 | .lst ds,v,i,h=>by unfold D.cX at i;cases i
 | .dk _ ds,v,i,h=>by unfold D.cX at i;cases i
 | .dt _ ds,v,i,h=>by unfold D.cX at i;cases i
 | .ins _ _ ds,v,i,h=>by unfold D.cX at i;cases i
theorem wI{K:aA}{H:Hp}:∀(ds:List D)(ys:List V),D.bM ds=true→bC K H ds ys→bH K H ds nil ys
 | [],ys,_,h=>by unfold bC at h;unfold bH;exact⟨λ_ z=>z,h⟩
 | d::ds,ys,i,h=>by
  unfold D.bM at i
  rw[G8]at i
  unfold bC at h
  unfold bH
  obtain⟨y,yt,h1,h2,h3⟩:=h
  exact⟨y,yt,nil,nil,h1,λ_ z _=>z,λx=>⟨False.elim,λz=>z.elim id id⟩,qN d y i.1 h2,wI ds yt i.2 h3⟩
end
open Classical in
noncomputable def out(H:Hp)(A:Fp):Hp:=λa=>if A a then none else H a
theorem Vx{H:Hp}{A:Fp}{a:Addr}(h:¬A a):out H A a=H a:=by unfold out;rw[if_neg h]
theorem aV{H:Hp}{A:Fp}{a:Addr}{o:HO}:out H A a=some o↔¬A a∧H a=some o:=by
 unfold out
 split
 ·rename_i h;exact⟨λz=>(by cases z),λz=>absurd h z.1⟩
 ·rename_i h;exact⟨λz=>⟨h,z⟩,λz=>z.2⟩
theorem iD(H:Hp)(A:Fp):aD (out H A) H:=λb o h=>(aV.mp h).2
theorem Js{K:aA}{H:Hp}{A:Fp}(h:∀a,A a→lN H a):mQ K H (out H A):=λa xs q=>by
 rcases q with (q | ⟨o,q⟩) | q
 ·exact .inl (.inl (aV.mpr ⟨λz=>(h a z).1 _ q,q⟩))
 ·exact .inl (.inr ⟨o,aV.mpr ⟨λz=>(h a z).2 _ _ q,q⟩⟩)
 ·exact .inr q
theorem Ow.out{K:aA}{H:Hp}{d:D}{A A':Fp}{v:V}(h:Ow K H d A' v)(ap:Apart A' A)(c:∀a,A a→lN H a):Rv K (out H A) d v:=
 Ow.rv d A' v (Ow.frame (Js c) d A' v h λa q=>Vx (ap a q))
end L2


namespace L2
open PySem PySem.Spec PyProof.Rows
abbrev DE:=List (Option D)
abbrev FE:=DE→Option D
abbrev FA:=DE→Option (List D)
abbrev FT:=DE→Option Bool
def iG(K:aA)(H:Hp)(e:DE)(σ:St):Prop:=∀(i:Nat)(d:D),e[i]?=some (some d)→∃v,σ[i]?=some (some v)∧Rv K H d v
theorem iG.same{K:aA}{H H':Hp}{e:DE}{σ:St}(h:iG K H e σ)(s:aD H H'):iG K H' e σ:=λi d q=>let ⟨v,h1,h2⟩:=h i d q;⟨v,h1,s.rv _ _ h2⟩
structure Zn(K:aA)(N:Fp)(Z H:Hp):Prop where
 sm:aD Z H
 tk:mQ K H Z
 no:∀a,N a→Z a=none∧¬H a=none
theorem Zn.self(K:aA)(H:Hp):Zn K nil H H:=⟨aD.refl _,λ_ _ h=>h,λ_ z=>z.elim⟩
theorem mQ.trans{K:aA}{H H1 H2:Hp}(a:mQ K H H1)(b:mQ K H1 H2):mQ K H H2:=λp xs h=>b p xs (a p xs h)
theorem Ow.same{K:aA}{H H':Hp}{d:D}{A:Fp}{v:V}(h:Ow K H d A v)(s:aD H H'):Ow K H' d A v:=
 Ow.frame s.tk d A v h λa q=>by
  obtain⟨⟨o,e⟩,_⟩:=Ow.cells d A v h a q
  rw[e];exact s a o e
theorem bH.same{K:aA}{H H':Hp}{ds:List D}{A:Fp}{vs:List V}(h:bH K H ds A vs)(s:aD H H'):bH K H' ds A vs:=
 bH.frame s.tk ds A vs h λa q=>by
  obtain⟨⟨o,e⟩,_⟩:=bH.cells ds A vs h a q
  rw[e];exact s a o e
def Ag(K:aA)(H H':Hp)(d:D)(v:V):Prop:=∃A,Ow K H' d A v∧∀a,A a→H a=none
def tZ(K:aA)(H H':Hp)(ds:List D)(vs:List V):Prop:=∃A,bH K H' ds A vs∧∀a,A a→H a=none
theorem tZ.rv{K:aA}{H H':Hp}{ds:List D}{vs:List V}(h:tZ K H H' ds vs):bC K H' ds vs:=let ⟨A,o,_⟩:=h;bH.rv ds A vs o
theorem Ag.back{K:aA}{H0 H H':Hp}{d:D}{v:V}(h:Ag K H H' d v)(s:aD H0 H):Ag K H0 H' d v:=let ⟨A,o,f⟩:=h;⟨A,o,λa q=>s.free (f a q)⟩
theorem Ag.cX{K:aA}{H H':Hp}{d:D}{v:V}(i:d.cX=true)(h:Rv K H' d v):Ag K H H' d v:=⟨nil,qN d v i h,λ_ z=>z.elim⟩
theorem tZ.bM{K:aA}{H H':Hp}{ds:List D}{vs:List V}(i:D.bM ds=true)(h:bC K H' ds vs):tZ K H H' ds vs:=⟨nil,wI ds vs i h,λ_ z=>z.elim⟩
open Classical in
noncomputable def wJ(Z H H':Hp):Hp:=λa=>if H a=none then H' a else Z a
theorem lR{Z H H':Hp}{a:Addr}(h:H a=none):wJ Z H H' a=H' a:=by unfold wJ;rw[if_pos h]
theorem qO{Z H H':Hp}{a:Addr}(h:¬H a=none):wJ Z H H' a=Z a:=by unfold wJ;rw[if_neg h]
theorem mR{K:aA}{N:Fp}{Z H H':Hp}(z:Zn K N Z H):aD Z (wJ Z H H'):=λb o e=>by
 rw[qO (by rw[z.sm b o e];intro q;cases q)];exact e
theorem wK{K:aA}{N:Fp}{Z H H':Hp}(z:Zn K N Z H)(s:aD H H'):Zn K N (wJ Z H H') H' where
  sm:=λb o e=>by
    by_cases c:H b=none
    · rw[lR c]at e;exact e
    · rw[qO c]at e;exact s b o (z.sm b o e)
  tk:=λa xs h=>by
    by_cases c:H a=none
    · rcases h with (h | ⟨o,h⟩) | h
      · exact .inl (.inl (by rw[lR c];exact h))
      · exact .inl (.inr ⟨o,by rw[lR c];exact h⟩)
      · exact .inr h
    · have q:jP K H a xs:=by
        rcases h with (h | ⟨o,h⟩) | h
        · cases e:H a with
          | none=>exact absurd e c
          | some o=>have:=s a o e;rw[h]at this;cases this;exact .inl (.inl e)
        · cases e:H a with
          | none=>exact absurd e c
          | some o=>have:=s a o e;rw[h]at this;cases this;exact .inl (.inr ⟨_,e⟩)
        · exact .inr h
      exact(mR z).tup (z.tk a xs q)
  no:=λa q=>⟨by rw[qO (z.no a q).2];exact(z.no a q).1,λh=>(z.no a q).2 (s.free h)⟩
theorem Ag.zone{K:aA}{N:Fp}{Z H H':Hp}{d:D}{v:V}(h:Ag K H H' d v)(z:Zn K N Z H)(s:aD H H'):Rv K (wJ Z H H') d v:=by
 obtain⟨A,o,f⟩:=h
 exact Ow.rv d A v (Ow.frame (wK z s).tk d A v o λa q=>lR (f a q))
def wL(K:aA)(t:TE)(f:FE):Prop:=∀{N:Fp}(σ:St)(H Z:Hp)(e:DE)(d:D)(Q:VK),Zn K N Z H→iG K Z e σ→f e=some d →
 (∀v H' Z',aD H H'→aD Z Z'→Zn K N Z' H'→Rv K Z' d v→Q v H')→t σ H Q
def uA(K:aA)(t:TE)(f:FE):Prop:=∀(σ:St)(H:Hp)(e:DE)(d:D)(Q:VK),iG K H e σ→f e=some d →
 (∀v H',aD H H'→Ag K H H' d v→Q v H')→t σ H Q
def Ah(K:aA)(t:TT)(f:FT):Prop:=∀(σ:St)(H:Hp)(e:DE)(b:Bool)(Q:Bool→Hp→Prop),iG K H e σ→f e=some b→(∀H',aD H H'→Q b H')→t σ H Q
def Yg(K:aA)(t:TA)(f:FA):Prop:=∀{N:Fp}(σ:St)(H Z:Hp)(e:DE)(ds:List D)(Q:List V→Hp→Prop),Zn K N Z H→iG K Z e σ→f e=some ds →
 (∀vs H' Z',aD H H'→aD Z Z'→Zn K N Z' H'→bC K Z' ds vs→Q vs H')→t σ H Q
def Yh(K:aA)(t:TA)(f:FA):Prop:=∀(σ:St)(H:Hp)(e:DE)(ds:List D)(Q:List V→Hp→Prop),iG K H e σ→f e=some ds →
 (∀vs H',aD H H'→tZ K H H' ds vs→Q vs H')→t σ H Q
theorem uA.r{K:aA}{t:TE}{f:FE}(h:uA K t f):wL K t f:=λσ H Z e d Q z r q k=>
 h σ H e d Q (r.same z.sm) q λv H' s n=>k v H' (wJ Z H H') s (mR z) (wK z s) (n.zone z s)
def dI(f:FE):FE:=λe=>(f e).bind λd=>if d.cX=true then some d else none
theorem uU{f:FE}{e:DE}{d:D}:dI f e=some d↔f e=some d∧d.cX=true:=by
 unfold dI
 cases q:f e with
 | none=>simp
 | some a=>
  simp only[C7]
  split
  ·rename_i h;constructor
   ·intro z;cases z;exact⟨rfl,h⟩
   ·rintro⟨z,_⟩;exact z
  ·rename_i h;constructor
   ·intro z;cases z
   ·rintro⟨z,z2⟩;cases z;exact absurd z2 h
theorem wL.n{K:aA}{t:TE}{f:FE}(h:wL K t f):uA K t (dI f):=λσ H e d Q r q k=>by
 obtain⟨q1,q2⟩:=uU.mp q
 exact h σ H H e d Q (Zn.self K H) r q1 λv H' Z' s1 s2 z' rv=>k v H' s1 (.cX q2 (z'.sm.rv _ _ rv))
def aG(i:Nat):FE:=λe=>(e[i]?).getD none
theorem Vy{K:aA}(i:Nat):wL K (tV i) (aG i):=λσ H Z e d Q z r q k=>by
 have e1:e[i]?=some (some d):=by
  unfold aG at q
  cases h:e[i]? with
  | none=>rw[h]at q;cases q
  | some o=>rw[h]at q;cases q;rfl
 obtain⟨v,h1,h2⟩:=r i d e1
 exact⟨v,h1,k v H Z (aD.refl _) (aD.refl _) z h2⟩
def fC(d:D):FE:=λ_=>some d
theorem Vz{K:aA}(i:Int):uA K (tC (.int i)) (fC (.int i)):=λσ H e d Q r q k=>by cases q;exact k _ H (aD.refl _) (.cX rfl (by unfold Rv;rfl))
theorem Zm{K:aA}(i:Bool):uA K (tC (.bl i)) (fC (.bl i)):=λσ H e d Q r q k=>by cases q;exact k _ H (aD.refl _) (.cX rfl (by unfold Rv;rfl))
theorem Jt{K:aA}(i:Str):uA K (tC (.str i)) (fC (.str i)):=λσ H e d Q r q k=>by cases q;exact k _ H (aD.refl _) (.cX rfl (by unfold Rv;rfl))
def f2(φ:D→D→Option D)(f g:FE):FE:=λe=>(f e).bind λa=>(g e).bind λb=>φ a b
theorem lU{φ:D→D→Option D}{f g:FE}{e:DE}{d:D}(h:f2 φ f g e=some d):∃a b,f e=some a∧g e=some b∧φ a b=some d:=by
 unfold f2 at h
 obtain⟨a,h1,h2⟩:=aR h
 obtain⟨b,h3,h4⟩:=aR h2
 exact⟨a,b,h1,h3,h4⟩
def RD(K:aA)(r:R2)(φ:D→D→Option D):Prop:=∀{N:Fp}(x y:V)(H Z:Hp)(a b d:D)(Q:VK),Zn K N Z H→Rv K Z a x→Rv K Z b y→φ a b=some d →
 (∀v H' Z',aD H H'→aD Z Z'→Zn K N Z' H'→Rv K Z' d v→Q v H')→r x y H Q
def Ju(K:aA)(r:R2)(φ:D→D→Option D):Prop:=∀(x y:V)(H:Hp)(a b d:D)(Q:VK),Rv K H a x→Rv K H b y→φ a b=some d →
 (∀v H',aD H H'→Ag K H H' d v→Q v H')→r x y H Q
theorem Zo{K:aA}{r:R2}{φ:D→D→Option D}{ta tb:TE}{f g:FE}(o:RD K r φ)(ha:wL K ta f)(hb:wL K tb g):wL K (xY r ta tb) (f2 φ f g):=λσ H Z e d Q z re q k=>by
 obtain⟨a,b,h1,h2,h3⟩:=lU q
 refine ha σ H Z e a _ z re h1 λx H1 Z1 s1 t1 z1 rx=>hb σ H1 Z1 e b _ z1 (re.same t1) h2 λy H2 Z2 s2 t2 z2 ry=>?_
 exact o x y H2 Z2 a b d Q z2 (t2.rv _ _ rx) ry h3 λv H3 Z3 s3 t3 z3 rv=>k v H3 Z3 (s1.trans (s2.trans s3)) (t1.trans (t2.trans t3)) z3 rv
theorem Jv{K:aA}{r:R2}{φ:D→D→Option D}{ta tb:TE}{f g:FE}(o:Ju K r φ)(ha:wL K ta f)(hb:wL K tb g):uA K (xY r ta tb) (f2 φ f g):=λσ H e d Q re q k=>by
 obtain⟨a,b,h1,h2,h3⟩:=lU q
 refine ha σ H H e a _ (Zn.self K H) re h1 λx H1 Z1 s1 t1 z1 rx=>hb σ H1 Z1 e b _ z1 (re.same t1) h2 λy H2 Z2 s2 t2 z2 ry=>?_
 exact o x y H2 a b d Q (z2.sm.rv _ _ (t2.rv _ _ rx)) (z2.sm.rv _ _ ry) h3 λv H3 s3 n=>k v H3 (s1.trans (s2.trans s3)) (n.back (s1.trans s2))
def tQ(C:Int→Int→Prop) [∀i j,Decidable (C i j)] (g:Int→Int→D):D→D→Option D
 | .int i,.int j=>if C i j then some (g i j)else none
 | _,_=>none
theorem qP{C:Int→Int→Prop} [∀i j,Decidable (C i j)] {g:Int→Int→D} {a b d:D} (h:tQ C g a b=some d):∃i j,a=.int i∧b=.int j∧C i j∧d=g i j:=by
 unfold tQ at h
 split at h
 ·split at h
  ·rename_i i j c;cases h;exact⟨i,j,rfl,rfl,c,rfl⟩
  ·cases h
 ·cases h
theorem qQ{K:aA}{C:Int→Int→Prop} [∀i j,Decidable (C i j)] {C':Int→Int→Prop} (hC:∀i j,C i j→C' i j) {g:Int→Int→Int}:Ju K (rI C' λi j=>.int (g i j)) (tQ C λi j=>.int (g i j)):=λx y H a b d Q ra rb q k=>by
 obtain⟨i,j,rfl,rfl,c,rfl⟩:=qP q
 unfold Rv at ra rb
 exact⟨i,j,ra,rb,hC i j c,k _ H (aD.refl _) (.cX rfl (by unfold Rv;rfl))⟩
theorem Pz{K:aA}{g:Int→Int→Int}:Ju K (Nj λi j=>.int (g i j)) (tQ (λ_ _=>True) λi j=>.int (g i j)):=λx y H a b d Q ra rb q k=>by
 obtain⟨i,j,rfl,rfl,c,rfl⟩:=qP q
 unfold Rv at ra rb
 exact⟨i,j,ra,rb,k _ H (aD.refl _) (.cX rfl (by unfold Rv;rfl))⟩
theorem Jw{K:aA}{g:Int→Int→Bool}:Ju K (Nj λi j=>.bl (g i j)) (tQ (λ_ _=>True) λi j=>.bl (g i j)):=λx y H a b d Q ra rb q k=>by
 obtain⟨i,j,rfl,rfl,c,rfl⟩:=qP q
 unfold Rv at ra rb
 exact⟨i,j,ra,rb,k _ H (aD.refl _) (.cX rfl (by unfold Rv;rfl))⟩
def aN:FA:=λ_=>some []
def aC(f:FE)(fs:FA):FA:=λe=>(f e).bind λa=>(fs e).bind λr=>some (a::r)
theorem nY{f:FE}{fs:FA}{e:DE}{ds:List D}(h:aC f fs e=some ds):∃a r,f e=some a∧fs e=some r∧ds=a::r:=by
 unfold aC at h
 obtain⟨a,h1,h2⟩:=aR h
 obtain⟨b,h3,h4⟩:=aR h2
 cases h4
 exact⟨a,b,h1,h3,rfl⟩
theorem Jx{K:aA}:Yg K oR aN:=λσ H Z e ds Q z re q k=>by cases q;exact k [] H Z (aD.refl _) (aD.refl _) z (by unfold bC;rfl)
theorem Ds{K:aA}{te:TE}{t:TA}{f:FE}{fs:FA}(h:wL K te f)(hs:Yg K t fs):Yg K (eX te t) (aC f fs):=λσ H Z e ds Q z re q k=>by
 obtain⟨a,r,h1,h2,rfl⟩:=nY q
 refine h σ H Z e a _ z re h1 λx H1 Z1 s1 t1 z1 rx=>hs σ H1 Z1 e r _ z1 (re.same t1) h2 λvs H2 Z2 s2 t2 z2 rs=>?_
 exact k _ H2 Z2 (s1.trans s2) (t1.trans t2) z2 (by unfold bC;exact⟨x,vs,rfl,t2.rv _ _ rx,rs⟩)
theorem Wa{K:aA}:Yh K oR aN:=λσ H e ds Q re q k=>by cases q;exact k [] H (aD.refl _) (.bM rfl (by unfold bC;rfl))
theorem Qa{K:aA}{te:TE}{t:TA}{f:FE}{fs:FA}(h:uA K te f)(hs:Yh K t fs):Yh K (eX te t) (aC f fs):=λσ H e ds Q re q k=>by
 obtain⟨a,r,h1,h2,rfl⟩:=nY q
 refine h σ H e a _ re h1 λx H1 s1 n1=>hs σ H1 e r _ (re.same s1) h2 λvs H2 s2 n2=>?_
 refine k _ H2 (s1.trans s2) ?_
 obtain⟨A,oA,fA⟩:=n1
 obtain⟨B,oB,fB⟩:=n2
 refine⟨cI A B,?_,λp q=>q.elim (fA p) λz=>s1.free (fB p z)⟩
 unfold bH
 refine⟨x,vs,A,B,rfl,λp qa qb=>?_,λ_=>Iff.rfl,oA.same s2,oB⟩
 obtain⟨⟨o,e1⟩,_⟩:=Ow.cells _ _ _ oA p qa
 rw[fB p qb]at e1;cases e1
def cap(n:Nat)(d:D):Option D:=if n≤100000 then some d else none
theorem qR{n:Nat}{d d':D}(h:cap n d=some d'):n≤100000∧d'=d:=by
 unfold cap at h
 split at h
 ·rename_i c;cases h;exact⟨c,rfl⟩
 ·cases h
theorem Dt{n:Nat}(h:n≤100000):n≤sizeLine:=by rw[sizeLine_eq];omega
theorem Du{n:Nat}(h:n≤100000):n<sizeLine:=by rw[sizeLine_eq];omega
def kI(fs:FA):FE:=λe=>(fs e).bind λds=>cap ds.length (.lst ds)
def mU(fs:FA):FE:=λe=>(fs e).bind λds=>cap ds.length (.tup ds)
theorem jG{K:aA}{H H1:Hp}{ds:List D}{xs:List V}{p:Addr}(s:aD H H1)(n:tZ K H H1 ds xs)(hp:H1 p=none):Ag K H (upd H1 p (.lst xs)) (.lst ds) (.ref p):=by
 obtain⟨A,o,f⟩:=n
 refine⟨cI (·=p) A,?_,λa q=>q.elim (λz=>by cases z;exact s.free hp) (f a)⟩
 unfold Ow
 refine⟨p,xs,A,rfl,aQ,λz=>?_,λ_=>Iff.rfl,o.same (bD hp _)⟩
 obtain⟨⟨u,e⟩,_⟩:=bH.cells _ _ _ o p z
 rw[hp]at e;cases e
theorem Qc{K:aA}{H H1:Hp}{ds:List D}{xs:List V}{p:Addr}(n:tZ K H H1 ds xs)(hp:H1 p=none):Ag K H (upd H1 p (.tup xs)) (.tup ds) (.ref p):=by
 obtain⟨A,o,f⟩:=n
 refine⟨A,?_,f⟩
 unfold Ow
 exact⟨p,xs,rfl,jP.of aQ,o.same (bD hp _)⟩
theorem Wb{K:aA}{t:TA}{fs:FA}(h:Yh K t fs):uA K (Ja t) (kI fs):=λσ H e d Q re q k=>by
 unfold kI at q
 obtain⟨ds,h1,h2⟩:=aR q
 obtain⟨hc,rfl⟩:=qR h2
 refine h σ H e ds _ re h1 λxs H1 s1 n=>⟨Dt (by rw[n.rv.length];exact hc),λp hp=>?_⟩
 exact k _ _ (s1.trans (bD hp _)) (jG s1 n hp)
theorem Wc{K:aA}{t:TA}{fs:FA}(h:Yh K t fs):uA K (Vd t) (mU fs):=λσ H e d Q re q k=>by
 unfold mU at q
 obtain⟨ds,h1,h2⟩:=aR q
 obtain⟨hc,rfl⟩:=qR h2
 refine h σ H e ds _ re h1 λxs H1 s1 n=>⟨Dt (by rw[n.rv.length];exact hc),λp hp=>?_⟩
 exact k _ _ (s1.trans (bD hp _)) (Qc n hp)
theorem Jy{K:aA}{N:Fp}{Z H:Hp}{p:Addr}{o:HO}(z:Zn K N Z H)(hp:H p=none):aD Z (upd Z p o)∧Zn K N (upd Z p o) (upd H p o):=by
 have hz:Z p=none:=z.sm.free hp
 refine⟨bD hz o,⟨λb u e=>?_,λa xs h=>?_,λa q=>?_⟩⟩
 ·by_cases c:b=p
  ·subst c;rw[aQ]at e;rw[aQ];exact e
  ·rw[aJ c]at e;rw[aJ c];exact z.sm b u e
 ·by_cases c:a=p
  ·subst c
   rcases h with (h | ⟨u,h⟩) | h
   ·rw[aQ]at h;exact .inl (.inl (by rw[aQ];exact h))
   ·rw[aQ]at h;exact .inl (.inr ⟨u,by rw[aQ];exact h⟩)
   ·exact .inr h
  ·have q:jP K H a xs:=by
    rcases h with (h | ⟨u,h⟩) | h
    ·rw[aJ c]at h;exact .inl (.inl h)
    ·rw[aJ c]at h;exact .inl (.inr ⟨u,h⟩)
    ·exact .inr h
   exact(bD hz o).tup (z.tk a xs q)
 ·have c:a≠p:=λz'=>(z.no a q).2 (by rw[z'];exact hp)
  rw[aJ c,aJ c];exact z.no a q
theorem Wd{K:aA}{t:TA}{fs:FA}(h:Yg K t fs):wL K (Ja t) (kI fs):=λσ H Z e d Q z re q k=>by
 unfold kI at q
 obtain⟨ds,h1,h2⟩:=aR q
 obtain⟨hc,rfl⟩:=qR h2
 refine h σ H Z e ds _ z re h1 λxs H1 Z1 s1 t1 z1 rs=>⟨Dt (by rw[rs.length];exact hc),λp hp=>?_⟩
 obtain⟨a1,a2⟩:=Jy (o:=.lst xs) z1 hp
 exact k _ _ _ (s1.trans (bD hp _)) (t1.trans a1) a2 (by unfold Rv;exact⟨p,xs,rfl,gW.of aQ,a1.Ig _ _ rs⟩)
end L2


namespace L2
open PySem PySem.Spec PyProof.Rows
structure XR(K:aA)(X:Cx)(e:Expr)(t:TE)(f:FE):Prop where
 hk:X.K=K
 pe:PE X e t
 ev:wL K t f
structure XN(K:aA)(X:Cx)(e:Expr)(t:TE)(f:FE):Prop where
 hk:X.K=K
 pe:PE X e t
 ev:uA K t f
structure XT(K:aA)(X:Cx)(e:Expr)(t:TT)(f:FT):Prop where
 hk:X.K=K
 pt:PT X e t
 ev:Ah K t f
structure XW(K:aA)(X:Cx)(e:Expr)(t:TT)(f:FT):Prop where
 hk:X.K=K
 pw:PW X e t
 ev:Ah K t f
structure XA(K:aA)(X:Cx)(es:List Expr)(t:TA)(f:FA):Prop where
 hk:X.K=K
 pa:PA X es t
 ev:Yg K t f
structure XB(K:aA)(X:Cx)(es:List Expr)(t:TA)(f:FA):Prop where
 hk:X.K=K
 pa:PA X es t
 ev:Yh K t f
section
variable{K:aA}{X:Cx}{e a b c:Expr}{es:List Expr}{t ta tb:TE}{f g:FE}{tA:TA}{fs:FA}{pos:Pos}
theorem XN.r(h:XN K X e t f):XR K X e t f:=⟨h.hk,h.pe,h.ev.r⟩
theorem XR.n(h:XR K X e t f):XN K X e t (dI f):=⟨h.hk,h.pe,wL.n h.ev⟩
theorem aK{i:Nat}(h:PE X e (tV i))(hk:X.K=K:=by rfl):XR K X e (tV i) (aG i):=⟨hk,h,Vy i⟩
theorem aL{i:Int}{j:Nat}(hk:X.K=K:=by rfl):XN K X (.Constant (.int i) j pos) (tC (.int i)) (fC (.int i)):=⟨hk,Ua,Vz i⟩
theorem yJ{i:Bool}{j:Nat}(hk:X.K=K:=by rfl):XN K X (.Constant (.bool i) j pos) (tC (.bl i)) (fC (.bl i)):=⟨hk,Yn,Zm i⟩
theorem Aw{x:Str}{j:Nat}(hk:X.K=K:=by rfl):XN K X (.Constant (.str x) j pos) (tC (.str x)) (fC (.str x)):=⟨hk,Ub,Jt x⟩
theorem qT{op:Operator}{r:R2}{φ:D→D→Option D}(ho:jQ X (binaryOp op) r)(hd:Ju K r φ)(ha:XR K X a ta f)(hb:XR K X b tb g):XN K X (.BinOp a op b pos) (xY r ta tb) (f2 φ f g):=⟨ha.hk,Yu ho ha.pe hb.pe,Jv hd ha.ev hb.ev⟩
def Jz:D→D→Option D:=tQ (λ_ _=>True) λi j=>.int (i-j)
instance (i j:Int):Decidable (vR i j):=by unfold vR;exact inferInstance
instance (i j:Int):Decidable (Ga i j):=by unfold Ga;exact inferInstance
instance (i j:Int):Decidable (Gb i j):=by unfold Gb;exact inferInstance
def Gs:D→D→Option D:=tQ vR λi j=>.int (i*j)
def Gu:D→D→Option D:=tQ Ga λi j=>.int (i/j)
def mV:D→D→Option D:=tQ (λ_ j=>0<j) λi j=>.int (i%j)
def oY:D→D→Option D:=tQ Gb λi j=>.int (i ^ j.toNat)
theorem Ka(ha:XR K X a ta f)(hb:XR K X b tb g):XN K X (.BinOp a .Sub b pos) (xY (Nj λi j=>.int (i-j)) ta tb) (f2 Jz f g):=qT Ux Pz ha hb
theorem Ax(ha:XR K X a ta f)(hb:XR K X b tb g):XN K X (.BinOp a .Mult b pos) (xY (rI vR λi j=>.int (i*j)) ta tb) (f2 Gs f g):=qT Uy (qQ λ_ _ h=>h) ha hb
theorem Ay(ha:XR K X a ta f)(hb:XR K X b tb g):XN K X (.BinOp a .FloorDiv b pos) (xY (rI Ga λi j=>.int (i/j)) ta tb) (f2 Gu f g):=qT Od (qQ λ_ _ h=>h) ha hb
theorem eU(ha:XR K X a ta f)(hb:XR K X b tb g):XN K X (.BinOp a .Mod b pos) (xY (rI (λ_ j=>0<j) λi j=>.int (i%j)) ta tb) (f2 mV f g):=qT Uz (qQ λ_ _ h=>h) ha hb
theorem qU(ha:XR K X a ta f)(hb:XR K X b tb g):XN K X (.BinOp a .Pow b pos) (xY (rI Gb λi j=>.int (i ^ j.toNat)) ta tb) (f2 oY f g):=qT Va (qQ λ_ _ h=>h) ha hb
theorem Az{op:CmpOp}{r:R2}{φ:D→D→Option D}(ho:jQ X (compareOp op) r)(hd:Ju K r φ)(ha:XR K X a ta f)(hb:XR K X b tb g)(hm:behindInMarks op b=false):XN K X (.Compare a [op] [b] pos) (xY r ta tb) (f2 φ f g):=⟨ha.hk,Oe ho ha.pe hb.pe hm,Jv hd ha.ev hb.ev⟩
def fB(f:FE):FT:=λe=>(f e).bind λd=>match d with | .bl b=>some b | _=>none
theorem pJ{f:FE}{e:DE}{b:Bool}(h:fB f e=some b):f e=some (.bl b):=by
 unfold fB at h
 obtain⟨d,h1,h2⟩:=aR h
 split at h2
 ·cases h2;exact h1
 ·cases h2
theorem Qd(h:wL K t f):Ah K (Iz t) (fB f):=λσ H e b Q re q k=>h σ H H e _ _ (Zn.self K H) re (pJ q) λv H' Z' s1 s2 z rv=>by
 unfold Rv at rv
 exact⟨b,rv,k H' s1⟩
theorem Sq(h:wL K t f):Ah K (tB t) (fB f):=λσ H e b Q re q k=>h σ H H e _ _ (Zn.self K H) re (pJ q) λv H' Z' s1 s2 z rv=>by
 unfold Rv at rv
 exact⟨b,rv,k H' s1⟩
theorem kJ{op:CmpOp}{r:R2}{φ:D→D→Option D}(ho:jQ X (compareOp op) r)(hd:Ju K r φ)(ha:XR K X a ta f)(hb:XR K X b tb g)(hm:behindInMarks op b=false):XT K X (.Compare a [op] [b] pos) (Iz (xY r ta tb)) (fB (f2 φ f g)):=⟨ha.hk,Og ho ha.pe hb.pe hm,Qd (Jv hd ha.ev hb.ev).r⟩
theorem iH(h:XR K X e t f)(he:∀whole,isTrue e X.env whole=(do let v ←whole;standAt e.pos;holding [v] (truthy v)):=by intro _;rfl):XT K X e (tB t) (fB f):=⟨h.hk,Ud h.pe he,Sq h.ev⟩
def Zq:D→D→Option D:=tQ (λ_ _=>True) λi j=>.bl (decide (i<j))
def VR:D→D→Option D:=tQ (λ_ _=>True) λi j=>.bl (decide (i≤j))
def WD:D→D→Option D:=tQ (λ_ _=>True) λi j=>.bl (decide (j<i))
def WK:D→D→Option D:=tQ (λ_ _=>True) λi j=>.bl (decide (j≤i))
def toV:D→Option V
  | .non=>some .non | .bl b=>some (.bl b) | .int i=>some (.int i) | .str x=>some (.str x)
  | _=>none
theorem wM{H:Hp}{d:D}{v x:V}(h:toV d=some v)(r:Rv K H d x):x=v:=by
 cases d<;>unfold toV at h<;>first | (cases h;unfold Rv at r;exact r) | cases h
mutual
def bR:D→Option DV
 | .int i=>some (.int i)
 | .non=>some .non
 | .lst ds=>(cT ds).map DV.lst
 | .tup ds=>(cT ds).map DV.tup
 | _=>none
def cT:List D→Option (List DV)
 | []=>some []
 | d::ds=>(bR d).bind λx=>(cT ds).bind λxs=>some (x::xs)
end
mutual
theorem gB{H:Hp}:∀(d:D)(x:DV)(v:V),bR d=some x→Rv K H d v→Reads K H x v
 | .int i,x,v,h,r=>by unfold bR at h;cases h;unfold Rv at r;unfold Reads;exact r
 | .lst ds,x,v,h,r=>by
  unfold bR at h
  obtain⟨xs,h1,rfl⟩:=cR h
  unfold Rv at r;unfold Reads
  obtain⟨a,vs,r1,r2,r3⟩:=r
  exact⟨a,vs,r1,r2,qW ds xs vs h1 r3⟩
 | .tup ds,x,v,h,r=>by
  unfold bR at h
  obtain⟨xs,h1,rfl⟩:=cR h
  unfold Rv at r;unfold Reads
  obtain⟨a,vs,r1,r2,r3⟩:=r
  exact⟨a,vs,r1,r2,qW ds xs vs h1 r3⟩
 | .non,x,v,h,r=>by unfold bR at h;cases h;unfold Rv at r;unfold Reads;exact r
 | .bl _,x,v,h,r=>by unfold bR at h;cases h
 | .str _,x,v,h,r=>by unfold bR at h;cases h
 | .dk _ _,x,v,h,r=>by unfold bR at h;cases h
 | .dt _ _,x,v,h,r=>by unfold bR at h;cases h
 | .ins _ _ _,x,v,h,r=>by unfold bR at h;cases h
theorem qW{H:Hp}:∀(ds:List D)(xs:List DV)(vs:List V),cT ds=some xs→bC K H ds vs→aZ K H xs vs
 | [],xs,vs,h,r=>by unfold cT at h;cases h;unfold bC at r;unfold aZ;exact r
 | d::ds,xs,vs,h,r=>by
  unfold cT at h
  obtain⟨x,h1,h2⟩:=aR h
  obtain⟨xt,h3,h4⟩:=aR h2
  cases h4
  unfold bC at r;unfold aZ
  obtain⟨y,ys,r1,r2,r3⟩:=r
  exact⟨y,ys,r1,gB d x y h1 r2,qW ds xt ys h3 r3⟩
end
mutual
theorem Kc:∀(d e:D)(x:DV),bR d=some x→bR e=some x→d=e
 | .int i,e,x,h,h'=>by
  unfold bR at h;cases h
  cases e<;>unfold bR at h'<;>first | (cases h';rfl) | cases h' | (obtain⟨xs,q1,q2⟩:=cR h';cases q2)
 | .lst ds,e,x,h,h'=>by
  unfold bR at h
  obtain⟨xs,h1,rfl⟩:=cR h
  cases e with
  | lst es=>unfold bR at h';obtain⟨ys,q1,q2⟩:=cR h';cases q2;rw[mW ds es xs h1 q1]
  | tup es=>unfold bR at h';obtain⟨ys,q1,q2⟩:=cR h';cases q2
  | _=>unfold bR at h';cases h'
 | .tup ds,e,x,h,h'=>by
  unfold bR at h
  obtain⟨xs,h1,rfl⟩:=cR h
  cases e with
  | tup es=>unfold bR at h';obtain⟨ys,q1,q2⟩:=cR h';cases q2;rw[mW ds es xs h1 q1]
  | lst es=>unfold bR at h';obtain⟨ys,q1,q2⟩:=cR h';cases q2
  | _=>unfold bR at h';cases h'
 | .non,e,x,h,h'=>by
  unfold bR at h;cases h
  cases e<;>unfold bR at h'<;>first | (cases h';rfl) | cases h' | (obtain⟨xs,q1,q2⟩:=cR h';cases q2)
 | .bl _,e,x,h,h'=>by unfold bR at h;cases h
 | .str _,e,x,h,h'=>by unfold bR at h;cases h
 | .dk _ _,e,x,h,h'=>by unfold bR at h;cases h
 | .dt _ _,e,x,h,h'=>by unfold bR at h;cases h
 | .ins _ _ _,e,x,h,h'=>by unfold bR at h;cases h
theorem mW:∀(ds es:List D)(xs:List DV),cT ds=some xs→cT es=some xs→ds=es
 | [],[],xs,h,h'=>rfl
 | [],e::es,xs,h,h'=>by
  unfold cT at h h'
  cases h
  obtain⟨x,h1,h2⟩:=aR h'
  obtain⟨xt,h3,h4⟩:=aR h2
  cases h4
 | d::ds,[],xs,h,h'=>by
  unfold cT at h h'
  cases h'
  obtain⟨x,h1,h2⟩:=aR h
  obtain⟨xt,h3,h4⟩:=aR h2
  cases h4
 | d::ds,e::es,xs,h,h'=>by
  unfold cT at h h'
  obtain⟨x,h1,h2⟩:=aR h
  obtain⟨xt,h3,h4⟩:=aR h2
  cases h4
  obtain⟨y,k1,k2⟩:=aR h'
  obtain⟨yt,k3,k4⟩:=aR k2
  cases k4
  rw[Kc d e x h1 k1,mW ds es xt h3 k3]
end
noncomputable def Gv(a b:D):Option D:=match toV a,toV b with
 | some x,some y=>if Gd x y=true then some (.bl (decide (x=y)))else none
 | _,_=>match bR a,bR b with
  | some x,some y=>if x.depth≤32 then some (.bl (iB x y))else none
  | _,_=>none
theorem Dv:Ju K (λx y H Q=>HY x y H Q∨Vr K false x y H Q) Gv:=λx y H a b d Q ra rb q k=>by
 unfold Gv at q
 split at q
 ·rename_i u v h1 h2
  split at q
  ·rename_i hs
   cases q
   rw[wM h1 ra,wM h2 rb]
   exact .inl ⟨hs,k _ H (aD.refl _) (.cX rfl (by unfold Rv;rfl))⟩
  ·cases q
 ·split at q
  ·rename_i u v h1 h2
   split at q
   ·rename_i hs
    cases q
    exact .inr ⟨u,v,gB a u x h1 ra,gB b v y h2 rb,hs,k _ H (aD.refl _) (.cX rfl (by unfold Rv;rfl))⟩
   ·cases q
  ·cases q
noncomputable def Yi(a b:D):Option D:=match toV a,toV b with
 | some x,some y=>if Gd x y=true then some (.bl (!decide (x=y)))else none
 | _,_=>match bR a,bR b with
  | some (.lst x),some (.lst y)=>if bF x≤32 then some (.bl (!iB (.lst x) (.lst y)))else none
  | some (.tup x),some (.tup y)=>if bF x≤32 then some (.bl (!iB (.tup x) (.tup y)))else none
  | _,_=>none
def Zr(K:aA):R2:=λx y H Q=>MK x y H Q∨(∃ds es,Reads K H (.lst ds) x∧Reads K H (.lst es) y∧bF ds≤32∧Q (.bl (!iB (.lst ds) (.lst es))) H)∨(∃ds es,Reads K H (.tup ds) x∧Reads K H (.tup es) y∧bF ds≤32∧Q (.bl (!iB (.tup ds) (.tup es))) H)
theorem Ss:Ju K (Zr K) Yi:=λx y H a b d Q ra rb q k=>by
 unfold Yi at q
 split at q
 ·rename_i u v h1 h2
  split at q
  ·rename_i hs
   cases q
   rw[wM h1 ra,wM h2 rb]
   exact .inl ⟨hs,k _ H (aD.refl _) (.cX rfl (by unfold Rv;rfl))⟩
  ·cases q
 ·split at q
  ·rename_i u v h1 h2
   split at q
   ·rename_i hs
    cases q
    exact .inr (.inl ⟨u,v,gB a _ x h1 ra,gB b _ y h2 rb,hs,k _ H (aD.refl _) (.cX rfl (by unfold Rv;rfl))⟩)
   ·cases q
  ·rename_i u v h1 h2
   split at q
   ·rename_i hs
    cases q
    exact .inr (.inr ⟨u,v,gB a _ x h1 ra,gB b _ y h2 rb,hs,k _ H (aD.refl _) (.cX rfl (by unfold Rv;rfl))⟩)
   ·cases q
  ·cases q
theorem or_eq(hu:X.A.units+64<cLine)(hk:X.K=K):jQ X (compareOp .Eq) (λx y H Q=>HY x y H Q∨Vr K false x y H Q):=by subst hk;exact Yx.or (Vs hu)
theorem Su(hu:X.A.units+64<cLine)(hk:X.K=K):jQ X (compareOp .NotEq) (Zr K):=by subst hk;exact Yy.or ((Vt hu).or (Vw hu))
def lV:D→Option (List D)
 | .lst ds=>some ds
 | .tup ds=>some ds
 | _=>none
theorem Dw{H:Hp}{d:D}{ds:List D}{v:V}(h:lV d=some ds)(r:Rv K H d v):∃p xs,v=.ref p∧(gW K H p xs∨jP K H p xs)∧bC K H ds xs:=by
 cases d with
 | lst es=>unfold lV at h;cases h;unfold Rv at r;obtain⟨p,xs,r1,r2,r3⟩:=r;exact⟨p,xs,r1,.inl r2,r3⟩
 | tup es=>unfold lV at h;cases h;unfold Rv at r;obtain⟨p,xs,r1,r2,r3⟩:=r;exact⟨p,xs,r1,.inr r2,r3⟩
 | _=>unfold lV at h;cases h
end
section
variable{κ:Type} [DecidableEq κ] {K:aA} {H:Hp}
def posK:List κ→κ→Option Nat
 | [],_=>none
 | a::ks,k=>if a=k then some 0 else(posK ks k).map (·+1)
theorem fH:∀{ks:List κ} {xs:List V} {k:κ},ks.length=xs.length→gP (ks.zip xs) k=(posK ks k).bind λj=>xs[j]?
 | [],xs,k,h=>by unfold posK;rfl
 | a::ks,[],k,h=>by simp at h
 | a::ks,x::xs,k,h=>by
  have ih:=fH (ks:=ks) (xs:=xs) (k:=k) (by simpa using h)
  unfold posK
  rw[F2]
  unfold gP at ih ⊢
  rw[J0]
  by_cases c:a=k
  ·rw[if_pos c,decide_eq_true c];rfl
  ·rw[if_neg c,decide_eq_false c]
   show Option.map _ (List.find? _ (ks.zip xs))=_
   rw[ih]
   cases posK ks k<;>rfl
theorem pK:∀{ks:List κ} {k:κ} {j:Nat},posK ks k=some j→j<ks.length∧ks[j]?=some k
 | [],k,j,h=>by unfold posK at h;cases h
 | a::ks,k,j,h=>by
  unfold posK at h
  split at h
  ·rename_i c;cases h;exact⟨by simp,by simp[c]⟩
  ·obtain⟨i,h1,rfl⟩:=cR h
   obtain⟨a1,a2⟩:=pK h1
   exact⟨by simpa using a1,by simpa using a2⟩
theorem mX:∀{ks:List κ} {k:κ},posK ks k=none↔k∉ks
  | [],k=>by unfold posK;simp
  | a::ks,k=>by
    unfold posK
    have ih:=mX (ks:=ks) (k:=k)
    split
    · rename_i c;simp[c]
    · rename_i c
      rw[Option.map_eq_none_iff,ih,E3]
      constructor
      · rintro h (q | q)
        · exact c q.symm
        · exact h q
      · intro h q;exact h (.inr q)
def qX(ks:List κ)(k:κ):List κ:=if(posK ks k).isSome then ks else ks++[k]
def putD{β:Type}(ks:List κ)(ds:List β)(k:κ)(d:β):List β:=if(posK ks k).isSome then M4 (λk' d'=>if k'=k then d else d') ks ds else ds++[d]
theorem yK{β:Type}{ks:List κ}{ds:List β}{k:κ}{d:β}(h:ks.length=ds.length):(qX ks k).length=(putD ks ds k d).length:=by
 unfold qX putD
 split
 ·rw[List.length_zipWith,h,O2]
 ·rw[D7,D7,h];rfl
theorem Kd{ks:List κ}{xs:List V}{k:κ}{v:V}(h:ks.length=xs.length):putK (ks.zip xs) k v=(qX ks k).zip (putD ks xs k v):=by
 have ha:((ks.zip xs).any λkv=>decide (kv.1=k))=(posK ks k).isSome:=by
  rw[qF,fH h]
  cases q:posK ks k with
  | none=>rfl
  | some j=>
   obtain⟨h1,h2⟩:=pK q
   rw[C7,A9 (by omega)]
   rfl
 unfold putK qX putD
 rw[ha]
 by_cases c:(posK ks k).isSome=true
 ·rw[if_pos c,if_pos c,if_pos c]
  clear ha c
  induction ks generalizing xs with
  | nil=>rfl
  | cons a ks ih=>
   cases xs with
   | nil=>simp at h
   | cons x xs=>
    rw[F2,B3,G3,F2,ih (by simpa using h)]
    split<;>rfl
 ·rw[if_neg c,if_neg c,if_neg c,List.zip_append h]
  rfl
end
def Gw:D→Option Key
 | .int i=>some (.inl i)
 | .str x=>some (.inr x)
 | _=>none
theorem pL{K:aA}{H:Hp}{d:D}{k:Key}{v:V}(h:Gw d=some k)(r:Rv K H d v):v=kV k:=by
 cases d<;>unfold Gw at h<;>first | (cases h;unfold Rv at r;exact r) | cases h
def kD:Key→D
 | .inl i=>.int i
 | .inr x=>.str x
section
variable{K:aA}{X:Cx}{e a b c:Expr}{es:List Expr}{t ta tb:TE}{f g:FE}{pos:Pos}
def lW(neg:Bool)(k d:D):Option D:=match d with
 | .dk ks ds=>(Gw k).bind λk=>some (.bl (if neg then !(posK ks k).isSome else(posK ks k).isSome))
 | _=>none
def Gx(d k:D):Option D:=match d with
 | .dk ks ds=>(Gw k).bind λk=>(posK ks k).bind λj=>ds[j]?
 | _=>none
theorem Ba{ks:List Key}{xs:List V}{k:Key}(h:ks.length=xs.length):(gP (ks.zip xs) k).isSome=(posK ks k).isSome:=by
 rw[fH h]
 cases q:posK ks k with
 | none=>rfl
 | some j=>
  obtain⟨h1,h2⟩:=pK q
  rw[C7,A9 (by omega)]
  rfl
theorem yL{H:Hp}{x y:V}{ka d r:D}{neg:Bool}(h:lW neg ka d=some r)(rk:Rv K H ka y)(rd:Rv K H d x):∃p o,x=.ref p∧yF H p y o∧r=.bl (if neg then !o.isSome else o.isSome):=by
 unfold lW at h
 split at h
 ·rename_i ks ds
  obtain⟨k,h1,h2⟩:=aR h
  cases h2
  unfold Rv at rd
  obtain⟨p,xs,r1,r2,r3,r4⟩:=rd
  refine⟨p,gP (ks.zip xs) k,r1,.inl ⟨_,k,r2,pL h1 rk,rfl⟩,?_⟩
  rw[Ba r3]
 ·cases h
theorem We(hu:X.A.units+1<cLine)(ha:XR K X a ta f)(hb:XR K X b tb g)(h1:behindInMarks .In b=false:=by first | exact nobehind _ (by decide) (by decide) | rfl):XN K X (.Compare a [.In] [b] pos) (Vn ta tb) (f2 (lW false) f g):=
 ⟨ha.hk,Io (Je hu ha.pe hb.pe) h1,λσ H e d Q re q k=>by
  obtain⟨da,db,q1,q2,q3⟩:=lU q
  refine ha.ev σ H H e da _ (Zn.self K H) re q1 λx H1 Z1 s1 t1 z1 rx=>hb.ev σ H1 Z1 e db _ z1 (re.same t1) q2 λy H2 Z2 s2 t2 z2 ry=>?_
  obtain⟨p,o,e1,e2,e3⟩:=yL q3 (z2.sm.rv _ _ (t2.rv _ _ rx)) (z2.sm.rv _ _ ry)
  subst e3
  exact⟨p,o,e1,e2,k _ H2 (s1.trans s2) (.cX rfl (by unfold Rv;rfl))⟩⟩
theorem Gy(hu:X.A.units+1<cLine)(ha:XR K X a ta f)(hb:XR K X b tb g)(h1:behindInMarks .NotIn b=false:=by first | exact nobehind _ (by decide) (by decide) | rfl):XN K X (.Compare a [.NotIn] [b] pos) (wB ta tb) (f2 (lW true) f g):=
 ⟨ha.hk,Io (uP hu ha.pe hb.pe) h1,λσ H e d Q re q k=>by
  obtain⟨da,db,q1,q2,q3⟩:=lU q
  refine ha.ev σ H H e da _ (Zn.self K H) re q1 λx H1 Z1 s1 t1 z1 rx=>hb.ev σ H1 Z1 e db _ z1 (re.same t1) q2 λy H2 Z2 s2 t2 z2 ry=>?_
  obtain⟨p,o,e1,e2,e3⟩:=yL q3 (z2.sm.rv _ _ (t2.rv _ _ rx)) (z2.sm.rv _ _ ry)
  subst e3
  exact⟨p,o,e1,e2,k _ H2 (s1.trans s2) (.cX rfl (by unfold Rv;rfl))⟩⟩
theorem Sv{op:CmpOp}(h:XN K X (.Compare a [op] [b] pos) t f)(pc:PC X op a b t)(h1:behindInMarks op b=false):XT K X (.Compare a [op] [b] pos) (tB t) (fB f):=⟨h.hk,Uc pc h1,Sq h.ev.r⟩
theorem Ke(hu:X.A.units+1<cLine)(ha:XR K X a ta f)(hb:XR K X b tb g)(h1:behindInMarks .In b=false:=by first | exact nobehind _ (by decide) (by decide) | rfl):XT K X (.Compare a [.In] [b] pos) (tB (Vn ta tb)) (fB (f2 (lW false) f g)):=Sv (We hu ha hb h1) (Je hu ha.pe hb.pe) h1
theorem mY(hu:X.A.units+1<cLine)(ha:XR K X a ta f)(hb:XR K X b tb g)(h1:behindInMarks .NotIn b=false:=by first | exact nobehind _ (by decide) (by decide) | rfl):XT K X (.Compare a [.NotIn] [b] pos) (tB (wB ta tb)) (fB (f2 (lW true) f g)):=Sv (Gy hu ha hb h1) (uP hu ha.pe hb.pe) h1
theorem Qe(hu:X.A.units+1<cLine)(ha:XR K X a ta f)(hb:XR K X b tb g)(hs:Vm b):XR K X (.Subscript a b pos) (Sd ta tb) (f2 Gx f g):=
 ⟨ha.hk,Pb hu ha.pe hb.pe hs,λσ H Z e d Q z re q k=>by
  obtain⟨da,db,q1,q2,q3⟩:=lU q
  refine ha.ev σ H Z e da _ z re q1 λx H1 Z1 s1 t1 z1 rx=>hb.ev σ H1 Z1 e db _ z1 (re.same t1) q2 λy H2 Z2 s2 t2 z2 ry=>?_
  have NQ:=t2.rv _ _ rx
  unfold Gx at q3
  split at q3
  ·rename_i ks ds
   obtain⟨kk,h1,h2⟩:=aR q3
   obtain⟨j,h3,h4⟩:=aR h2
   unfold Rv at NQ
   obtain⟨p,xs,r1,r2,r3,r4⟩:=NQ
   obtain⟨v,e1,e2⟩:=r4.get h4
   refine⟨p,v,r1,.inl ⟨_,kk,z2.sm.rd r2,pL h1 ry,?_⟩,k v H2 Z2 (s1.trans s2) (t1.trans t2) z2 e2⟩
   rw[fH r3,h3]
   exact e1.symm
  ·cases q3⟩
def nZ(a i:D):Option D:=match i with
 | .int i=>(lV a).bind λds=>Jc ds i
 | _=>none
theorem Sw{H:Hp}{ds:List D}{xs:List V}{i:Int}{d:D}(r:bC K H ds xs)(h:Jc ds i=some d):∃v,Jc xs i=some v∧Rv K H d v:=by
 unfold Jc at h ⊢
 obtain⟨j,h1,h2⟩:=aR h
 rw[r.length,h1]
 exact r.get h2
theorem Zt(hk:X.K=K):Nk X (JB K):=by subst hk;exact Vj
theorem dZ(ha:XR K X a ta f)(hb:XR K X b tb g)(hs:Dj b):XR K X (.Subscript a b pos) (xY (JB K) ta tb) (f2 nZ f g):=
 ⟨ha.hk,Zc (Zt ha.hk) ha.pe hb.pe hs,Zo (λx y H Z da db d Q z ra rb q k=>by
  unfold nZ at q
  split at q
  ·rename_i i
   obtain⟨ds,h1,h2⟩:=aR q
   unfold Rv at rb
   cases da with
   | lst es=>
    unfold lV at h1;cases h1
    unfold Rv at ra
    obtain⟨p,xs,r1,r2,r3⟩:=ra
    obtain⟨v,e1,e2⟩:=Sw r3 h2
    exact .inl ⟨p,xs,i,v,r1,rb,z.sm.seq r2,e1,k v H Z (aD.refl _) (aD.refl _) z e2⟩
   | tup es=>
    unfold lV at h1;cases h1
    unfold Rv at ra
    obtain⟨p,xs,r1,r2,r3⟩:=ra
    obtain⟨v,e1,e2⟩:=Sw r3 h2
    exact .inr (.inl ⟨p,xs,i,v,r1,rb,z.sm.tup r2,e1,k v H Z (aD.refl _) (aD.refl _) z e2⟩)
   | _=>unfold lV at h1;cases h1
  ·cases q) ha.ev hb.ev⟩
end
end L2


namespace L2
open PySem PySem.Spec PyProof.Rows
section
variable{K:aA}{X:Cx}{e a b c:Expr}{es rest:List Expr}{t ta tb:TE}{f g:FE}{tA:TA}{fs:FA}{pos:Pos}{tc:TT}{fc fd:FT}{td:TT}
theorem aU(hk:X.K=K:=by rfl):XA K X [] oR aN:=⟨hk,mJ,Jx⟩
theorem aF(h:XR K X e t f)(hs:XA K X es tA fs)(hst:starEach (e::es) X.env=(false,eval e X.env)::starEach es X.env:=by rfl):XA K X (e::es) (eX t tA) (aC f fs):=⟨h.hk,gA h.pe hs.pa hst,Ds h.ev hs.ev⟩
theorem kO(hk:X.K=K:=by rfl):XB K X [] oR aN:=⟨hk,mJ,Wa⟩
theorem cC(h:XN K X e t f)(hs:XB K X es tA fs)(hst:starEach (e::es) X.env=(false,eval e X.env)::starEach es X.env:=by rfl):XB K X (e::es) (eX t tA) (aC f fs):=⟨h.hk,gA h.pe hs.pa hst,Qa h.ev hs.ev⟩
theorem Kf(h:XB K X es tA fs):XN K X (.List es pos) (Ja tA) (kI fs):=⟨h.hk,Jb h.pa,Wb h.ev⟩
theorem qY(h:XA K X es tA fs):XR K X (.List es pos) (Ja tA) (kI fs):=⟨h.hk,Jb h.pa,Wd h.ev⟩
theorem qZ{x1:Nat}(h:XB K X es tA fs):XN K X (.Tuple es x1 pos) (Vd tA) (mU fs):=⟨h.hk,Ve h.pa,Wc h.ev⟩
theorem Qf:uA K Al (fC (.dk [] [])):=λσ H e d Q re q k=>by
 cases q
 intro p hp
 refine k _ _ (bD hp _) ⟨(·=p),?_,λa q=>by cases q;exact hp⟩
 unfold Ow
 exact⟨p,[],nil,rfl,aQ,rfl,λz=>z,λx=>⟨.inl,λz=>z.elim id False.elim⟩,by unfold bH;exact⟨λ_ z=>z,rfl⟩⟩
theorem wN(hk:X.K=K:=by rfl):XN K X (.Dict [] [] pos) Al (fC (.dk [] [])):=⟨hk,Jg,Qf⟩
def oZ(f g:FT):FT:=λe=>(f e).bind λc=>if c=true then g e else some false
def Nq(f g:FT):FT:=λe=>(f e).bind λc=>if c=true then some true else g e
def mZ(f:FT):FT:=λe=>(f e).map λc=>!c
theorem Wf(h1:Ah K tc fc)(h2:Ah K td fd):Ah K (Ue tc td) (oZ fc fd):=λσ H e b Q re q k=>by
 unfold oZ at q
 obtain⟨c,q1,q2⟩:=aR q
 refine h1 σ H e c _ re q1 λH1 s1=>?_
 cases c with
 | true=>rw[if_pos rfl]at q2 ⊢;exact h2 σ H1 e b Q (re.same s1) q2 λH2 s2=>k H2 (s1.trans s2)
 | false=>rw[if_neg (by decide)]at q2 ⊢;cases q2;exact k H1 s1
theorem Zu(h1:Ah K tc fc)(h2:Ah K td fd):Ah K (HQ tc td) (Nq fc fd):=λσ H e b Q re q k=>by
 unfold Nq at q
 obtain⟨c,q1,q2⟩:=aR q
 refine h1 σ H e c _ re q1 λH1 s1=>?_
 cases c with
 | false=>rw[if_neg (by decide)]at q2 ⊢;exact h2 σ H1 e b Q (re.same s1) q2 λH2 s2=>k H2 (s1.trans s2)
 | true=>rw[if_pos rfl]at q2 ⊢;cases q2;exact k H1 s1
theorem Wg(h1:Ah K tc fc):Ah K (Ug tc) (mZ fc):=λσ H e b Q re q k=>by
 unfold mZ at q
 obtain⟨c,q1,rfl⟩:=cR q
 exact h1 σ H e c _ re q1 k
theorem XW.xt(h:XW K X e tc fc):XT K X e tc fc:=⟨h.hk,h.pw.pt,h.ev⟩
theorem wO(h:XT K X a tc fc):XW K X (.BoolOp .And [a] pos) tc fc:=⟨h.hk,Nz h.pt,h.ev⟩
theorem Bb(h:XT K X a tc fc):XW K X (.BoolOp .Or [a] pos) tc fc:=⟨h.hk,Uh h.pt,h.ev⟩
theorem Bc(h:XT K X a tc fc)(h2:XW K X (.BoolOp .And (b::rest) pos) td fd):XW K X (.BoolOp .And (a::b::rest) pos) (Ue tc td) (oZ fc fd):=⟨h.hk,Ui h.pt h2.pw,Wf h.ev h2.ev⟩
theorem yM(h:XT K X a tc fc)(h2:XW K X (.BoolOp .Or (b::rest) pos) td fd):XW K X (.BoolOp .Or (a::b::rest) pos) (HQ tc td) (Nq fc fd):=⟨h.hk,Yo h.pt h2.pw,Zu h.ev h2.ev⟩
theorem nA(h:XT K X a tc fc):XT K X (.UnaryOp .Not a pos) (Ug tc) (mZ fc):=⟨h.hk,Uj h.pt,Wg h.ev⟩
def rA(f g:FE):FE:=λe=>(fB f e).bind λc=>if c=true then g e else some (.bl false)
def yN(f:FE):FE:=λe=>(fB f e).map λc=>.bl (!c)
theorem Dy{op:BoolOp}(h:XN K X a t f):XN K X (.BoolOp op [a] pos) t f:=⟨h.hk,Uk h.pe,h.ev⟩
theorem Bd(h:XR K X a ta f)(h2:XN K X (.BoolOp .And (b::rest) pos) tb g):XN K X (.BoolOp .And (a::b::rest) pos) (Ro ta tb) (rA f g):=⟨h.hk,Ul h.pe h2.pe,λσ H e d Q re q k=>by
 unfold rA at q
 obtain⟨c,q1,q2⟩:=aR q
 refine h.ev σ H H e _ _ (Zn.self K H) re (pJ q1) λv H1 Z1 s1 t1 z1 rv=>?_
 unfold Rv at rv
 refine⟨c,rv,?_⟩
 cases c with
 | true=>rw[if_pos rfl]at q2 ⊢;exact h2.ev σ H1 e d Q (re.same s1) q2 λv H2 s2 n=>k v H2 (s1.trans s2) (n.back s1)
 | false=>rw[if_neg (by decide)]at q2 ⊢;cases q2;exact k _ H1 s1 (.cX rfl (by unfold Rv;rfl))⟩
theorem Wh(h:XR K X a ta f):XN K X (.UnaryOp .Not a pos) (Rp ta) (yN f):=⟨h.hk,Um h.pe,λσ H e d Q re q k=>by
 unfold yN at q
 obtain⟨c,q1,rfl⟩:=cR q
 refine h.ev σ H H e _ _ (Zn.self K H) re (pJ q1) λv H1 Z1 s1 t1 z1 rv=>?_
 unfold Rv at rv
 exact⟨c,rv,k _ H1 s1 (.cX rfl (by unfold Rv;rfl))⟩⟩
def fL(φ:List D→Option D)(fs:FA):FE:=λe=>(fs e).bind φ
def rB(K:aA)(r:List V→Hp→VK→Prop)(φ:List D→Option D):Prop:=∀(vs:List V)(H:Hp)(ds:List D)(d:D)(Q:VK),bC K H ds vs→φ ds=some d →
 (∀v H',aD H H'→Ag K H H' d v→Q v H')→r vs H Q
theorem Kg{r:List V→Hp→VK→Prop}{φ:List D→Option D}(o:rB K r φ)(h:Yg K tA fs):uA K (Ol r tA) (fL φ fs):=λσ H e d Q re q k=>by
 obtain⟨ds,q1,q2⟩:=aR q
 exact h σ H H e ds _ (Zn.self K H) re q1 λvs H1 Z1 s1 t1 z1 rs=>o vs H1 ds d Q (z1.sm.Ig _ _ rs) q2 λv H2 s2 n=>k v H2 (s1.trans s2) (n.back s1)
theorem uV{r:List V→Hp→VK→Prop}{φ:List D→Option D}{x:Str}{id:String}{p:Pos}(o:rB K r φ)(hc:dY X (.builtin id) r)(hg:Gl X x)(hm:X.mg x=none)(hv:bootBuiltins x=some (.builtin id))(ha:XA K X (e::es) tA fs)(hn:x ≠ "__name__" := by decide) (hdb:(x==("__debug__" : Str))=false:=by decide)
  (he:starEach (e::es) X.env=(false,eval e X.env)::starEach es X.env:=by rfl) (hpl:(backTo pos (starEach es X.env)).any (·.1)=false:=by rfl):XN K X (.Call (.Name x p) (e::es) [] pos) (Ol r tA) (fL φ fs):=⟨ha.hk,pY hc hg hm hv ha.pa hn hdb he hpl,Kg o ha.ev⟩
theorem Kh{r:List V→Hp→VK→Prop}{φ:List D→Option D}{x:Str}{id:String}{p:Pos}(o:rB K r φ)(hc:dY X (.type id) r)(hg:Gl X x)(hm:X.mg x=none)(hv:bootBuiltins x=some (.type id))(ha:XA K X (e::es) tA fs)(hn:x ≠ "__name__" := by decide) (hdb:(x==("__debug__" : Str))=false:=by decide)
  (he:starEach (e::es) X.env=(false,eval e X.env)::starEach es X.env:=by rfl) (hpl:(backTo pos (starEach es X.env)).any (·.1)=false:=by rfl):XN K X (.Call (.Name x p) (e::es) [] pos) (Ol r tA) (fL φ fs):=⟨ha.hk,Gh hc hg hm hv ha.pa hn hdb he hpl,Kg o ha.ev⟩
theorem wQ{H:Hp}{d:D}{vs:List V}(h:bC K H [d] vs):∃v,vs=[v]∧Rv K H d v:=by
 unfold bC at h
 obtain⟨y,ys,rfl,h1,h2⟩:=h
 unfold bC at h2
 subst h2
 exact⟨y,rfl,h1⟩
def uB:List D→Option D
 | [d]=>(lV d).map λds=>.int ds.length
 | _=>none
def Zv(K:aA):List V→Hp→VK→Prop:=λxs H Q=>∃p ys,xs=[.ref p]∧(gW K H p ys∨jP K H p ys)∧Q (.int ys.length) H
theorem rC:rB K (Zv K) uB:=λvs H ds d Q rs q k=>by
 unfold uB at q
 split at q
 ·rename_i d0
  obtain⟨es,q1,rfl⟩:=cR q
  obtain⟨v,rfl,r⟩:=wQ rs
  obtain⟨p,xs,rfl,r2,r3⟩:=Dw q1 r
  refine⟨p,xs,rfl,r2,k _ H (aD.refl _) (.cX rfl ?_)⟩
  rw[r3.length];unfold Rv;rfl
 ·cases q
theorem rD(hk:X.K=K):dY X (.builtin "len") (Zv K):=by subst hk;exact vY
def dList:List D→Option D
 | [d]=>(lV d).bind λds=>if D.bM ds=true then some (.lst ds)else none
 | _=>none
def Sx(K:aA):List V→Hp→VK→Prop:=λxs H Q=>∃p ys,xs=[.ref p]∧(gW K H p ys∨jP K H p ys)∧∀l,H l=none→Q (.ref l) (upd H l (.lst ys))
theorem Dz:rB K (Sx K) dList:=λvs H ds d Q rs q k=>by
 unfold dList at q
 split at q
 ·rename_i d0
  obtain⟨es,q1,q2⟩:=aR q
  split at q2
  ·rename_i hi
   cases q2
   obtain⟨v,rfl,r⟩:=wQ rs
   obtain⟨p,xs,rfl,r2,r3⟩:=Dw q1 r
   exact⟨p,xs,rfl,r2,λl hl=>k _ _ (bD hl _) (jG (aD.refl _) (.bM hi r3) hl)⟩
  ·cases q2
 ·cases q
theorem Ea(hk:X.K=K):dY X (.type "list") (Sx K):=by subst hk;exact vZ
def intsOf:List D→Option (List Int)
 | []=>some []
 | .int i::ds=>(intsOf ds).map (i::·)
 | _=>none
theorem iI:∀{ds:List D} {ns:List Int},intsOf ds=some ns→ds=ns.map D.int
 | [],ns,h=>by unfold intsOf at h;cases h;rfl
 | d::ds,ns,h=>by
  cases d with
  | int i=>
   unfold intsOf at h
   obtain⟨ms,h1,rfl⟩:=cR h
   rw[B3,←iI h1]
  | _=>unfold intsOf at h;cases h
theorem fJ{H:Hp}:∀{ns:List Int} {xs:List V},bC K H (ns.map D.int) xs↔xs=ns.map V.int
 | [],xs=>by rw[D4,D4];unfold bC;rfl
 | n::ns,xs=>by
  rw[B3,B3]
  unfold bC
  constructor
  ·rintro⟨y,ys,rfl,h1,h2⟩
   unfold Rv at h1
   rw[h1,fJ.mp h2]
  ·rintro rfl
   exact⟨_,_,rfl,by unfold Rv;rfl,fJ.mpr rfl⟩
theorem rF:∀ns:List Int,D.bM (ns.map D.int)=true
 | []=>by rw[D4];unfold D.bM;rfl
 | n::ns=>by rw[B3];unfold D.bM D.cX;rw[rF ns];rfl
def NT:List D→Option D
 | [.int i,.int j]=>some (.int (if j > i then j else i))
 | _=>none
def NZ:List D→Option D
 | [.int i,.int j]=>some (.int (if j<i then j else i))
 | _=>none
end
end L2


namespace L2
open PySem PySem.Spec PyProof.Rows
section
variable{K:aA}{X:Cx}{e a b c:Expr}{es rest:List Expr}{t ta tb:TE}{f g:FE}{tA:TA}{fs:FA}{pos:Pos}{tc:TT}{fc fd:FT}{td:TT}
abbrev FO:=DE→Option (Option Int)
def RG(K:aA)(t:TO)(f:FO):Prop:=∀(σ:St)(H:Hp)(e:DE)(o:Option Int)(Q:Option Int→Hp→Prop),iG K H e σ→f e=some o→(∀H',aD H H'→Q o H')→t σ H Q
structure XO(K:aA)(X:Cx)(e:Option Expr)(t:TO)(f:FO):Prop where
 po:PO X e t
 ev:RG K t f
def Be:FO:=λ_=>some none
def iJ(f:FE):FO:=λe=>(f e).bind λd=>match d with | .int i=>some (some i) | _=>none
theorem Eb:XO K X none Di Be:=⟨Oo,λσ H e o Q re q k=>by cases q;exact k H (aD.refl _)⟩
theorem pM(h:XR K X e t f):XO K X (some e) (Rw t) (iJ f):=⟨Oq h.pe,λσ H e o Q re q k=>by
 unfold iJ at q
 obtain⟨d,q1,q2⟩:=aR q
 split at q2
 ·rename_i i
  cases q2
  refine h.ev σ H H e _ _ (Zn.self K H) re q1 λv H1 Z1 s1 t1 z1 rv=>?_
  unfold Rv at rv
  exact⟨i,rv,k H1 s1⟩
 ·cases q2⟩
def gQ{α:Type}(xs:List α)(lo hi:Option Int):List α:=(xs.drop (HT.oU xs.length 0 lo)).take (HT.oU xs.length xs.length hi-HT.oU xs.length 0 lo)
theorem bC.drop{H:Hp}:∀{ds:List D} {xs:List V} (n:Nat),bC K H ds xs→bC K H (ds.drop n) (xs.drop n)
 | ds,xs,0,h=>h
 | [],xs,n+1,h=>by unfold bC at h;subst h;simp;unfold bC;rfl
 | d::ds,xs,n+1,h=>by unfold bC at h;obtain⟨y,ys,rfl,_,h2⟩:=h;simpa using bC.drop n h2
theorem bC.take{H:Hp}:∀{ds:List D} {xs:List V} (n:Nat),bC K H ds xs→bC K H (ds.take n) (xs.take n)
 | ds,xs,0,h=>by simp;unfold bC;rfl
 | [],xs,n+1,h=>by unfold bC at h;subst h;simp;unfold bC;rfl
 | d::ds,xs,n+1,h=>by unfold bC at h;obtain⟨y,ys,rfl,h1,h2⟩:=h;rw[Q8,Q8];unfold bC;exact⟨y,_,rfl,h1,bC.take n h2⟩
theorem Ec{H:Hp}{ds:List D}{xs:List V}(lo hi:Option Int)(h:bC K H ds xs):bC K H (gQ ds lo hi) (Aj xs lo hi):=by
 unfold gQ Aj
 rw[h.length]
 exact(h.drop _).take _
def Nr(cX:Bool)(f:FE)(l h:FO):FE:=λe=>(f e).bind λd=>(l e).bind λlo=>(h e).bind λhi=>match d with
 | .lst ds=>if cX=false∨D.bM (gQ ds lo hi)=true then some (.lst (gQ ds lo hi))else none
 | _=>none
theorem yO{cX:Bool}{f:FE}{l h:FO}{e:DE}{d:D}(q:Nr cX f l h e=some d):∃ds lo hi,f e=some (.lst ds)∧l e=some lo∧h e=some hi∧(cX=false∨D.bM (gQ ds lo hi)=true)∧d=.lst (gQ ds lo hi):=by
 unfold Nr at q
 obtain⟨d0,q1,q⟩:=aR q
 obtain⟨lo,q2,q⟩:=aR q
 obtain⟨hi,q3,q⟩:=aR q
 split at q
 ·split at q
  ·rename_i c;cases q;exact⟨_,lo,hi,q1,q2,q3,c,rfl⟩
  ·cases q
 ·cases q
theorem Ed(hk:X.K=K):IV X (Ov K):=by subst hk;exact Ox
variable{lo hi:Option Expr}{tl th:TO}{fl fh:FO}{p2:Pos}
theorem yP(h:XR K X e t f)(hl:XO K X lo tl fl)(hu:XO K X hi th fh):XR K X (.Subscript e (.Slice lo hi none p2) pos) (IW (Ov K) t tl th) (Nr false f fl fh):=⟨h.hk,yD (Ed h.hk) h.pe hl.po hu.po,λσ H Z e d Q z re q k=>by
 obtain⟨ds,lo,hi,q1,q2,q3,_,rfl⟩:=yO q
 refine h.ev σ H Z e _ _ z re q1 λv H1 Z1 s1 t1 z1 rv=>hl.ev σ H1 e lo _ (re.same (z.sm.trans s1)) q2 λH2 s2=>hu.ev σ H2 e hi _ (re.same (z.sm.trans (s1.trans s2))) q3 λH3 s3=>?_
 have z3:=wK z1 (s2.trans s3)
 have t3:aD Z1 (wJ Z1 H1 H3):=mR z1
 unfold Rv at rv
 obtain⟨p,xs,rfl,r2,r3⟩:=rv
 refine⟨p,xs,rfl,z3.sm.seq (t3.seq r2),λl hl=>?_⟩
 obtain⟨a1,a2⟩:=Jy (o:=.lst (Aj xs lo hi)) z3 hl
 exact k _ _ _ (s1.trans (s2.trans (s3.trans (bD hl _)))) (t1.trans (t3.trans a1)) a2 (by unfold Rv;exact⟨l,_,rfl,gW.of aQ,a1.Ig _ _ (t3.Ig _ _ (Ec lo hi r3))⟩)⟩
theorem Kl(h:XR K X e t f)(hl:XO K X lo tl fl)(hu:XO K X hi th fh):XN K X (.Subscript e (.Slice lo hi none p2) pos) (IW (Ov K) t tl th) (Nr true f fl fh):=⟨h.hk,yD (Ed h.hk) h.pe hl.po hu.po,λσ H e d Q re q k=>by
 obtain⟨ds,lo,hi,q1,q2,q3,qi,rfl⟩:=yO q
 refine h.ev σ H H e _ _ (Zn.self K H) re q1 λv H1 Z1 s1 t1 z1 rv=>hl.ev σ H1 e lo _ (re.same s1) q2 λH2 s2=>hu.ev σ H2 e hi _ (re.same (s1.trans s2)) q3 λH3 s3=>?_
 have OD:=(z1.sm.trans (s2.trans s3)).rv _ _ rv
 unfold Rv at OD
 obtain⟨p,xs,rfl,r2,r3⟩:=OD
 refine⟨p,xs,rfl,r2,λl hl=>?_⟩
 have Wi:=s1.trans (s2.trans s3)
 exact k _ _ (Wi.trans (bD hl _)) (jG Wi (.bM (qi.resolve_left (by decide)) (Ec lo hi r3)) hl)⟩
def Km(K:aA):R2:=λx y H Q=>∃l b xs zs,x=.ref l∧y=.ref b∧gW K H l xs∧gW K H b zs∧xs.length+zs.length≤sizeLine∧∀p,H p=none→Q (.ref p) (upd H p (.lst (xs++zs)))
theorem Qg(hk:X.K=K):jQ X (binaryOp .Add) (Km K):=by
 subst hk
 intro pins s σ H x y v u Q I rx ry h
 obtain⟨l,b,xs,zs,rfl,rfl,h1,h2,hz,q⟩:=h
 cases rx
 cases ry
 obtain⟨its,r,pl,_⟩:=I.list h1
 obtain⟨its2,r2,oW,_⟩:=I.list h2
 obtain⟨⟨cl,dd,da,sl⟩,ho,hc,n,hd⟩:=pl.isList
 obtain⟨⟨cl2,dd2,da2,sl2⟩,ho2,hc2,n2,hd2⟩:=oW.isList
 dsimp only at hc hd hc2 hd2
 subst hc hd hc2 hd2
 have hlen:its.toArray.size+its2.toArray.size≤sizeLine:=by rw[B0,B0,←r.length,←r2.length];exact hz
 have ea:its.toArray++its2.toArray=(its++its2).toArray:=by simp
 refine concat_meets ⟨_,ho,rfl⟩ ⟨_,ho2,rfl⟩ noFill_list_add seq_list_add PySem.F.slot_list_add PySem.F.entry_list_add (PySem.F.args_list_add_2 _ _)
  (list_addW l b its.toArray its2.toArray n n2 dd dd2 sl sl2 hlen) ⟨ho,ho2,?_⟩
 rw[ea]
 exact⟨.ref _,_,I.Zg (t':=s.toks) (r.append r2) (by rw[D7];exact hz),rfl,q _ I.fresh⟩
def gO(a b:D):Option D:=match a,b with
 | .int i,.int j=>some (.int (i+j))
 | .lst x,.lst y=>if D.bM (x++y)=true∧x.length+y.length≤100000 then some (.lst (x++y))else none
 | _,_=>none
theorem bC.append{H:Hp}:∀{ds es:List D} {xs ys:List V},bC K H ds xs→bC K H es ys→bC K H (ds++es) (xs++ys)
 | [],es,xs,ys,h,h'=>by unfold bC at h;subst h;exact h'
 | d::ds,es,xs,ys,h,h'=>by unfold bC at h;obtain⟨y,yt,rfl,h1,h2⟩:=h;rw[K0,K0];unfold bC;exact⟨y,_,rfl,h1,bC.append h2 h'⟩
theorem Qh:Ju K (λx y H Q=>Nj (λi j=>.int (i+j)) x y H Q∨Km K x y H Q) gO:=λx y H a b d Q ra rb q k=>by
 unfold gO at q
 split at q
 ·cases q;unfold Rv at ra rb;exact .inl ⟨_,_,ra,rb,k _ H (aD.refl _) (.cX rfl (by unfold Rv;rfl))⟩
 ·split at q
  ·rename_i c
   cases q
   unfold Rv at ra rb
   obtain⟨p,xs,rfl,r2,r3⟩:=ra
   obtain⟨p',xs',rfl,r2',r3'⟩:=rb
   refine .inr ⟨p,p',xs,xs',rfl,rfl,r2,r2',Dt (by rw[r3.length,r3'.length];exact c.2),λl hl=>?_⟩
   exact k _ _ (bD hl _) (jG (aD.refl _) (.bM c.1 (r3.append r3')) hl)
  ·cases q
 ·cases q
theorem gC(ha:XR K X a ta f)(hb:XR K X b tb g):XN K X (.BinOp a .Add b pos) (xY (λx y H Q=>Nj (λi j=>.int (i+j)) x y H Q∨Km K x y H Q) ta tb) (f2 gO f g):=qT (Uw.or (Qg ha.hk)) Qh ha hb
def JH(K:aA)(wi:TI)(fi:FA):Prop:=∀{N:Fp}(σ:St)(H Z:Hp)(e:DE)(ds:List D)(R:It→Hp→Prop),Zn K N Z H→iG K Z e σ→fi e=some ds →
 (∀J H' Z' P vs,aD H H'→aD Z Z'→Zn K N Z' H'→Vq J P vs→(∀H2,aD Z' H2→P H2)→bC K Z' ds vs→R J H')→wi σ H R
structure XI(K:aA)(X:Cx)(tg iter:Expr)(wi:TI)(fi:FA):Prop where
 hk:X.K=K
 pi:PI X tg iter wi
 ev:JH K wi fi
def pA(f:FE):FA:=λe=>(f e).bind lV
def JK(K:aA)(t:TE):TI:=λσ H R=>Rr K t σ H R∨Yt K t σ H R
theorem kW{tg:Expr}(h:XR K X e t f):XI K X tg e (JK K t) (pA f):=⟨h.hk,by
 have hk:=h.hk
 subst hk
 exact λpins s σ H R I q=>q.elim (Oc h.pe pins s σ H R I) (Us h.pe pins s σ H R I),λσ H Z e ds R z re q k=>by
 unfold pA at q
 obtain⟨d,q1,q2⟩:=aR q
 cases d with
 | lst es=>
  unfold lV at q2;cases q2
  refine .inl (h.ev σ H Z e _ _ z re q1 λv H1 Z1 s1 t1 z1 rv=>?_)
  unfold Rv at rv
  obtain⟨p,xs,rfl,r2,r3⟩:=rv
  exact⟨p,rfl,⟨xs,z1.sm.seq r2⟩,k _ H1 Z1 _ xs s1 t1 z1 Jm (λH2 s=>s.seq r2) r3⟩
 | tup es=>
  unfold lV at q2;cases q2
  refine .inr (h.ev σ H Z e _ _ z re q1 λv H1 Z1 s1 t1 z1 rv=>?_)
  unfold Rv at rv
  obtain⟨p,xs,rfl,r2,r3⟩:=rv
  exact⟨p,rfl,⟨xs,z1.sm.tup r2⟩,k _ H1 Z1 _ xs s1 t1 z1 Pq (λH2 s=>s.tup r2) r3⟩
 | _=>unfold lV at q2;cases q2⟩
def lim(i:Int):Bool:=decide (-100000≤i∧i≤100000)
def dC(e:DE)(fr:List Nat):DE:=fr.map λi=>(e[i]?).getD none
theorem Ef{H:Hp}{e:DE}{σ:St}{fr:List Nat}{d:D}{x:V}(re:iG K H e σ)(r:Rv K H d x):iG K H (some d::dC e fr) (some x::wD σ fr):=λi d' h=>by
 cases i with
 | zero=>simp at h;subst h;exact⟨x,rfl,r⟩
 | succ i=>
  rw[List.getElem?_cons_succ]at h ⊢
  unfold dC at h
  unfold wD
  rw[C4]at h ⊢
  cases q:fr[i]? with
  | none=>rw[q]at h;cases h
  | some j=>
   rw[q]at h
   have h:(e[j]?).getD none=some d':=D9 h
   have h2:e[j]?=some (some d'):=by
    cases q2:e[j]? with
    | none=>rw[q2]at h;cases h
    | some o=>rw[q2]at h;rw[show o=some d' from h]
   obtain⟨v,h3,h4⟩:=re j d' h2
   refine⟨v,?_,h4⟩
   show some (σ.getD j none)=_
   rw[B7,h3]
   rfl
def eE(c:D→Option Bool)(el:D→Option D):List D→Option (List D)
 | []=>some []
 | x::xs=>(c x).bind λb=>if b=true then(el x).bind λy=>(eE c el xs).map (y::·)else eE c el xs
def fK(fi:FA)(fr:List Nat)(fc:FT)(fe:FE):FE:=λe=>(fi e).bind λxs=>if xs.length≤100000 then(eE (λx=>fc (some x::dC e fr)) (λx=>fe (some x::dC e fr)) xs).map D.lst else none
theorem kY{H:Hp}{p:Addr}{o:HO}(n:lN H p):mQ K H (upd H p o):=λa xs h=>h.upd n
theorem Eg{wi:TI}{fi:FA}{fr:List Nat}{te:TE}{fe:FE}(hi:JH K wi fi)(hc:Ah K tc fc)(he:uA K te fe):uA K (lJ wi 1 fr (bZ 0) tc te) (fK fi fr fc fe):=by
 intro σ H e d Q re q k
 unfold fK at q
 obtain⟨xs,q1,q⟩:=aR q
 split at q
 ·rename_i hlen
  obtain⟨ds,q2,rfl⟩:=cR q
  refine hi σ H H e xs _ (Zn.self K H) re q1 λJ H1 Z1 P vs s1 t1 z1 hJ hP rvs=>?_
  intro D0 hD
  have hl:=rvs.length
  have JL:H D0=none:=s1.free hD
  generalize hcc:(λx=>fc (some x::dC e fr))=cc at q2
  generalize hel:(λx=>fe (some x::dC e fr))=el at q2
  refine⟨λi m ys H2=>∃Gz Qi A,m=vs.length-i∧i≤vs.length∧ds=Gz++Qi∧eE cc el (xs.drop i)=some Qi∧aD H1 H2∧H2 D0=some (.lst ys)∧bH K H2 Gz A ys∧(∀a,A a→H1 a=none∧a≠D0)∧ys.length≤i,
   ⟨vs.length,[],ds,nil,by simp,F9 _,rfl,by simpa using q2,bD hD _,aQ,by unfold bH;exact⟨λ_ z=>z,rfl⟩,λ_ z=>z.elim,B6 _⟩,?_⟩
  rintro i m ys H2 ⟨Gz,Qi,A,rfl,hi',hds,hcl,s2,hD2,ow,fr2,hyl⟩
  obtain⟨j1,j2,j3⟩:=hJ i H2 (hP H2 (z1.sm.trans s2))
  refine⟨hD2,?_⟩
  by_cases hlt:i<vs.length
  ·refine .inr ⟨j1 hlt,λx H' y=>?_⟩
   obtain⟨e1,ex⟩:=j2 x H' y
   subst e1
   have hx:=ex hlt
   have hxi:i<xs.length:=by omega
   have hxs:xs.drop i=xs[i]::xs.drop (i+1):=K4 hxi
   obtain⟨x',hx',rx⟩:=rvs.get (A9 hxi)
   rw[hx]at hx'
   cases hx'
   rw[hxs]at hcl
   unfold eE at hcl
   obtain⟨bb,c1,c2⟩:=aR hcl
   show Kp 1 σ fr (some x::wD σ fr)∧_
   refine⟨⟨by simp[blk],λj v hv=>?_⟩,?_⟩
   ·cases j with
    | zero=>simp[blk]at hv
    | succ j=>simpa[blk]using hv
   have Zw:iG K H' (some xs[i]::dC e fr) (some x::wD σ fr):=Ef (re.same (s1.trans s2)) ((z1.sm.trans s2).rv _ _ rx)
   refine hc _ H' _ bb _ Zw (by rw[←hcc]at c1;exact c1) λH3 s3=>?_
   have Wj:=s3 _ _ hD2
   cases bb with
   | false=>
    rw[if_neg (by decide)]at c2 ⊢
    exact⟨vs.length-(i+1),by omega,Gz,Qi,A,rfl,by omega,hds,c2,s2.trans s3,Wj,ow.same s3,fr2,by omega⟩
   | true=>
    rw[if_pos rfl]at c2 ⊢
    obtain⟨dy,c3,c4⟩:=aR c2
    obtain⟨JM,c5,rfl⟩:=cR c4
    refine he _ H3 _ dy _ (Zw.same s3) (by rw[←hel]at c3;exact c3) λyv H4 s4 n4=>?_
    have Zx:=s4 _ _ Wj
    refine⟨Zx,Du (by omega),vs.length-(i+1),by omega,Gz++[dy],JM,?_⟩
    obtain⟨B,oB,fB⟩:=n4
    have hB:∀a,B a→H1 a=none∧a≠D0:=λa qa=>⟨(s2.trans s3).free (fB a qa),λz=>by have q0:=fB a qa;rw[z,Wj]at q0;cases q0⟩
    refine⟨cI A B,rfl,by omega,by rw[hds];simp,c5,λb o eb=>?_,aQ,?_,λa qa=>qa.elim (fr2 a) (hB a),by rw[D7];simp;exact hyl⟩
    ·rw[aJ (bU eb hD)]
     exact(s2.trans (s3.trans s4)) b o eb
    ·have o4:=(ow.same s3).same s4
     have ap:Apart A B:=λa qa qb=>by
      obtain⟨⟨u,eu⟩,_⟩:=bH.cells _ _ _ (ow.same s3) a qa
      rw[fB a qb]at eu;cases eu
     have all:bH K H4 (Gz++[dy]) (cI A B) (ys++[yv]):=cA.mpr ((cA.mp o4).snoc oB ap)
     exact bH.frame (kY (fG Zx)) _ _ _ all λa qa=>aJ (qa.elim (λz=>(fr2 a z).2) λz=>(hB a z).2)
  ·have ei:i=vs.length:=by omega
   subst ei
   have:xs.drop vs.length=[]:=P6 (by omega)
   rw[this]at hcl
   unfold eE at hcl
   cases hcl
   rw[L8]at hds
   subst hds
   refine .inl ⟨j3 (B6 _),k _ H2 (s1.trans s2) ⟨cI (·=D0) A,?_,λa qa=>qa.elim (λz=>by cases z;exact JL) λz=>s1.free (fr2 a z).1⟩⟩
   unfold Ow
   exact⟨D0,ys,A,rfl,hD2,λz=>(fr2 D0 z).2 rfl,λ_=>Iff.rfl,ow⟩
 ·cases q
def Ko:FT:=λ_=>some true
structure JN(K:aA)(X:Cx)(ifs:List Expr)(t:TT)(f:FT):Prop where
 OJ:Vp X ifs t
 ev:Ah K t f
theorem Eh(h:XT K X c tc fc):JN K X [c] tc fc:=⟨Ph h.pt,h.ev⟩
theorem Qj{tg elt iter:Expr}{ifs:List Expr}{scope:Scope}{wi:TI}{fi:FA}{te:TE}{fe:FE}(N:List Str)(fr:List Nat)(hcalm:X.calm=true)(B:bW X.env.scope scope X.N N 1 fr)(hi:XI K X tg iter wi fi)
  (hg:∀cl fp s H C,PG (bO X scope N cl fp s H C) tg (bZ 0)) (hc:∀cl fp s H C,JN K (bO X scope N cl fp s H C) ifs tc fc) (he:∀cl fp s H C,XN K (bO X scope N cl fp s H C) elt te fe)
  (hs:∀x,foldedSetIterable iter X.env x=pure x:=by intro _;rfl):XN K X (.ListComp elt [⟨tg,iter,ifs,0⟩] scope pos) (lJ wi 1 fr (bZ 0) tc te) (fK fi fr fc fe):=
 ⟨hi.hk,Dm N 1 fr hcalm B hi.pi hg (λcl fp s H C=>(hc cl fp s H C).OJ) (λcl fp s H C=>(he cl fp s H C).pe) hs,
  Eg hi.ev (hc [] [] X.s₀ X.H₀ 0).ev (he [] [] X.s₀ X.H₀ 0).ev⟩
def oE(K:aA)(n:Nat)(F:List D→Option D):Sp:=λvs H Q _=>∃ds d,ds.length=n∧bC K H ds vs∧F ds=some d∧∀v H',aD H H'→Ag K H H' d v→Q v H'
def bI(n:Nat)(F:List D→Option D)(fs:FA):FE:=λe=>(fs e).bind λds=>if ds.length=n then F ds else none
theorem bL{x:Str}{k n:Nat}{F:List D→Option D}{p:Pos}(C:mO X.prog X.w X.K X.mg X.base x k n (oE K n F))(hr:dH k X.A)(hg:Gl X x)(ha:XA K X (e::es) tA fs)(hdb:(x==("__debug__" : Str))=false:=by decide)
  (he:starEach (e::es) X.env=(false,eval e X.env)::starEach es X.env:=by rfl) (hpl:(backTo pos (starEach es X.env)).any (·.1)=false:=by rfl):XN K X (.Call (.Name x p) (e::es) [] pos) (xZ (oE K n F) [] E0 tA) (bI n F fs):=
 ⟨ha.hk,Vv C hr hg ha.pa hdb he hpl,λσ H e d Q re q k=>by
  unfold bI at q
  obtain⟨ds,q1,q2⟩:=aR q
  split at q2
  ·rename_i hl
   refine call_of (ha.ev σ H H e ds _ (Zn.self K H) re q1 λvs H1 Z1 s1 t1 z1 rs=>?_)
   exact⟨ds,d,hl,z1.sm.Ig _ _ rs,q2,λv H2 s2 n=>k v H2 (s1.trans s2) (n.back s1)⟩
  ·cases q2⟩
end
end L2


namespace L2
open PySem PySem.Spec PyProof.Rows
inductive SD where
  | no | fro (d:D) | own (d:D) | inn (v:V) (d:D)
def SD.z:SD→Option D
 | .fro d=>some d
 | .own d=>if d.cX=true then some d else none
 | .inn _ d=>if d.cX=true then some d else none
 | .no=>none
def SD.r:SD→Option D
 | .fro d=>some d
 | .own d=>some d
 | .inn _ d=>some d
 | .no=>none
abbrev EN:=List SD
def zE(env:EN):DE:=env.map SD.z
def rE(env:EN):DE:=env.map SD.r
def cY(K:aA)(H Z:Hp):SD→Fp→Option V→Prop
 | .no,A,_=>None A
 | .fro d,A,y=>None A∧∃v,y=some v∧Rv K Z d v
 | .own d,A,y=>∃v,y=some v∧Ow K H d A v
 | .inn v d,A,y=>y=some v∧Ow K H d A v
def Rel(K:aA)(B:Hp)(env:EN)(σ:St)(H:Hp):Prop:=∃A,cQ (cY K H (out H A)) env A σ∧aD B (out H A)
section
variable{K:aA}{B B' H H' Z Z':Hp}{env:EN}{σ:St}{A:Fp}
theorem cQ.all{α β:Type}{R:α→Fp→β→Prop}{Pr:Addr→Prop}:∀{ds:List α} {A:Fp} {ys:List β},cQ R ds A ys→(∀d B y,R d B y→∀a,B a→Pr a)→∀a,A a→Pr a
 | [],A,ys,h,_,a,q=>absurd q (h.1 a)
 | d::ds,A,ys,⟨y,yt,A1,A2,h1,h2,h3,h4,h5⟩,m,a,q=>((h3 a).mp q).elim (m _ _ _ h4 a) (cQ.all h5 m a)
theorem cY.cells{s:SD}{y:Option V}(h:cY K H Z s A y):∀a,A a→iC H a:=by
 cases s with
 | no=>exact λa q=>absurd q (h a)
 | fro d=>exact λa q=>absurd q (h.1 a)
 | own d=>obtain⟨v,_,o⟩:=h;exact Ow.cells d A v o
 | inn v d=>exact Ow.cells d A v h.2
theorem cN(h:cQ (cY K H Z) env A σ):∀a,A a→iC H a:=cQ.all h λ_ _ _ q=>q.cells
theorem Rel.mono(h:Rel K B' env σ H)(s:aD B B'):Rel K B env σ H:=let ⟨A,a,b⟩:=h;⟨A,a,s.trans b⟩
theorem iK{A A':Fp}(s:aD H H')(h:∀a,A' a→A a∨H a=none):aD (out H A) (out H' A'):=λb o e=>by
 obtain⟨e1,e2⟩:=aV.mp e
 refine aV.mpr ⟨λq=>?_,s b o e2⟩
 rcases h b q with q | q
 ·exact e1 q
 ·rw[q]at e2;cases e2
theorem cY.same{s:SD}{y:Option V}(h:cY K H Z s A y)(e:aD H H')(z:aD Z Z'):cY K H' Z' s A y:=by
 cases s with
 | no=>exact h
 | fro d=>obtain⟨h1,v,h2,h3⟩:=h;exact⟨h1,v,h2,z.rv _ _ h3⟩
 | own d=>obtain⟨v,h1,h2⟩:=h;exact⟨v,h1,h2.same e⟩
 | inn v d=>exact⟨h.1,h.2.same e⟩
theorem Rel.same(h:Rel K B env σ H)(s:aD H H'):Rel K B env σ H':=by
 obtain⟨A,a,b⟩:=h
 have g:aD (out H A) (out H' A):=iK s λa q=>.inl q
 exact⟨A,a.mono λe C z _ q=>q.same s g,b.trans g⟩
theorem Kq(h:cQ (cY K H (out H A)) env A σ):Zn K A (out H A) H:=⟨iD H A,Js λa q=>(cN h a q).2,λa q=>⟨by
 unfold out;rw[if_pos q],λz=>by obtain⟨⟨o,e⟩,_⟩:=cN h a q;rw[z]at e;cases e⟩⟩
theorem Rel.r(h:Rel K B env σ H):iG K H (rE env) σ:=λi d q=>by
 obtain⟨A,a,b⟩:=h
 unfold rE at q
 rw[C4]at q
 cases e:env[i]? with
 | none=>rw[e]at q;cases q
 | some s=>
  rw[e]at q
  obtain⟨y,A1,C,h1,h2,h3,h4,_⟩:=a.focus e
  cases s with
  | no=>cases q
  | fro d0=>cases q;obtain⟨_,v,rfl,h5⟩:=h4;exact⟨v,h1,(iD H A).rv _ _ h5⟩
  | own d0=>cases q;obtain⟨v,rfl,h5⟩:=h4;exact⟨v,h1,Ow.rv _ _ _ h5⟩
  | inn v d0=>cases q;obtain⟨rfl,h5⟩:=h4;exact⟨v,h1,Ow.rv _ _ _ h5⟩
theorem Zy(a:cQ (cY K H (out H A)) env A σ):iG K (out H A) (zE env) σ:=λi d q=>by
 unfold zE at q
 rw[C4]at q
 cases e:env[i]? with
 | none=>rw[e]at q;cases q
 | some s=>
  rw[e]at q
  obtain⟨y,A1,C,h1,h2,h3,h4,_⟩:=a.focus e
  cases s with
  | no=>cases q
  | fro d0=>cases q;obtain⟨_,v,rfl,h5⟩:=h4;exact⟨v,h1,h5⟩
  | own d0=>
   obtain⟨v,rfl,h5⟩:=h4
   have q:(if d0.cX=true then some d0 else none)=some d:=D9 q
   split at q
   ·rename_i im
    cases q
    exact⟨v,h1,(qN _ v im (Ow.rv _ _ _ h5)).out (λ_ z=>z.elim) λx hx=>(cN a x hx).2⟩
   ·cases q
  | inn v d0=>
   obtain⟨rfl,h5⟩:=h4
   have q:(if d0.cX=true then some d0 else none)=some d:=D9 q
   split at q
   ·rename_i im
    cases q
    exact⟨v,h1,(qN _ v im (Ow.rv _ _ _ h5)).out (λ_ z=>z.elim) λx hx=>(cN a x hx).2⟩
   ·cases q
theorem Rel.own{i:Nat}{d:D}{v:V}(h:Rel K B env σ H)(hi:i<env.length)(s:aD H H')(n:Ag K H H' d v):Rel K B (env.set i (.own d)) (σ.set i (some v)) H':=by
 obtain⟨A,a,b⟩:=h
 obtain⟨N,o,f⟩:=n
 have cl:=cN a
 obtain⟨y,A1,C,h1,h2,h3,h4,k⟩:=a.focus (A9 hi)
 have g:aD (out H A) (out H' (cI N C)):=iK s λx q=>q.elim (λq=>.inr (f x q)) λq=>.inl ((h3 x).mpr (.inr q))
 refine⟨cI N C,k (cY K H' (out H' (cI N C))) (λe D z _ q=>q.same s g) (.own d) (some v) N (λx q c=>?_) ⟨v,rfl,o⟩,b.trans g⟩
 obtain⟨⟨u,e⟩,_⟩:=cl x ((h3 x).mpr (.inr c))
 rw[f x q]at e;cases e
theorem Qk{i:Nat}{d:D}{v:V}(a:cQ (cY K H (out H A)) env A σ)(b:aD B (out H A))(hi:i<env.length)(s:aD H H')(t:aD (out H A) Z')(z:Zn K A Z' H')(r:Rv K Z' d v):Rel K B (env.set i (.fro d)) (σ.set i (some v)) H':=by
 obtain⟨y,A1,C,h1,h2,h3,h4,k⟩:=a.focus (A9 hi)
 have hC:∀x,cI nil C x→A x:=λx q=>q.elim False.elim λq=>(h3 x).mpr (.inr q)
 have g:aD (out H A) (out H' (cI nil C)):=iK s λx q=>.inl (hC x q)
 have g2:aD Z' (out H' (cI nil C)):=λx o e=>aV.mpr ⟨λq=>(by rw[(z.no x (hC x q)).1]at e;cases e),z.sm x o e⟩
 exact⟨cI nil C,k (cY K H' (out H' (cI nil C))) (λe D z _ q=>q.same s g) (.fro d) (some v) nil (λx q c=>q) ⟨λ_ z=>z,v,rfl,g2.rv _ _ r⟩,b.trans g⟩
def Kr(env:EN)(j:Nat):EN:=match env[j]? with
 | some (.own d)=>env.set j (.fro d)
 | _=>env
def eV(js:List Nat)(env:EN):EN:=js.foldl Kr env
theorem set_same{α:Type}{l:List α}{i:Nat}{x:α}(h:l[i]?=some x):l.set i x=l:=by
 apply N7
 intro j
 rw[List.getElem?_set]
 by_cases c:i=j
 ·subst c
  rw[if_pos rfl,h]
  split
  ·rfl
  ·rename_i q;rw[F7 (by omega)]at h;cases h
 ·rw[if_neg c]
theorem Rel.Kr{j:Nat}(h:Rel K B env σ H):Rel K B (Kr env j) σ H:=by
 unfold L2.Kr
 cases e:env[j]? with
 | none=>exact h
 | some s=>
  cases s with
  | no=>exact h
  | fro d=>exact h
  | inn v d=>exact h
  | own d=>
   obtain⟨A,a,b⟩:=h
   have cl:=cN a
   obtain⟨y,A1,C,h1,h2,h3,h4,k⟩:=a.focus e
   obtain⟨v,rfl,o⟩:=h4
   have g:aD (out H A) (out H (cI nil C)):=iK (aD.refl _) λx q=>q.elim False.elim λq=>.inl ((h3 x).mpr (.inr q))
   have:=k (cY K H (out H (cI nil C))) (λe D z _ q=>q.same (aD.refl _) g) (.fro d) (some v) nil (λx q c=>q)
    ⟨λ_ z=>z,v,rfl,o.out (λx q c=>h2 x q (c.elim False.elim id)) λx q=>(cl x ((h3 x).mpr (.inr (q.elim False.elim id)))).2⟩
   rw[set_same h1]at this
   exact⟨cI nil C,this,b.trans g⟩
theorem Rel.eV{js:List Nat}(h:Rel K B env σ H):Rel K B (eV js env) σ H:=by
 unfold L2.eV
 induction js generalizing env with
 | nil=>exact h
 | cons j js ih=>exact ih h.Kr
end
inductive SR where
  | next (env:EN) | ret (d:D) | brk (env:EN) | cont (env:EN) | bad | rete (d:D) (env:EN)
def Bf(K:aA)(B:Hp)(E:Ends):SR→Prop
 | .next env=>∀σ H,Rel K B env σ H→E.nx σ H
 | .ret d=>∀v H A,aD B (out H A)→Ow K H d A v→E.rt v H
 | .brk env=>∀σ H,Rel K B env σ H→E.bk σ H
 | .cont env=>∀σ H,Rel K B env σ H→E.ct σ H
 | .bad=>False
 | .rete d env=>∀v σ H,Rel K B (env++[.own d]) (σ++[some v]) H→E.rt v H
theorem Bf.mono{K:aA}{B B':Hp}{E:Ends}{r:SR}(h:Bf K B E r)(s:aD B B'):Bf K B' E r:=by
 cases r with
 | next env=>exact λσ H q=>h σ H (q.mono s)
 | ret d=>exact λv H A q=>h v H A (s.trans q)
 | brk env=>exact λσ H q=>h σ H (q.mono s)
 | cont env=>exact λσ H q=>h σ H (q.mono s)
 | bad=>exact h
 | rete d env=>exact λv σ H q=>h v σ H (q.mono s)
abbrev GS:=EN→SR
def DS(K:aA)(t:TS)(g:GS):Prop:=∀(B:Hp)(E:Ends)(σ:St)(H:Hp)(env:EN),Rel K B env σ H→Bf K B E (g env)→t E σ H
def Zz(K:aA)(B:Hp)(E:Ends)(σ:St):SR→Prop
 | .next env=>∀H,Rel K B env σ H→E.nx σ H
 | r=>Bf K B E r
def BJ(K:aA)(t:TS)(g:GS):Prop:=∀(B:Hp)(E:Ends)(σ:St)(H:Hp)(env:EN),Rel K B env σ H→Zz K B E σ (g env)→t E σ H
theorem BJ.ds{K:aA}{t:TS}{g:GS}(h:BJ K t g):DS K t g:=λB E σ H env r p=>h B E σ H env r (by
 cases q:g env with
 | next e=>rw[q]at p;exact λH' r'=>p σ H' r'
 | ret d=>rw[q]at p;exact p
 | brk e=>rw[q]at p;exact p
 | cont e=>rw[q]at p;exact p
 | bad=>rw[q]at p;exact p
 | rete d e=>rw[q]at p;exact p)
structure YS(K:aA)(X:Cx)(st:Stmt)(t:TS)(g:GS):Prop where
 ps:PS X st t
 ev:DS K t g
structure YB(K:aA)(X:Cx)(st:List Stmt)(t:TS)(g:GS):Prop where
 ps:Af X st t
 ev:DS K t g
section
variable{K:aA}{X:Cx}{st:Stmt}{sts:List Stmt}{t u:TS}{g g1 g2:GS}{e a b c:Expr}{te ta tb:TE}{f fa fb:FE}{tc:TT}{fc:FT}{pos:Pos}
def aX(g1 g2:GS):GS:=λenv=>match g1 env with
 | .next env'=>g2 env'
 | r=>r
theorem Wk(h1:DS K t g1)(h2:DS K u g2):DS K (Up t u) (aX g1 g2):=λB E σ H env r p=>by
 unfold aX at p
 refine h1 B {E with nx:=u E} σ H env r ?_
 cases q:g1 env with
 | next env'=>rw[q]at p;exact λσ' H' r'=>h2 B E σ' H' env' r' p
 | ret d=>rw[q]at p;exact p
 | brk d=>rw[q]at p;exact p
 | cont d=>rw[q]at p;exact p
 | bad=>rw[q]at p;exact p
 | rete d e=>rw[q]at p;exact p
def fM:GS:=λenv=>.next env
theorem gD:YB K X [] Rq fM:=⟨Oa,λB E σ H env r p=>p σ H r⟩
theorem bB(h:YS K X st t g):YB K X [st] t g:=⟨Ob h.ps,h.ev⟩
theorem aO(h:YS K X st t g1)(h2:YB K X sts u g2):YB K X (st::sts) (Up t u) (aX g1 g2):=⟨Ip h.ps h2.ps,Wk h.ev h2.ev⟩
def dB(i:Nat)(f:FE):GS:=λenv=>match f (rE env)with
 | some d=>if i<env.length then .next (env.set i (.own d))else .bad
 | none=>.bad
theorem Bg{i:Nat}(h:uA K te f):DS K (xX te (bZ i)) (dB i f):=λB E σ H env r p=>by
 unfold dB at p
 split at p
 ·rename_i d q
  split at p
  ·rename_i hi
   exact h σ H (rE env) d _ r.r q λv H' s n=>p _ _ (r.own hi s n)
  ·exact p.elim
 ·exact p.elim
theorem cJ{i:Nat}{x:Str}{pos':Pos}(h:XN K X e te f)(hp:PE X e te→PS X (.Assign [.Name x pos'] e pos) (xX te (bZ i))):YS K X (.Assign [.Name x pos'] e pos) (xX te (bZ i)) (dB i f):=⟨hp h.pe,Bg h.ev⟩
def dX(f:FE):GS:=λenv=>match f (rE env)with
 | some d=>.ret d
 | none=>.bad
theorem cL(h:XN K X e te f):YS K X (.Return (some e) pos) (Yp te) (dX f):=⟨Uq h.pe,λB E σ H env r p=>by
 unfold dX at p
 split at p
 ·rename_i d q
  refine h.ev σ H (rE env) d _ r.r q λv H' s ⟨N,o,fr⟩=>p v H' N (λx u ex=>?_) o
  obtain⟨A,a,b⟩:=r
  have h1:=(aV.mp (b x u ex)).2
  exact aV.mpr ⟨λz=>(by rw[fr x z]at h1;cases h1),s x u h1⟩
 ·exact p.elim⟩
def rG(f:FE):GS:=λenv=>match f (rE env)with
 | some _=>.next env
 | none=>.bad
theorem Ql(h:wL K te f):DS K (nU te) (rG f):=λB E σ H env r p=>by
 unfold rG at p
 split at p
 ·rename_i d q
  exact h σ H H (rE env) d _ (Zn.self K H) r.r q λv H' Z' s t z rv=>p _ _ (r.same s)
 ·exact p.elim
def rH(f:FT)(g1 g2:GS):GS:=λenv=>match f (rE env)with
 | some true=>g1 env
 | some false=>g2 env
 | none=>.bad
theorem jW{s1 s2:List Stmt}(hc:XT K X c tc fc)(h1:YB K X s1 t g1)(h2:YB K X s2 u g2):YS K X (.If c s1 s2 pos) (Yq tc t u) (rH fc g1 g2):=⟨Yr hc.pt h1.ps h2.ps,λB E σ H env r p=>by
 unfold rH at p
 split at p
 ·rename_i q
  refine hc.ev σ H (rE env) true _ r.r q λH' s=>?_
  rw[if_pos rfl]
  exact h1.ev B E σ H' env (r.same s) p
 ·rename_i q
  refine hc.ev σ H (rE env) false _ r.r q λH' s=>?_
  rw[if_neg (by decide)]
  exact h2.ev B E σ H' env (r.same s) p
 ·exact p.elim⟩
def wR(i:Nat)(g:GS):List D→EN→SR
 | [],env=>.next env
 | x::xs,env=>if i<env.length then match g (env.set i (.fro x))with
   | .next env'=>wR i g xs env'
   | .cont env'=>wR i g xs env'
   | .brk env'=>.next env'
   | r=>r
  else .bad
def pB(js:List Nat)(i:Nat)(fi:FA)(g:GS):GS:=λenv=>match fi (zE (eV js env))with
 | some xs=>wR i g xs (eV js env)
 | none=>.bad
theorem Wl{js:List Nat}{i:Nat}{wi:TI}{fi:FA}{tb:TS}(hi:JH K wi fi)(h:DS K tb g):DS K (Ut wi (bZ i) tb) (pB js i fi g):=λB E σ H env r p=>by
 unfold pB at p
 have r':Rel K B (eV js env) σ H:=r.eV
 generalize eV js env=iM at r' p
 split at p
 ·rename_i xs q
  obtain⟨A,a,b⟩:=r'
  refine hi σ H (out H A) (zE iM) xs _ (Kq a) (Zy a) q λJ H1 Z1 P vs s t z hJ hP rvs=>?_
  have hl:=rvs.length
  have g0:aD Z1 (out H1 A):=λx o e=>aV.mpr ⟨λqa=>(by rw[(z.no x qa).1]at e;cases e),z.sm x o e⟩
  have JP:Rel K Z1 iM σ H1:=⟨A,a.mono λe D y _ qq=>qq.same s (iK s λx q=>.inl q),g0⟩
  have bz:aD B Z1:=b.trans t
  have p':=p.mono bz
  refine Px hJ (λk σ2 H2=>∃wU,Rel K Z1 wU σ2 H2∧Bf K Z1 E (wR i g (xs.drop k) wU)) ⟨iM,JP,by simpa using p'⟩ (λk σ2 H2 _ ⟨wU,⟨A2,a2,b2⟩,_⟩=>hP H2 (b2.trans (iD H2 A2))) ?_ ?_
  ·rintro k x σ2 H2 hx ⟨wU,r2,p2⟩
   have hk:k<xs.length:=by
    have:=B9.mp hx
    obtain⟨h1,_⟩:=this
    omega
   rw[K4 hk]at p2
   unfold wR at p2
   obtain⟨x',hx',rx⟩:=rvs.get (A9 hk)
   rw[hx]at hx'
   cases hx'
   split at p2
   ·rename_i hlen
    obtain⟨A2,a2,b2⟩:=r2
    have r3:Rel K Z1 (wU.set i (.fro xs[k])) (σ2.set i (some x)) H2:=Qk a2 b2 hlen (aD.refl _) (aD.refl _) (Kq a2) (b2.rv _ _ rx)
    refine h Z1 _ _ H2 _ r3 ?_
    split at p2
    ·rename_i env' q2;rw[q2];exact λσ' H' r'=>⟨env',r',p2⟩
    ·rename_i env' q2;rw[q2];exact λσ' H' r'=>⟨env',r',p2⟩
    ·rename_i env' q2;rw[q2];exact p2
    ·rename_i n1 n2 n3
     cases q2:g (wU.set i (.fro xs[k]))with
     | next e=>exact absurd q2 (n1 e)
     | cont e=>exact absurd q2 (n2 e)
     | brk e=>exact absurd q2 (n3 e)
     | ret d=>rw[q2]at p2;exact p2
     | bad=>rw[q2]at p2;exact p2
     | rete d e=>rw[q2]at p2;exact p2
   ·exact p2.elim
  ·rintro σ2 H2 ⟨wU,r2,p2⟩
   rw[hl,List.drop_length]at p2
   exact p2 σ2 H2 r2
 ·exact p.elim
theorem rJ{tg iter:Expr}{body:List Stmt}{wi:TI}{fi:FA}{tb:TS}{i:Nat}(js:List Nat)(hp:PassesOwn (model X.prog X.w) X.A X.env X.xe)(JQ:X.calm=true)(hi:XI K X tg iter wi fi)(hg:PG X tg (bZ i))(hb:YB K X body tb g)
  (hs:∀x,foldedSetIterable iter X.env x=pure x:=by intro _;rfl):YS K X (.For tg iter body [] pos) (Ut wi (bZ i) tb) (pB js i fi g):=⟨Uu hp JQ hi.pi hg hb.ps hs,Wl hi.ev hb.ev⟩
end
end L2


namespace L2
open PySem PySem.Spec PyProof.Rows
inductive Step where
  | ix (k:Nat) | key (k:Key) | fld (C:Addr) (f:Str)
def kids:D→List D
 | .lst ds=>ds
 | .dk _ ds=>ds
 | .ins _ _ ds=>ds
 | _=>[]
def rK:D→List D→D
 | .lst _,ds=>.lst ds
 | .dk ks _,ds=>.dk ks ds
 | .ins C nm _,ds=>.ins C nm ds
 | d,_=>d
def wV:Step→D→Option Nat
 | .ix k,.lst ds=>some k
 | .key k,.dk ks _=>posK ks k
 | .fld C f,.ins C' nm _=>if C'=C then posK nm f else none
 | _,_=>none
def lX:List Step→D→Option D
 | [],d=>some d
 | s::p,d=>(wV s d).bind λj=>((kids d)[j]?).bind (lX p)
def lY:List Step→D→D→D
 | [],_,d'=>d'
 | s::p,d,d'=>match wV s d with
  | some j=>(match (kids d)[j]? with
   | some c=>rK d ((kids d).set j (lY p c d'))
   | none=>d)
  | none=>d
def stepV(H:Hp)(s:Step)(v:V):Option V:=match v with
 | .ref a=>(match s,H a with
  | .ix k,some (.lst xs)=>xs[k]?
  | .key k,some (.dK kvs)=>gP kvs k
  | .fld C f,some (.ins C' _ fs)=>if C'=C then fs.lookup f else none
  | _,_=>none)
 | _=>none
def Ih(H:Hp):List Step→V→Option V
 | [],v=>some v
 | s::p,v=>(stepV H s v).bind (Ih H p)
theorem Bh{H H':Hp}(e:aD H H'){s:Step}{v w:V}(h:stepV H s v=some w):stepV H' s v=some w:=by
 cases v with
 | ref a=>
  unfold stepV at h ⊢
  dsimp only at h ⊢
  cases q:H a with
  | none=>rw[q]at h;cases s<;>cases h
  | some o=>rw[e a o q];rw[q]at h;exact h
 | _=>unfold stepV at h;cases h
theorem yQ{H H':Hp}(e:aD H H'):∀{p:List Step} {v w:V},Ih H p v=some w→Ih H' p v=some w
 | [],v,w,h=>h
 | s::p,v,w,h=>by
  unfold Ih at h ⊢
  obtain⟨u,h1,h2⟩:=aR h
  rw[Bh e h1]
  exact yQ e h2
theorem Bj{nm:List Str}{xs:List V}{f:Str}(h:nm.length=xs.length):(nm.zip xs).lookup f=(posK nm f).bind λj=>xs[j]?:=by
 induction nm generalizing xs with
 | nil=>unfold posK;rfl
 | cons a nm ih=>
  cases xs with
  | nil=>simp at h
  | cons x xs=>
   have ih:=ih (xs:=xs) (by simpa using h)
   unfold posK
   rw[F2,L5]
   by_cases c:a=f
   ·subst c;simp
   ·have c2:(f==a)=false:=by
     rw[beq_eq_false_iff_ne];exact λz=>c z.symm
    rw[c2,if_neg c,ih]
    cases posK nm f<;>rfl
theorem Ow.kids{K:aA}{H:Hp}{d:D}{A:Fp}{v:V}{s:Step}{j:Nat}(h:Ow K H d A v)(q:wV s d=some j):∃xs T Bt,(∀x,xs[j]?=some x→stepV H s v=some x)∧bH K H (kids d) Bt xs∧Is A (cI T Bt)∧Apart T Bt ∧
  ∀H' ds' B',ds'.length=(kids d).length→bH K H' ds' B' xs→(∀a,T a→H' a=H a)→Apart T B'→Ow K H' (rK d ds') (cI T B') v:=by
 cases d with
 | lst ds=>
  unfold Ow at h
  obtain⟨a,xs,B,rfl,h2,h3,h4,h5⟩:=h
  cases s with
  | ix k=>
   unfold wV at q
   cases q
   refine⟨xs,(·=a),B,λx hx=>?_,h5,h4,λx qx qb=>h3 (qx▸qb),λH' ds' B' hl o f ap=>?_⟩
   ·unfold stepV;dsimp only;rw[h2];exact hx
   ·show Ow K H' (.lst ds') _ _
    unfold Ow
    exact⟨a,xs,B',rfl,(f a rfl).trans h2,ap a rfl,λ_=>Iff.rfl,o⟩
  | _=>unfold wV at q;cases q
 | dk ks ds=>
  unfold Ow at h
  obtain⟨a,xs,B,rfl,h2,h2',h3,h4,h5⟩:=h
  cases s with
  | key k=>
   have q:posK ks k=some j:=q
   refine⟨xs,(·=a),B,λx hx=>?_,h5,h4,λx qx qb=>h3 (qx▸qb),λH' ds' B' hl o f ap=>?_⟩
   ·unfold stepV;dsimp only;rw[h2];show gP (ks.zip xs) k=_;rw[fH h2',q];exact hx
   ·show Ow K H' (.dk ks ds') _ _
    unfold Ow
    exact⟨a,xs,B',rfl,(f a rfl).trans h2,h2',ap a rfl,λ_=>Iff.rfl,o⟩
  | _=>unfold wV at q;cases q
 | ins C nm ds=>
  unfold Ow at h
  obtain⟨a,dx,xs,B,rfl,h2,h2',h3,h3',h3'',h4,h5⟩:=h
  cases s with
  | fld C0 k=>
   have q:(if C=C0 then posK nm k else none)=some j:=q
   by_cases hc:C=C0
   rotate_left
   ·rw[if_neg hc]at q;cases q
   rw[if_pos hc]at q
   refine⟨xs,(λx=>x=a∨x=dx),B,λx hx=>?_,h5,h4,λx qx qb=>qx.elim (λz=>h3' (z▸qb)) λz=>h3'' (z▸qb),λH' ds' B' hl o f ap=>?_⟩
   ·unfold stepV;dsimp only;rw[h2];show (if C=C0 then(nm.zip xs).lookup k else none)=_;rw[if_pos hc,Bj h3,q];exact hx
   ·show Ow K H' (.ins C nm ds') _ _
    unfold Ow
    exact⟨a,dx,xs,B',rfl,(f a (.inl rfl)).trans h2,(f dx (.inr rfl)).trans h2',h3,ap a (.inl rfl),ap dx (.inr rfl),λ_=>Iff.rfl,o⟩
  | _=>unfold wV at q;cases q
 | _=>cases s<;>(unfold wV at q;cases q)
theorem Ow.at{K:aA}{H:Hp}:∀{p:List Step} {d d1:D} {A:Fp} {v:V},Ow K H d A v→lX p d=some d1→∃w A1 C,Ih H p v=some w∧Apart A1 C∧Is A (cI A1 C)∧Ow K H d1 A1 w ∧
    ∀H' d' A',Apart A' C→(∀a,C a→H' a=H a)→mQ K H H'→Ow K H' d' A' w→Ow K H' (lY p d d') (cI A' C) v
  | [],d,d1,A,v,h,q=>by
    unfold lX at q
    cases q
    exact⟨v,A,nil,rfl,λ_ _ z=>z,λx=>⟨.inl,λz=>z.elim id False.elim⟩,h,λH' d' A' _ _ _ o=>o.congr λx=>⟨.inl,λz=>z.elim id False.elim⟩⟩
  | s::p,d,d1,A,v,h,q=>by
    unfold lX at q
    obtain⟨j,q1,q2⟩:=aR q
    obtain⟨c,q3,q4⟩:=aR q2
    obtain⟨xs,T,Bt,k1,k2,k3,k4,k5⟩:=h.kids q1
    obtain⟨y,B1,C1,f1,f2,f3,f4,f5⟩:=(cA.mp k2).focus q3
    obtain⟨w,A1,C2,g1,g2,g3,g4,g5⟩:=Ow.at f4 q4
    refine⟨w,A1,cI T (cI C1 C2),?_,?_,?_,g4,λH' d' A' ap fr tk o=>?_⟩
    · unfold Ih
      rw[k1 y f1]
      exact g1
    · intro x qx qc
      have b1:B1 x:=(g3 x).mpr (.inl qx)
      rcases qc with qc | qc | qc
      · exact k4 x qc ((f3 x).mpr (.inl b1))
      · exact f2 x b1 qc
      · exact g2 x qx qc
    · intro x
      rw[k3 x]
      constructor
      · rintro(z | z)
        · exact .inr (.inl z)
        · rcases(f3 x).mp z with z | z
          · rcases(g3 x).mp z with z | z
            · exact .inl z
            · exact .inr (.inr (.inr z))
          · exact .inr (.inr (.inl z))
      · rintro(z | z | z | z)
        · exact .inr ((f3 x).mpr (.inl ((g3 x).mpr (.inl z))))
        · exact .inl z
        · exact .inr ((f3 x).mpr (.inr z))
        · exact .inr ((f3 x).mpr (.inl ((g3 x).mpr (.inr z))))
    · have o1:Ow K H' (lY p c d') (cI A' C2) y:=g5 H' d' A' (λx a b=>ap x a (.inr (.inr b))) (λa z=>fr a (.inr (.inr z))) tk o
      have RJ:Apart (cI A' C2) C1:=λx a b=>a.elim (λz=>ap x z (.inr (.inl b))) λz=>f2 x ((g3 x).mpr (.inr z)) b
      have o2:=f5 (Ow K H') (λe B z hb qq=>Ow.frame tk e B z qq λa za=>fr a (.inr (.inl (hb a za)))) (lY p c d') y (cI A' C2) RJ o1
      rw[set_same f1]at o2
      have o3:=k5 H' ((L2.kids d).set j (lY p c d')) _ (by rw[T3]) (cA.mpr o2) (λa z=>fr a (.inl z)) (λx a b=>by
        rcases b with (b | b) | b
        · exact ap x b (.inl a)
        · exact k4 x a ((f3 x).mpr (.inl ((g3 x).mpr (.inr b))))
        · exact k4 x a ((f3 x).mpr (.inr b)))
      have e:lY (s::p) d d'=rK d ((L2.kids d).set j (lY p c d')):=by
        show (match wV s d with | some j=>_ | none=>_)=_
        rw[q1]
        show (match (L2.kids d)[j]? with | some c=>_ | none=>_)=_
        rw[q3]
      rw[e]
      refine o3.congr λx=>?_
      show (T x∨(A' x∨C2 x)∨C1 x)↔(A' x∨T x∨C1 x∨C2 x)
      constructor
      · rintro(z | (z | z) | z)
        · exact .inr (.inl z)
        · exact .inl z
        · exact .inr (.inr (.inr z))
        · exact .inr (.inr (.inl z))
      · rintro(z | z | z | z)
        · exact .inr (.inl (.inl z))
        · exact .inl z
        · exact .inr (.inr z)
        · exact .inr (.inl (.inr z))
section
variable{K:aA}{B H:Hp}{env:EN}{σ:St}
theorem Rel.at{i:Nat}{p:List Step}{d0 d:D}(h:Rel K B env σ H)(e:env[i]?=some (.own d0))(q:lX p d0=some d):∃v0 w A1 C,σ[i]?=some (some v0)∧Ih H p v0=some w∧Ow K H d A1 w∧Apart A1 C∧(∀a,C a→iC H a) ∧
    ∀H' d' A',Apart A' C→(∀a,C a→H' a=H a)→mQ K H H'→Ow K H' d' A' w→aD (out H (cI A1 C)) (out H' (cI A' C))→Rel K B (env.set i (.own (lY p d0 d'))) σ H':=by
  obtain⟨A,a,b⟩:=h
  have cl:=cN a
  obtain⟨y,A1,C,h1,h2,h3,h4,k⟩:=a.focus e
  obtain⟨v0,rfl,o⟩:=h4
  obtain⟨w,B1,C1,g1,g2,g3,g4,g5⟩:=o.at q
  refine⟨v0,w,B1,cI C1 C,h1,g1,g4,λx z1 z2=>?_,λx z=>?_,λH' d' A' ap fr tk o' sm=>?_⟩
  · exact z2.elim (g2 x z1) (h2 x ((g3 x).mpr (.inl z1)))
  · exact cl x ((h3 x).mpr (z.elim (λz=>.inl ((g3 x).mpr (.inr z))) .inr))
  · have o2:=g5 H' d' A' (λx z1 z2=>ap x z1 (.inl z2)) (λx z=>fr x (.inl z)) tk o'
    have RK:Apart (cI A' C1) C:=λx z1 z2=>z1.elim (λz=>ap x z (.inr z2)) λz=>h2 x ((g3 x).mpr (.inr z)) z2
    have hA:Is A (cI B1 (cI C1 C)):=λx=>by
      rw[h3 x]
      constructor
      · rintro(z | z)
        · exact((g3 x).mp z).elim .inl λz=>.inr (.inl z)
        · exact .inr (.inr z)
      · rintro(z | z | z)
        · exact .inl ((g3 x).mpr (.inl z))
        · exact .inl ((g3 x).mpr (.inr z))
        · exact .inr z
    have g:aD (out H A) (out H' (cI (cI A' C1) C)):=λx u ex=>by
      obtain⟨e1,e2⟩:=aV.mp ex
      have:=sm x u (aV.mpr ⟨λz=>e1 ((hA x).mpr z),e2⟩)
      obtain⟨e3,e4⟩:=aV.mp this
      exact aV.mpr ⟨λz=>e3 (z.elim (λz=>z.elim .inl λz=>.inr (.inl z)) λz=>.inr (.inr z)),e4⟩
    have s:=k (cY K H' (out H' (cI (cI A' C1) C))) (λs D z hb qq=>by
      cases s with
      | no=>exact qq
      | fro d=>obtain⟨q1,v,q2,q3⟩:=qq;exact⟨q1,v,q2,g.rv _ _ q3⟩
      | inn v d=>exact⟨qq.1,Ow.frame tk _ _ _ qq.2 λx zx=>fr x (.inr (hb x zx))⟩
      | own d=>obtain⟨v,q1,q2⟩:=qq;exact⟨v,q1,Ow.frame tk _ _ _ q2 λx zx=>fr x (.inr (hb x zx))⟩) (.own (lY p d0 d')) (some v0) (cI A' C1) RK ⟨v0,rfl,o2⟩
    rw[set_same h1]at s
    exact⟨_,s,b.trans g⟩
theorem Rel.JR{i:Nat}{p:List Step}{d0:D}{ds:List D}(h:Rel K B env σ H)(e:env[i]?=some (.own d0))(q:lX p d0=some (.lst ds)):∃v0 a xs Bs,σ[i]?=some (some v0)∧Ih H p v0=some (.ref a)∧H a=some (.lst xs)∧¬Bs a∧bH K H ds Bs xs ∧
    ∀H2 ds' xs' Bn,aD H H2→bH K H2 ds' Bn xs'→(∀b,Bn b→Bs b∨H b=none)→Rel K B (env.set i (.own (lY p d0 (.lst ds')))) σ (upd H2 a (.lst xs')):=by
  obtain⟨v0,w,A1,C,h1,h2,h3,h4,h5,h6⟩:=h.at e q
  unfold Ow at h3
  obtain⟨a,xs,Bs,rfl,o2,o3,o4,o5⟩:=h3
  refine⟨v0,a,xs,Bs,h1,h2,o2,o3,o5,λH2 ds' xs' Bn s o hb=>?_⟩
  have BK:¬Bn a:=λz=>(hb a z).elim o3 λz=>by rw[o2]at z;cases z
  have hC:∀x,C x→¬x=a:=λx z y=>h4 x ((o4 x).mpr (.inl y)) z
  have Ks:H2 a=some (.lst xs):=s a _ o2
  refine h6 _ (.lst ds') (cI (·=a) Bn) (λx z1 z2=>?_) (λx z=>?_) (s.tk.trans (kY (fG Ks))) ?_ (λx u ex=>?_)
  · rcases z1 with z1 | z1
    · exact hC x z2 z1
    · rcases hb x z1 with z | z
      · exact h4 x ((o4 x).mpr (.inr z)) z2
      · obtain⟨⟨u,eu⟩,_⟩:=h5 x z2
        rw[z]at eu;cases eu
  · obtain⟨⟨u,eu⟩,_⟩:=h5 x z
    rw[aJ (hC x z),eu,s x u eu]
  · unfold Ow
    refine⟨a,xs',Bn,rfl,aQ,BK,λ_=>Iff.rfl,bH.frame (kY (fG Ks)) _ _ _ o λx zx=>aJ λy=>BK (y▸zx)⟩
  · obtain⟨e1,e2⟩:=aV.mp ex
    have na:x≠a:=λy=>e1 (.inl ((o4 x).mpr (.inl y)))
    refine aV.mpr ⟨λz=>?_,by rw[aJ na];exact s x u e2⟩
    rcases z with (z | z) | z
    · exact na z
    · rcases hb x z with z | z
      · exact e1 (.inl ((o4 x).mpr (.inr z)))
      · rw[z]at e2;cases e2
    · exact e1 (.inr z)
theorem Rel.BL{i:Nat}{p:List Step}{d0:D}{ks:List Key}{ds:List D}(h:Rel K B env σ H)(e:env[i]?=some (.own d0))(q:lX p d0=some (.dk ks ds)):∃v0 a xs Bs,σ[i]?=some (some v0)∧Ih H p v0=some (.ref a)∧H a=some (.dK (ks.zip xs))∧ks.length=xs.length∧¬Bs a∧bH K H ds Bs xs ∧
    ∀H2 ks' ds' xs' Bn,aD H H2→ks'.length=xs'.length→bH K H2 ds' Bn xs'→(∀b,Bn b→Bs b∨H b=none)→Rel K B (env.set i (.own (lY p d0 (.dk ks' ds')))) σ (upd H2 a (.dK (ks'.zip xs'))):=by
  obtain⟨v0,w,A1,C,h1,h2,h3,h4,h5,h6⟩:=h.at e q
  unfold Ow at h3
  obtain⟨a,xs,Bs,rfl,o2,o2',o3,o4,o5⟩:=h3
  refine⟨v0,a,xs,Bs,h1,h2,o2,o2',o3,o5,λH2 ks' ds' xs' Bn s hl o hb=>?_⟩
  have BK:¬Bn a:=λz=>(hb a z).elim o3 λz=>by rw[o2]at z;cases z
  have hC:∀x,C x→¬x=a:=λx z y=>h4 x ((o4 x).mpr (.inl y)) z
  have Ks:H2 a=some (.dK (ks.zip xs)):=s a _ o2
  refine h6 _ (.dk ks' ds') (cI (·=a) Bn) (λx z1 z2=>?_) (λx z=>?_) (s.tk.trans (kY (lO Ks))) ?_ (λx u ex=>?_)
  · rcases z1 with z1 | z1
    · exact hC x z2 z1
    · rcases hb x z1 with z | z
      · exact h4 x ((o4 x).mpr (.inr z)) z2
      · obtain⟨⟨u,eu⟩,_⟩:=h5 x z2
        rw[z]at eu;cases eu
  · obtain⟨⟨u,eu⟩,_⟩:=h5 x z
    rw[aJ (hC x z),eu,s x u eu]
  · unfold Ow
    refine⟨a,xs',Bn,rfl,aQ,hl,BK,λ_=>Iff.rfl,bH.frame (kY (lO Ks)) _ _ _ o λx zx=>aJ λy=>BK (y▸zx)⟩
  · obtain⟨e1,e2⟩:=aV.mp ex
    have na:x≠a:=λy=>e1 (.inl ((o4 x).mpr (.inl y)))
    refine aV.mpr ⟨λz=>?_,by rw[aJ na];exact s x u e2⟩
    rcases z with (z | z) | z
    · exact na z
    · rcases hb x z with z | z
      · exact e1 (.inl ((o4 x).mpr (.inr z)))
      · rw[z]at e2;cases e2
    · exact e1 (.inr z)
end
end L2


namespace L2
open PySem PySem.Spec PyProof.Rows
abbrev FP:=DE→Option (List Step)
def FQ(K:aA)(t:TE)(i:Nat)(π:FP):Prop:=∀(σ:St)(H:Hp)(e:DE)(v0:V)(p:List Step)(v:V)(Q:VK),iG K H e σ→σ[i]?=some (some v0)→π e=some p→Ih H p v0=some v→(∀H',aD H H'→Q v H')→t σ H Q
structure XP(K:aA)(X:Cx)(e:Expr)(t:TE)(i:Nat)(π:FP):Prop where
 hk:X.K=K
 pe:PE X e t
 ev:FQ K t i π
def iQ:FP:=λ_=>some []
section
variable{K:aA}{X:Cx}{e a b c:Expr}{es:List Expr}{t ta tb te:TE}{f g:FE}{tA:TA}{fs:FA}{pos:Pos}{i j:Nat}{π:FP}{st:Stmt}
theorem Bk(h:PE X e (tV i))(hk:X.K=K:=by rfl):XP K X e (tV i) i iQ:=⟨hk,h,λσ H e v0 p v Q re h1 h2 h3 k=>by
 cases h2
 unfold Ih at h3
 cases h3
 exact⟨v0,h1,k H (aD.refl _)⟩⟩
def yR(i:Nat)(π:FP)(f:FE):GS:=λenv=>match env[i]?,π (rE env),f (rE env)with
 | some (.own d0),some p,some d=>(match lX p d0 with
  | some (.lst ds)=>if ds.length<100000 then .next (env.set i (.own (lY p d0 (.lst (ds++[d])))))else .bad
  | _=>.bad)
 | _,_,_=>.bad
theorem Wm{H H1:Hp}{A:Fp}{ds:List D}{xs:List V}{N:Fp}(o:bH K H ds A xs)(fr:∀a,N a→H a=none):Apart A N:=λx q1 q2=>by
 obtain⟨⟨u,eu⟩,_⟩:=bH.cells _ _ _ o x q1
 rw[fr x q2]at eu;cases eu
theorem Wn(h:FQ K ta i π)(he:uA K te f):BJ K (nU (EY K "list" pH ta (eX te oR))) (yR i π f):=λB E σ H env r p=>by
 unfold yR at p
 split at p
 ·rename_i d0 pp d q1 q2 q3
  split at p
  ·rename_i ds q4
   split at p
   ·rename_i hl
    obtain⟨v0,a,xs,Bs,k1,k2,k3,k4,k5,k6⟩:=r.JR q1 q4
    refine h σ H (rE env) v0 pp _ _ r.r k1 q2 k2 λH1 s1=>⟨.inl ⟨rfl,xs,gW.of (s1 _ _ k3)⟩,?_⟩
    refine he σ H1 (rE env) d _ (r.r.same s1) q3 λy H2 s2 n=>?_
    obtain⟨N,o,fr⟩:=n.back s1
    have s12:=s1.trans s2
    refine⟨a,xs,y,rfl,rfl,s12 _ _ k3,Du (by rw[(bH.rv _ _ _ k5).length];omega),p _ ?_⟩
    exact k6 H2 (ds++[d]) (xs++[y]) (cI Bs N) s12 (cA.mpr ((cA.mp (k5.same s12)).snoc o (Wm (H1:=H) k5 fr))) λb z=>z.imp id (fr b)
   ·exact p.elim
  ·exact p.elim
 ·exact p.elim
theorem Ku{m:Str}{apos cpos:Pos}(h:XP K X a ta i π)(he:XN K X e te f)(hp:PE X a ta→PE X e te→PS X (.Expr (.Call (.Attribute a m apos) [e] [] cpos) pos) (nU (EY K "list" pH ta (eX te oR)))):YS K X (.Expr (.Call (.Attribute a m apos) [e] [] cpos) pos) (nU (EY K "list" pH ta (eX te oR))) (yR i π f):=⟨hp h.pe he.pe,(Wn h.ev he.ev).ds⟩
def iR(i:Nat)(π:FP)(g f:FE):GS:=λenv=>match env[i]?,π (rE env),g (rE env),f (rE env)with
 | some (.own d0),some p,some k,some d=>(match lX p d0,Gw k with
  | some (.dk ks ds),some k=>if d.cX=true∧ks.length<100000 then .next (env.set i (.own (lY p d0 (.dk (qX ks k) (putD ks ds k d)))))else .bad
  | _,_=>.bad)
 | _,_,_,_=>.bad
theorem yS{H:Hp}{d:D}{v:V}(o:Ow K H d nil v)(k:Key):∀{ks:List Key} {ds:List D} {A:Fp} {xs:List V},ks.length=xs.length→bH K H ds A xs→∃A',(∀x,A' x→A x)∧bH K H (M4 (λk' d'=>if k'=k then d else d') ks ds) A' (M4 (λk' d'=>if k'=k then v else d') ks xs)
 | [],ds,A,xs,hl,h=>by
  cases xs with
  | nil=>exact⟨nil,λ_ z=>z.elim,by rw[Q0,Q0];unfold bH;exact⟨λ_ z=>z,rfl⟩⟩
  | cons x xs=>simp at hl
 | k0::ks,[],A,xs,hl,h=>by unfold bH at h;rw[h.2]at hl;simp at hl
 | k0::ks,d0::ds,A,xs,hl,h=>by
  unfold bH at h
  obtain⟨y,yt,A1,A2,rfl,h2,h3,h4,h5⟩:=h
  obtain⟨A',a1,a2⟩:=yS o k (by simpa using hl) h5
  by_cases c:k0=k
  ·refine⟨A',λx q=>(h3 x).mpr (.inr (a1 x q)),?_⟩
   rw[G3,G3,if_pos c,if_pos c]
   unfold bH
   exact⟨v,_,nil,A',rfl,λ_ z=>z.elim,λx=>⟨.inr,λz=>z.elim False.elim id⟩,o,a2⟩
  ·refine⟨cI A1 A',λx q=>(h3 x).mpr (q.imp id (a1 x)),?_⟩
   rw[G3,G3,if_neg c,if_neg c]
   unfold bH
   exact⟨y,_,A1,A',rfl,λx z1 z2=>h2 x z1 (a1 x z2),λ_=>Iff.rfl,h4,a2⟩
theorem Qm(h:FQ K ta i π)(hx:wL K tb g)(he:wL K te f):BJ K (Dk ta tb te) (iR i π g f):=λB E σ H env r p=>by
 unfold iR at p
 split at p
 ·rename_i d0 pp kd d q1 q2 q3 RL
  split at p
  ·rename_i ks ds k q4 q5
   split at p
   ·rename_i hc
    obtain⟨v0,a,xs,Bs,k1,k2,k3,Sy,k4,k5,k6⟩:=r.BL q1 q4
    refine he σ H H (rE env) d _ (Zn.self K H) r.r RL λy H1 Z1 s1 t1 z1 ry=>?_
    refine h σ H1 (rE env) v0 pp _ _ (r.r.same s1) k1 q2 (yQ s1 k2) λH2 s2=>hx σ H2 H2 (rE env) _ _ (Zn.self K H2) (r.r.same (s1.trans s2)) q3 λy' H3 Z3 s3 t3 z3 JS=>?_
    have Wi:=s1.trans (s2.trans s3)
    have o:Ow K H3 d nil y:=qN d y hc.1 ((z1.sm.trans (s2.trans s3)).rv _ _ ry)
    have ek:=pL q5 (z3.sm.rv _ _ JS)
    refine⟨a,_,rfl,.inl ⟨ks.zip xs,k,Wi _ _ k3,ek,Du (by rw[List.length_zip];omega),rfl⟩,p _ ?_⟩
    rw[Kd Sy]
    have PB:=k5.same Wi
    have hl3:=(bH.rv _ _ _ k5).length
    by_cases c:(posK ks k).isSome=true
    ·obtain⟨A',a1,a2⟩:=yS o k Sy PB
     refine k6 H3 (qX ks k) (putD ks ds k d) (putD ks xs k y) A' Wi (yK Sy) ?_ λb z=>.inl (a1 b z)
     unfold putD
     rw[if_pos c,if_pos c]
     exact a2
    ·refine k6 H3 (qX ks k) (putD ks ds k d) (putD ks xs k y) (cI Bs nil) Wi (yK Sy) ?_ λb z=>z.elim .inl False.elim
     unfold putD
     rw[if_neg c,if_neg c]
     exact cA.mpr ((cA.mp PB).snoc o λ_ _ z=>z)
   ·exact p.elim
  ·exact p.elim
 ·exact p.elim
theorem pN{pos':Pos}(h:XP K X a ta i π)(hx:XR K X b tb g)(he:XR K X e te f)(hp:PE X a ta→PE X b tb→PE X e te→PS X (.Assign [.Subscript a b pos'] e pos) (Dk ta tb te)):YS K X (.Assign [.Subscript a b pos'] e pos) (Dk ta tb te) (iR i π g f):=⟨hp h.pe hx.pe he.pe,(Qm h.ev hx.ev he.ev).ds⟩
end
end L2


namespace L2
open PySem PySem.Spec PyProof.Rows
def RM(K:aA)(B:Hp)(R:Fp)(env:EN)(σ:St)(H:Hp):Prop:=∃A,cQ (cY K H (out H (cI A R))) env A σ∧Apart A R∧aD B (out H (cI A R))
section
variable{K:aA}{B H H':Hp}{env:EN}{σ:St}{R R' A1:Fp}
end
section
variable{K:aA}{X:Cx}{e a b c:Expr}{es:List Expr}{t ta tb te:TE}{f g:FE}{tA:TA}{fs:FA}{pos:Pos}{i j:Nat}{π:FP}{st:Stmt}
inductive Wo(K:aA)(H:Hp):V→Value→Prop where
 | bl (x:Bool):Wo K H (.bl x) (.type "bool")
 | int (i:Int):Wo K H (.int i) (.type "int")
 | lst {a:Addr} {xs:List V} (e:gW K H a xs):Wo K H (.ref a) (.type "list")
 | tup {a:Addr} {xs:List V} (e:jP K H a xs):Wo K H (.ref a) (.type "tuple")
theorem wW:dY X (.builtin "isinstance") (λxs H Q=>∃x T t b,xs=[x,.ty T]∧Wo X.K H x t∧E1 X.K t (.type T)=some b∧Q (.bl b) H):=by
 intro pins s σ H xs us Q I r h
 obtain⟨x,T,t,b,rfl,ty,hk,q⟩:=h
 obtain⟨u,w',rfl,rx,rt⟩:=vals2 r
 cases rt
 cases ty with
 | bl y=>exact uH I rx (.bl y) hk λtk=>⟨.bl b,H,I.tok _,rfl,q⟩
 | int i=>exact uH I rx (.int i) hk λtk=>⟨.bl b,H,I.tok _,rfl,q⟩
 | @lst a xs e=>
  cases(show u=Value.ref a from rx)
  obtain⟨its,_,pl,_⟩:=I.list e
  obtain⟨o,n,h1,h2,_⟩:=pl
  exact E5 N5 I.vN ⟨o,h1,h2⟩ hk (λz=>nomatch z) λtk=>⟨.bl b,H,I.tok _,rfl,q⟩
 | @tup a xs e=>
  cases(show u=Value.ref a from rx)
  obtain⟨its,_,pl,_⟩:=I.tuple e
  obtain⟨o,h1,h2,_⟩:=pl
  exact E5 R4 I.vN ⟨o,h1,h2⟩ hk (λz=>nomatch z) λtk=>⟨.bl b,H,I.tok _,rfl,q⟩
def yU(T:String)(d:D):Option D:=match d with
 | .int _=>if T = "int" then some (.bl true)else if T = "bool" then some (.bl false)else none
 | .bl _=>if T = "bool" then some (.bl true)else none
 | .lst _=>if T = "list" then some (.bl true)else none
 | .tup _=>if T = "tuple" then some (.bl true)else none
 | _=>none
def yV(T:String)(f:FE):FE:=λe=>(f e).bind (yU T)
def BP(K:aA):List V→Hp→VK→Prop:=λxs H Q=>∃x T t b,xs=[x,.ty T]∧Wo K H x t∧E1 K t (.type T)=some b∧Q (.bl b) H
theorem Wq{H:Hp}{T:String}{d r:D}{v:V}(h:yU T d=some r)(rv:Rv K H d v):∃t b,Wo K H v t∧E1 K t (.type T)=some b∧r=.bl b:=by
 cases d with
 | int i=>
  unfold yU at h
  dsimp only at h
  unfold Rv at rv
  subst rv
  split at h
  ·rename_i c;cases h;subst c;exact⟨_,_,.int i,yI,rfl⟩
  ·split at h
   ·rename_i c;cases h;subst c;exact⟨_,_,.int i,wH,rfl⟩
   ·cases h
 | bl b=>
  unfold yU at h
  dsimp only at h
  unfold Rv at rv
  subst rv
  split at h
  ·rename_i c;cases h;subst c;exact⟨_,_,.bl b,tX,rfl⟩
  ·cases h
 | lst ds=>
  unfold yU at h
  dsimp only at h
  unfold Rv at rv
  obtain⟨a,xs,rfl,r2,_⟩:=rv
  split at h
  ·rename_i c;cases h;subst c;exact⟨_,_,.lst r2,tY,rfl⟩
  ·cases h
 | tup ds=>
  unfold yU at h
  dsimp only at h
  unfold Rv at rv
  obtain⟨a,xs,rfl,r2,_⟩:=rv
  split at h
  ·rename_i c;cases h;subst c;exact⟨_,_,.tup r2,oX,rfl⟩
  ·cases h
 | _=>unfold yU at h;cases h
theorem Wr(hk:X.K=K):dY X (.builtin "isinstance") (BP K):=by subst hk;exact wW
theorem wX{T:String}{p:Pos}{eT:Expr}(h:XR K X e t f)(hT:PE X eT (tC (.ty T)))(hg:Gl X "isinstance") (hm:X.mg "isinstance" = none) (hst:starEach (e::[eT]) X.env=(false,eval e X.env)::starEach [eT] X.env:=by rfl) (hst2:starEach [eT] X.env=(false,eval eT X.env)::starEach [] X.env:=by rfl)
  (hpl:(backTo pos (starEach [eT] X.env)).any (·.1)=false:=by rfl):XN K X (.Call (.Name "isinstance" p) [e,eT] [] pos) (Ol (BP K) (eX t (eX (tC (.ty T)) oR))) (yV T f):=
 ⟨h.hk,pY (Wr h.hk) hg hm PyProof.Rows.boot_isinstance (gA h.pe (gA hT mJ hst2) hst) (by decide) (by decide) hst hpl,λσ H e d Q re q k=>by
  unfold yV at q
  obtain⟨d0,q1,q2⟩:=aR q
  refine h.ev σ H H e d0 _ (Zn.self K H) re q1 λv H1 Z1 s1 t1 z1 rv=>?_
  obtain⟨ty,b,b1,b2,rfl⟩:=Wq q2 (z1.sm.rv _ _ rv)
  exact⟨v,T,ty,b,rfl,b1,b2,k _ H1 s1 (.cX rfl (by unfold Rv;rfl))⟩⟩
structure PJ(mg:Str→Option Value)(x:Str)(i:Int):Prop where
 ex:∃t,mg x=some (.int i t)
structure PK(K:aA)(mg:Str→Option Value)(x:Str)(ns:List Int):Prop where
 ex:∃a,mg x=some (.ref a)∧∀H:Hp,jP K H a (ns.map V.int)
def dTup(ns:List Int):D:=.tup (ns.map D.int)
end
def fO(n m:Nat)(g:GS):List D→Option D:=λds=>if ds.length=m then(match g (ds.map SD.fro++E2 (n-m) SD.no)with
  | .ret d=>some d
  | .next _=>some .non
  | _=>none)else none
theorem yW{K:aA}{H Z:Hp}{k:Nat}:∀{ds:List D} {vs:List V},bC K Z ds vs→cQ (cY K H Z) (ds.map SD.fro++E2 k SD.no) nil (vs.map some++E2 k none)
 | [],vs,h=>by
  unfold bC at h
  subst h
  simp only[D4,T4]
  induction k with
  | zero=>exact⟨λ_ z=>z,rfl⟩
  | succ k ih=>
   rw[Q9,Q9]
   exact⟨none,_,nil,nil,rfl,λ_ z=>z.elim,λx=>⟨.inl,λz=>z.elim id id⟩,λ_ z=>z,ih⟩
 | d::ds,vs,h=>by
  unfold bC at h
  obtain⟨y,ys,rfl,h1,h2⟩:=h
  rw[B3,B3,K0,K0]
  exact⟨some y,_,nil,nil,rfl,λ_ z=>z.elim,λx=>⟨.inl,λz=>z.elim id id⟩,⟨λ_ z=>z,y,rfl,h1⟩,yW h2⟩
theorem uW{K:aA}{H:Hp}{k:Nat}{ds:List D}{vs:List V}(h:bC K H ds vs):Rel K H (ds.map SD.fro++E2 k SD.no) (vs.map some++E2 k none) H:=by
 have g:aD H (out H nil):=λx u e=>aV.mpr ⟨λz=>z,e⟩
 exact⟨nil,yW (g.Ig _ _ h),g⟩
theorem Raw.uC{P:Program}{w:World}{K:aA}{mg:Str→Option Value}{base:Heap}{x:Str}{st:Stmt}{N ps:List Str}{k:Nat}{g:GS}(R:Raw K mg x st)(S:bJ N ps (aH st))
  (hb:∀(kV doc pm:Value)(an:Option Addr)(cdv ct:Value)(us:List Value),us.length=ps.length→bindArgs (E9 x x (cB st) (bK st) (aH st) .none kV doc pm an cdv ct) ⟨us,[]⟩=pure (ps.zip us))
  (hbody:∀(f:Addr)(cdv:Value)(A:Around)(outer:List Env)(s:Shared)(H:Hp)(E:XK),dH k (A.deeper (envOfC x (aH st) s.heap.objs.size f cdv)) →
   ∃t,YB K (vV Ie P w K mg base N x (aH st) f cdv A outer s H E).Uo (bK st) t g):mO P w K mg base x (k+1) ps.length (oE K ps.length (fO N.length ps.length g)):=by
 refine R.cal S (λvs H Q E h=>?_) hb (λf cdv A outer s H vs Q E hr h=>?_)
 ·obtain⟨ds,d,h1,h2,_⟩:=h
  rw[h2.length];exact h1
 obtain⟨ds,d,h1,h2,h3,kk⟩:=h
 obtain⟨t,yb⟩:=hbody f cdv A outer s H E hr
 refine⟨t,yb.ps,yb.ev H _ _ H (ds.map SD.fro++E2 (N.length-ps.length) SD.no) ?_ ?_⟩
 ·have hl:vs.length=ps.length:=by rw[h2.length];exact h1
  have:=uW (k:=N.length-ps.length) h2
  unfold start
  rw[hl]
  exact this
 ·unfold fO at h3
  rw[if_pos h1]at h3
  cases q:g (ds.map SD.fro++E2 (N.length-ps.length) SD.no)with
  | ret d'=>
   rw[q]at h3
   cases h3
   refine λv H' A' s' o=>kk v H' (s'.trans (iD _ _)) ⟨A',o,λa qa=>?_⟩
   cases e:H a with
   | none=>rfl
   | some u=>exact absurd qa (aV.mp (s' a u e)).1
  | next env'=>
   rw[q]at h3
   cases h3
   refine λσ' H' ⟨A',_,s'⟩=>kk .non H' (s'.trans (iD _ _)) (.cX rfl (by unfold Rv;rfl))
  | brk env'=>rw[q]at h3;cases h3
  | cont env'=>rw[q]at h3;cases h3
  | bad=>rw[q]at h3;cases h3
  | rete d e=>rw[q]at h3;cases h3
end L2


namespace L2
open PySem PySem.Spec PyProof.Rows
section
variable{K:aA}{X:Cx}{e a b c:Expr}{es:List Expr}{t ta tb te:TE}{f g:FE}{tA:TA}{fs:FA}{pos:Pos}{i j:Nat}{π:FP}{st:Stmt}{gb:GS}{tc:TT}{fc:FT}
def RN(f:FE):FE:=λe=>(f e).bind λd=>match d with | .int i=>some (.int (-i)) | _=>none
theorem Qn{tg elt iter:Expr}{ifs:List Expr}{scope:Scope}{spos py:Pos}{y:Str}{wi:TI}{fi:FA}{fe:FE}(N:List Str)(fr:List Nat)(hcalm:X.calm=true)(B:bW X.env.scope scope X.N N 1 fr)(hN:X.N.Nodup)(hy:X.N[i]?=some y)(hx:Loc X.env.scope y)(hi:XI K X tg iter wi fi)
  (hg:∀cl fp s H C,PG (bO X scope N cl fp s H C) tg (bZ 0)) (hc:∀cl fp s H C,JN K (bO X scope N cl fp s H C) ifs tc fc) (he:∀cl fp s H C,XN K (bO X scope N cl fp s H C) elt te fe)
  (hsw:swapsWith (.ListComp elt [⟨tg,iter,ifs,0⟩] scope pos) (some (.Name y py)) spos.line X.env=pure true:=by rfl)
  (hs:∀x,foldedSetIterable iter X.env x=pure x:=by intro _;rfl) (hf:X.fn y=true∨X.env.scope.names.lookup y=some .local:=by first | exact .inl rfl | exact .inr rfl | assumption) :
  YS K X (.Assign [.Name y py] (.ListComp elt [⟨tg,iter,ifs,0⟩] scope pos) spos) (xX (lJ wi 1 fr (bZ 0) tc te) (bZ i)) (dB i (fK fi fr fc fe)):=
 ⟨Pn N 1 fr hcalm B hN hy hx hi.pi hg (λcl fp s H C=>(hc cl fp s H C).OJ) (λcl fp s H C=>(he cl fp s H C).pe) hsw hs hf,Bg (Eg hi.ev (hc [] [] X.s₀ X.H₀ 0).ev (he [] [] X.s₀ X.H₀ 0).ev)⟩
def RP(K:aA)(wi:TI)(fi:FA):Prop:=∀(σ:St)(H:Hp)(e:DE)(ds:List D)(R:It→Hp→Prop),iG K H e σ→fi e=some ds →
 (∀J H' P vs,aD H H'→Vq J P vs→(∀H2,P H2)→(∀Z,bC K Z ds vs)→R J H')→wi σ H R
structure XJ(K:aA)(X:Cx)(tg iter:Expr)(wi:TI)(fi:FA):Prop where
 pi:PI X tg iter wi
 ev:RP K wi fi
end
theorem Bl{K:aA}{st:Stmt}{f:Addr}{fd:FuncData}(F:Nm K "law" "law" st f fd) (hb:∀(kV doc pm:Value)(an:Option Addr)(cdv ct:Value)(u:Value),bindArgs (E9 "law" "law" (cB st) (bK st) (aH st) .none kV doc pm an cdv ct) ⟨[u],[]⟩=pure [(("script" : Str),u)]):∀(s:Shared)(u:Value),BindsTo s fd ⟨[u],[]⟩ [("script", u)]:=by
 obtain⟨oc,od,kV,doc,pm,an,cdv,ct,osl,rfl,lk,hcd⟩:=F.ex
 exact λs u=>.of_eq (hb kV doc pm an cdv ct u)
end L2


namespace L2
open PySem PySem.Spec PyProof.Rows
section
variable{K:aA}{X:Cx}{e a b c:Expr}{es:List Expr}{t ta tb te:TE}{f g:FE}{tA:TA}{fs:FA}{pos:Pos}{i j:Nat}{π:FP}{st:Stmt}
variable{lo hi:Option Expr}{tl th:TO}{fl fh:FO}{p2:Pos}
def PL(a b:D):Option D:=match a,b with
 | .tup x,.tup y=>if D.bM x=true∧D.bM y=true∧x.length+y.length≤100000 then some (.tup (x++y))else none
 | _,_=>none
end
end L2


namespace L2
open PySem PySem.Spec PyProof.Rows
def Led(b:Bool)(t:SetTable):Prop:=t.led=b∧(t.plain=true→t.place.toList.Pairwise (·<·)∧t.dummies=#[])
end L2


namespace L2
open PySem PySem.Spec PyProof.Rows
section
variable{prog:Program}{w:World}{A:Around}{E:Value→Shared→Prop}{s:Shared}{b:Bool}
def RQ(prog:Program)(w:World)(b:Bool)(h:Heap)(a:Addr)(S:Int→Bool)(n:Nat):Prop:=
 ∃o es ep t,h.get? a=some o∧o.ExactSet∧o.data=.set es ep t∧ElemsOf (intKind prog w) es.toList∧(∀k,S k=true↔∃e∈es.toList,(intKind prog w).is k e.2=true)∧es.size<scanBound∧t.fits es.size=true∧es.size=n∧Led b t
end
section
variable{prog:Program}{w:World}{A:Around}{R:Result→Shared→Prop}{I:Addr}{fp wr:List Addr}{G:Array GenState→Array GenState→Prop}{n:Nat}{P:Nat→Value→Prop}{St:Nat→Shared→Prop}{b:Bool}
end
end L2


namespace L2
open PySem PySem.Spec PyProof.Rows
section
variable{prog:Program}{w:World}{A:Around}{E:Value→Shared→Prop}{s:Shared}
end
end L2


namespace L2
open PySem PySem.Spec PyProof.Rows
def WL(h:Heap)(I:Addr)(f:Value)(i:Nat)(a:Addr)(n ep:Nat):Prop:=∃o,h.get? I=some o∧o.cls=.type "set_iterator" ∧ o.data=.fields #[f,.int (i:Int) 0,.ref a,.int (n:Int) 0,.int (ep:Int) 0]
def WM(h:Heap)(a:Addr)(es:Array (Int×Value))(ep:Nat)(t:SetTable):Prop:=∃o,h.get? a=some o∧o.cls=.type "set" ∧ o.data=.set es ep t∧t.fits es.size=true
section
variable{prog:Program}{w:World}{A:Around}{E:Value→Shared→Prop}{s:Shared}{I a T:Addr}{f:Value}{i n ep:Nat}{es:Array (Int×Value)}{t:SetTable}
end
end L2


namespace L2
open PySem PySem.Spec PyProof.Rows
section
variable{prog:Program}{w:World}{A:Around}{E:Value→Shared→Prop}{s:Shared}{I a T:Addr}{f:Value}{i n ep:Nat}{es:Array (Int×Value)}{t:SetTable}
end
end L2


namespace L2
open PySem PySem.Spec PySem.Calls PyProof.Rows PyProof.V
section
variable{prog:Program}{w:World}{A:Around}{E:Value→Shared→Prop}{s:Shared}{I a T:Addr}{n:Nat}{S:Int→Bool}
end
end L2


namespace L2
open PySem PySem.Spec PySem.Calls PyProof.Rows PyProof.V
section
variable{X:Cx}{e:Expr}{t:TE}{x y:Str}{p p2 pos pos2:Pos}
end
end L2


namespace L2
open PySem PySem.Spec PySem.Calls PyProof.Rows PyProof.V
section
variable{prog:Program}{w:World}{A:Around}{E:Value→Shared→Prop}{s:Shared}{I l:Addr}
end
section
variable{K:aA}{X:Cx}{e:Expr}{t:TE}{f:FE}{x y:Str}{p p2 pos pos2:Pos}
def FW(φ:D→Option D)(f:FE):FE:=λe=>(f e).bind φ
end
end L2


namespace L2
open PySem PySem.Spec PySem.Calls PyProof.Rows PyProof.V PySem.W Att
abbrev Small(k:Int):Prop:=Builtin.Int.intBits k≤1048576
theorem Kv{ns:List Int}(h:WData.layableAll [WData.list (ns.map WData.int)]=true):∀k∈ns,Small k:=λk hk=>by
 have h1:(WData.list (ns.map WData.int)).layable=true:=by simpa[WData.layableAll]using h
 obtain⟨c,_,w⟩:=layableW_iff.mp h1
 have c':WData.canLayAll (ns.map WData.int)=true:=by simpa[WData.canLay]using c
 have w':WData.weightAll (ns.map WData.int)≤2 ^ 20:=by simpa[WData.weight]using w
 have:=(items_part (D8.mpr ⟨k,hk,rfl⟩) c').2.2
 have e:(WData.int k).weight=Builtin.Int.intBits k:=by simp only[WData.weight,Builtin.Int.intBits]
 rw[e]at this
 exact E7 this w'
theorem yX{l:OpenLaw}{n:Nat}{q:Program}{loose:List Str}{XP:(Str→Option Value)→Heap→Prop}{YP:World→Heap→Prop}{d:DefRec}(hn:l.most=some n)(hdf:d.params.defaults=[])
  (call:∀(w:World)(s₀ s₁:Shared)(mg mb:Str→Option Value)(fa:Addr)(o:Obj)(pm cd doc:Value)(a:Addr)(vs:List Value)(ns:List Int),Ground q loose [] XP w s₀ mg mb s₁.heap→YP w s₁.heap →
   s₁.heap.get? fa=some o→o.data=.func (docDef d.name d.params d.body d.scope pm cd doc)→s₁.heap.CodeRec cd d.name→mg d.name=some (.ref fa) →
   s₁.heap.get? a=some {cls:=.type "list", data:=.seq vs.toArray}→IntsAre vs ns→ns.length≤n→(∀k∈ns,Small k)→s₁.gens=#[] →
   codeAny (model l.prog w) callerA (.call (.ref fa) ⟨[.ref a],[]⟩) (λr s'=>r=.ok (.ret (.bool true))∧OldK s₁.heap s'.heap∧s'.os=s₁.os∧AllBare s'.gens) s₁) :
  WalkO q loose XP YP l.row.toRowW d [] (λf vs=>T5 f vs):=by
 intro w s₀ s₁ mg mb G Y fa o pm cd doc dV kV ho hd hcd hD hmg hg args vals as hpre hlay hrd hwl hlo
 obtain rfl:dV=.none:=Dflts.none hD hdf
 obtain rfl:kV=.none:=Dflts.noKw hD
 obtain⟨a,vs,ns,rfl,rfl,hobj,hints,hlen⟩:=Gm hn hpre hwl
 refine enter_call (codeAny_mono (call w s₀ s₁ mg mb fa o pm cd doc a vs ns G Y ho (fd_plain hd) hcd hmg hobj hints hlen (Kv hlay) hg) λr s' hq=>?_)
 obtain⟨rfl,h2,h3,h4⟩:=hq
 exact⟨.inl ⟨.bool true,.bool true,[],rfl,λ_=>rfl,.bool true,Gn l _,λ_=>⟨List.Pairwise.nil,λ_ hm=>(nomatch hm)⟩⟩,h2,h3,h4⟩
theorem Hf{l:T6}{n k:Nat}{q:Program}{loose:List Str}{XP:(Str→Option Value)→Heap→Prop}{YP:World→Heap→Prop}{d:DefRec}{K:Params→aA}{CX:World→Gf}{sp:World→Sp}{x:Str}(hn:l.most=some n)(hn2:n≤sizeLine)(hdf:d.params.defaults=[])(hr:dH k callerA)
  (hY:∀(w:World)(h:Heap),YP w h→(K w.params).In h)
  (F:∀(w:World)(mg:Str→Option Value)(fa:Addr)(h:Heap),(K w.params).In h→h.Ns mainGlobals mg→mg d.name=some (.ref fa)→∃fd:FuncData,(∀(s:Shared)(u:Value),BindsTo s fd ⟨[u],[]⟩ [(x,u)])∧∀base:Heap,(K w.params).In base→base.Ns mainGlobals mg→mK l.prog w (K w.params) mg base (CX w) k fa fd [x] (sp w))
  (hsp:∀(w:World)(H:Hp)(a:Addr)(ns:List Int),ns.length≤n→(∀k∈ns,Small k)→Only H→gW (K w.params) H a (ns.map V.int)→sp w [.ref a] H (λv _=>v=.bl true) λ_ _ _=>False)
  (JG:∀(w:World)(H:Hp)(s:Shared)(e:Value)(s':Shared),CX w [] H s (λ_ _ _=>False) e s'→False) :
  U1 q loose XP YP l.row.toRowW d [] (λf vs=>T5 f vs):=by
 refine yX hn hdf λw s₀ s₁ mg mb fa o pm cd doc a vs ns G Y ho hd hcd hmg hobj hints hlen hsm hg=>?_
 have KX:=hY w _ Y
 obtain⟨fd,hb,hF⟩:=F w mg fa _ KX G.T.g hmg
 exact Jj KX G.T.g G.T.b G.T.builtins G.T.nolimit hg hobj hints (E7 hlen hn2) hr hF hb (λH hO hS=>hsp w H a ns hlen hsm hO hS) λH e s'=>JG w H s₁ e s'
def JT(K:aA):Sp:=λvs H Q _=>∃(a:Addr)(ns:List Int),vs=[.ref a]∧gW K H a (ns.map V.int)∧ns.length≤63∧(∀k∈ns,Small k)∧∀H',Q (.bl true) H'
theorem Nm.RT{P:Program}{w:World}{K:aA}{mg:Str→Option Value}{base:Heap}{x:Str}{st:Stmt}{N:List Str}{k:Nat}{g:GS}{f:Addr}{fd:FuncData}(F:Nm K x x st f fd)(S:bJ N ["script"] (aH st))
  (hbody:∀(cdv:Value)(A:Around)(outer:List Env)(s:Shared)(H:Hp)(E:XK),dH k (A.deeper (envOfC x (aH st) s.heap.objs.size f cdv))→∃t,YB K (vV Ie P w K mg base N x (aH st) f cdv A outer s H E).Uo (bK st) t g)
  (Ws:∀ns:List Int,ns.length≤63→(∀k∈ns,Small k)→fO N.length 1 g [.lst (ns.map D.int)]=some (.bl true)):mK P w K mg base Ie (k+1) f fd ["script"] (JT K):=by
 refine F.ok S (λvs H Q E h=>?_) (λcdv A outer s H vs Q E hr h=>?_)
 ·obtain⟨a,ns,rfl,_⟩:=h
  rfl
 obtain⟨a,ns,rfl,hS,hl,hb,q⟩:=h
 obtain⟨t,yb⟩:=hbody cdv A outer s H E hr
 have h3:=Ws ns hl hb
 have rv:bC K H [.lst (ns.map D.int)] [.ref a]:=by
  unfold bC
  exact⟨_,_,rfl,by unfold Rv;exact⟨a,_,rfl,hS,fJ.mpr rfl⟩,by unfold bC;rfl⟩
 refine⟨t,yb.ps,yb.ev H _ _ H ([D.lst (ns.map D.int)].map SD.fro++E2 (N.length-1) SD.no) (uW rv) ?_⟩
 unfold fO at h3
 rw[if_pos (show [D.lst (ns.map D.int)].length=1 from rfl)]at h3
 cases qq:g ([D.lst (ns.map D.int)].map SD.fro++E2 (N.length-1) SD.no)with
 | ret d'=>
  rw[qq]at h3
  cases h3
  refine λv H' A' s' o=>?_
  have:=Ow.rv _ _ _ o
  unfold Rv at this
  subst this
  exact q _
 | _=>
  rw[qq]at h3
  cases h3
section
variable{K:aA}{X:Cx}{e a b c:Expr}{es:List Expr}{t ta tb te:TE}{f g:FE}{pos:Pos}
def oF(i j:Int):Prop:=Builtin.Int.intBits i≤4000000∧Builtin.Int.intBits j≤4000000
instance (i j:Int):Decidable (oF i j):=by unfold oF;exact inferInstance
theorem oF.ok{i j:Int}(h:oF i j):IntMulOk i j:=PyProof.Rows.mulOk_of_bits h.1 h.2 (by decide)
theorem Qo:jQ X (binaryOp .Mult) (rI oF λi j=>.int (i*j)):=Yv λ_ _ _ _ _ _ _ hc q=>mul_int q hc.ok
def yZ:D→D→Option D:=tQ oF λi j=>.int (i*j)
theorem Ei(ha:XR K X a ta f)(hb:XR K X b tb g):XN K X (.BinOp a .Mult b pos) (xY (rI oF λi j=>.int (i*j)) ta tb) (f2 yZ f g):=qT Qo (qQ λ_ _ h=>h) ha hb
variable{lo hi:Option Expr}{tl th:TO}{fl fh:FO}{p2:Pos}
end
end L2


namespace L2
open PySem PySem.Spec PySem.Calls PyProof.Rows PyProof.V
section
variable{K:aA}{X:Cx}
def PN:List D→Option D
 | [.bl c]=>some (.int (if c then 1 else 0))
 | _=>none
end
end L2


namespace L2
open PySem PySem.Spec PySem.Calls PyProof.Rows PyProof.V
section
variable{X:Cx}{pins:List (Addr×Obj)}{σ:St}{H:Hp}{s:Shared}{h':Heap}
end
section
variable{K:aA}{X:Cx}{e a b c:Expr}{es:List Expr}{t ta tb te:TE}{f g fe:FE}{tc:TT}{fc:FT}{pos p p2:Pos}{x:Str}
end
end L2


namespace L2
open PySem PySem.Spec PySem.Calls PyProof.Rows PyProof.V
section
variable{K:aA}{B H:Hp}{env:EN}{σ:St}{i:Nat}{v:V}{d:D}
end
section
variable{K:aA}{X:Cx}{st:Stmt}{sts:List Stmt}{t u tb:TS}{g g1 g2:GS}{e a b c:Expr}{es:List Expr}{te ta t0:TE}{f f0 fa fb:FE}{gk:FE}{tA:TA}{fs:FA}{tc:TT}{fc:FT}{pos:Pos}{i:Nat}{π:FP}
end
end L2


namespace L2
open PySem PySem.Spec PySem.Calls PyProof.Rows PyProof.V
section
variable{α β:Type}{R:α→Fp→β→Prop}
end
section
variable{K:aA}{B H H':Hp}{env:EN}{σ:St}{i:Nat}{v:V}{d:D}
end
def Qp:GS:=λ_=>.bad
theorem Bm{K:aA}{X:Cx}{st:Stmt}:YS K X st Ir Qp:=⟨Iu,λ_ _ _ _ _ _ p=>p.elim⟩
section
variable{K:aA}{X:Cx}{st:Stmt}{sts:List Stmt}{t u tb:TS}{g g1 g2:GS}{e a b c o:Expr}{es:List Expr}{te ta t0 tv:TE}{f f0 fa fb:FE}{gk:FE}{tA:TA}{fs:FA}{tc:TT}{fc:FT}{pos apos:Pos}{i:Nat}{π:FP}
structure RV(K:aA)(C:Addr)(nm:List Str):Prop where
 cl:DY K C
 no:∀f∈nm,Vc K C f
end
section
variable{K:aA}{B H:Hp}{env:EN}{σ:St}
end
section
variable{K:aA}{X:Cx}{st:Stmt}{sts:List Stmt}{t u tb:TS}{g g1 g2:GS}{e a b c o:Expr}{es:List Expr}{te ta t0 tv:TE}{f f0 fa fb:FE}{gk:FE}{tA:TA}{fs:FA}{tc:TT}{fc:FT}{pos apos:Pos}{i:Nat}{π:FP}
end
end L2


namespace L2
open PySem PySem.Spec PySem.Calls PyProof.Rows PyProof.V
section
variable{K:aA}{B H H':Hp}{env:EN}{σ:St}{i:Nat}{p:List Step}{d0 d:D}
def SD.hold:SD→Option (D×(D→SD))
 | .own d=>some (d,.own)
 | .inn v d=>some (d,.inn v)
 | _=>none
end
abbrev GM:=EN→Option (D×EN)
def RW(K:aA)(t:TE)(g:GM):Prop:=∀(B:Hp)(σ:St)(H:Hp)(env:EN)(d:D)(env':EN)(Q:VK),Rel K B env σ H→g env=some (d,env')→(∀v H',Rel K B (env'++[.own d]) (σ++[some v]) H'→Q v H')→t σ H Q
structure XM(K:aA)(X:Cx)(e:Expr)(t:TE)(g:GM):Prop where
 hk:X.K=K
 pe:PE X e t
 ev:RW K t g
abbrev GB:=EN→Option (Bool×EN)
def BR(K:aA)(t:TT)(g:GB):Prop:=∀(B:Hp)(σ:St)(H:Hp)(env:EN)(b:Bool)(env':EN)(Q:Bool→Hp→Prop),Rel K B env σ H→g env=some (b,env')→(∀H',Rel K B env' σ H'→Q b H')→t σ H Q
structure WN(K:aA)(X:Cx)(e:Expr)(t:TT)(g:GB):Prop where
 hk:X.K=K
 pt:PT X e t
 ev:BR K t g
structure WQ(K:aA)(X:Cx)(e:Expr)(t:TT)(g:GB):Prop where
 hk:X.K=K
 pw:PW X e t
 ev:BR K t g
abbrev FA2:=DE→DE→Option (List D)
def JV(K:aA)(t:TA)(fs:FA2):Prop:=∀(A1:Fp)(σ:St)(H:Hp)(eF eZ:DE)(ds:List D)(Q:List V→Hp→Prop),(∀x,A1 x→iC H x)→iG K H eF σ→iG K (out H A1) eZ σ→fs eF eZ=some ds →
 (∀vs H',aD H H'→bC K (out H' A1) ds vs→Q vs H')→t σ H Q
structure WR(K:aA)(X:Cx)(es:List Expr)(t:TA)(fs:FA2):Prop where
 hk:X.K=K
 pa:PA X es t
 ev:JV K t fs
section
variable{K:aA}{X:Cx}{st:Stmt}{sts:List Stmt}{t u tb:TS}{g:GM}{g1 g2:GS}{e a b c o:Expr}{es rest:List Expr}{te ta t0 tv:TE}{f f0 fa fb:FE}{tA:TA}{fs:FA2}{tc td:TT}{fc:FT}{gb gc:GB}{pos apos:Pos}{i:Nat}{π:FP}
structure RX(P:Program)(w:World)(K:aA)(mg:Str→Option Value)(base:Heap)(C:Addr)(m:Str)(k n:Nat)(df:Bool)(sp:Sp):Prop where
 ex:∃f fd ps,ps.length=n∧mK P w K mg base Ie k f fd ps sp∧Binds K fd ps []∧(df=true→Binds K fd ps [Value.none])∧Meth K C m f
structure RZ(P:Program)(w:World)(K:aA)(mg:Str→Option Value)(base:Heap)(x:Str)(C:Addr)(k n:Nat)(sp:Sp):Prop where
 ex:∃f fd ps,ps.length=n∧mK P w K mg base Ie k f fd ps sp∧Binds K fd ps []∧Mk K C f∧mg x=some (.ref C)
end
end L2


namespace L2
open PySem PySem.Spec PySem.Calls PyProof.Rows PyProof.V
def JW(K:aA)(dN:Bool)(dV:Value):Prop:=match dN with
 | false=>dV=.none
 | true=>∃T o n,dV=.ref T∧K.lookup T=some o∧o.data=.seq #[.none] n
structure BV(K:aA)(f:Addr)(m q:Str)(st:Stmt)(dN:Bool):Prop where
 ex:∃(oc:Value)(od:Option Addr)(dV kV doc pm:Value)(an:Option Addr)(cdv ct:Value)(osl:Array (Option Value)),
  K.lookup f=some ⟨oc,od,.func (E9 m q (cB st) (bK st) (aH st) dV kV doc pm an cdv ct),osl⟩∧J7 K cdv q=true∧JW K dN dV
structure SJ(K:aA)(C:Addr)(m q:Str)(st:Stmt)(dN:Bool):Prop where
 ex:∃f,BV K f m q st dN∧Meth K C m f
structure SM(K:aA)(mg:Str→Option Value)(x:Str)(C:Addr)(q:Str)(st:Stmt):Prop where
 ex:∃f,BV K f "__init__" q st false∧Mk K C f∧mg x=some (.ref C)
def HB(x q:Str)(st:Stmt)(ps:List Str):Prop:=∀(kV doc pm:Value)(an:Option Addr)(cdv ct:Value)(us:List Value),us.length=ps.length→bindArgs (E9 x q (cB st) (bK st) (aH st) .none kV doc pm an cdv ct) ⟨us,[]⟩=pure (ps.zip us)
def SN(x q:Str)(st:Stmt)(ps:List Str):Prop:=∀(T:Addr)(kV doc pm:Value)(an:Option Addr)(cdv ct:Value)(us:List Value),(us.length=ps.length→∃k,bindArgs (E9 x q (cB st) (bK st) (aH st) (.ref T) kV doc pm an cdv ct) ⟨us,[]⟩=seqItems? (Value.ref T) >>= k∧k (some #[Value.none])=pure (ps.zip us)) ∧
 (us.length+1=ps.length→∃k,bindArgs (E9 x q (cB st) (bK st) (aH st) (.ref T) kV doc pm an cdv ct) ⟨us,[]⟩=seqItems? (Value.ref T) >>= k∧k (some #[Value.none])=pure (ps.zip (us++[Value.none])))
def WT(dN:Bool)(x q:Str)(st:Stmt)(ps:List Str):Prop:=match dN with
 | false=>HB x q st ps
 | true=>SN x q st ps
section
variable{P:Program}{w:World}{K:aA}{mg:Str→Option Value}{base:Heap}
end
section
variable{K:aA}{X:Cx}{st:Stmt}{g g1 g2 gb:GS}{e a b c o:Expr}{es rest:List Expr}{te ta tb tc t0 tv:TE}{f f0 fa fb fc:FE}{tA:TA}{fs:FA}{pos apos:Pos}{i j:Nat}{π:FP}{PQ:TS}
end
end L2


namespace L2
open PySem PySem.Spec PySem.Calls PyProof.Rows PyProof.V
section
variable{K:aA}{B H:Hp}{env:EN}{σ:St}
end
abbrev FK:=DE→Option (List Key)
def SQ(K:aA)(t:TE)(fk:FK):Prop:=∀(σ:St)(H:Hp)(e:DE)(k:List Key)(Q:VK),iG K H e σ→fk e=some k→(∀b H',aD H H'→H' b=some (.tup (k.map kV))→Q (.ref b) H')→t σ H Q
structure WW(K:aA)(X:Cx)(e:Expr)(t:TE)(fk:FK):Prop where
 hk:X.K=K
 pe:PE X e t
 ev:SQ K t fk
section
variable{K:aA}{X:Cx}{st:Stmt}{e a b c o:Expr}{es rest:List Expr}{te ta tb tc t0 tv:TE}{f fa fb:FE}{g:FK}{gd:FE}{tA:TA}{fs:FA}{pos apos:Pos}{i j:Nat}{π:FP}{PQ:TS}
def JX(K:aA)(t:TA)(fs:FA)(i:Nat):Prop:=∀(σ:St)(H:Hp)(e:DE)(ds:List D)(v:V)(Q:List V→Hp→Prop),iG K H e σ→fs e=some ds→σ[i]?=some (some v)→(∀vs H',aD H H'→tZ K H H' ds vs→Q (vs++[v]) H')→t σ H Q
structure WX(K:aA)(X:Cx)(es:List Expr)(t:TA)(fs:FA)(i:Nat):Prop where
 hk:X.K=K
 pa:PA X es t
 ev:JX K t fs i
end
end L2


namespace L2
open PySem PySem.Spec PySem.Calls PyProof.Rows PyProof.V
section
variable{K:aA}{X:Cx}{st:Stmt}{e a b c o:Expr}{es rest:List Expr}{te ta tb tc t0 tv:TE}{f fa fb g:FE}{gk:FK}{gd:FE}{tA:TA}{fs:FA}{pos apos:Pos}{i j:Nat}{π:FP}{PQ:TS}{gm:GM}
theorem Qq(h:XR K X e te f)(hs:swapsWith e none pos.line X.env=pure false:=by rfl):YS K X (.Expr e pos) (nU te) (rG f):=⟨pG h.pe hs,Ql h.ev⟩
end
end L2
namespace L2
open PySem PySem.Spec PySem.Calls PyProof.Rows PyProof.V
end L2


namespace L2
open PySem PySem.Spec PySem.Calls PyProof.Rows PyProof.V
section
variable{K:aA}{X:Cx}{e stx:Expr}{te ts:TE}{f g:FE}{pos p2:Pos}
end
end L2


namespace L2
open PySem PySem.Spec PySem.Calls PyProof.Rows PyProof.V
abbrev FE2:=DE→DE→Option D
def SX(K:aA)(t:TE)(f:FE2):Prop:=∀{N:Fp}(σ:St)(H Z:Hp)(eF eZ:DE)(d:D)(Q:VK),Zn K N Z H→iG K H eF σ→iG K Z eZ σ→f eF eZ=some d →
 (∀v H' Z',aD H H'→aD Z Z'→Zn K N Z' H'→Rv K Z' d v→Q v H')→t σ H Q
def JZ(K:aA)(t:TA)(f:FA2):Prop:=∀{N:Fp}(σ:St)(H Z:Hp)(eF eZ:DE)(ds:List D)(Q:List V→Hp→Prop),Zn K N Z H→iG K H eF σ→iG K Z eZ σ→f eF eZ=some ds →
 (∀vs H' Z',aD H H'→aD Z Z'→Zn K N Z' H'→bC K Z' ds vs→Q vs H')→t σ H Q
structure XZ(K:aA)(X:Cx)(e:Expr)(t:TE)(f:FE2):Prop where
 hk:X.K=K
 pe:PE X e t
 ev:SX K t f
structure WY(K:aA)(X:Cx)(es:List Expr)(t:TA)(f:FA2):Prop where
 hk:X.K=K
 pa:PA X es t
 ev:JZ K t f
section
variable{K:aA}{X:Cx}{e a b:Expr}{es:List Expr}{te ta tb:TE}{f:FE}{g h:FE2}{tA:TA}{fs:FA2}{pos:Pos}{i:Nat}
end
end L2


namespace L2
open PySem PySem.Spec PySem.Calls PyProof.Rows PyProof.V
inductive Ar where
  | ch (i:Nat) | rd (f:FE) | nw (f:FE)
def FZ:List Ar→List Nat
 | []=>[]
 | .ch i::as=>i::FZ as
 | .rd _::as=>FZ as
 | .nw _::as=>FZ as
def GC:List Ar→DE→DE→Option (List D)
 | [],_,_=>some []
 | .ch _::as,eF,eZ=>GC as eF eZ
 | .rd f::as,eF,eZ=>(f eZ).bind λd=>(GC as eF eZ).map λr=>d::r
 | .nw f::as,eF,eZ=>(f eF).bind λd=>(GC as eF eZ).map λr=>d::r
def Ej(K:aA)(Z:Hp)(σ:St):List Ar→List D→List V→Prop
 | [],ds,vs=>ds=[]∧vs=[]
 | .ch i::as,ds,vs=>∃v r,vs=v::r∧σ[i]?=some (some v)∧Ej K Z σ as ds r
 | .rd _::as,ds,vs=>∃d dr v r,ds=d::dr∧vs=v::r∧Rv K Z d v∧Ej K Z σ as dr r
 | .nw _::as,ds,vs=>∃d dr v r,ds=d::dr∧vs=v::r∧Rv K Z d v∧Ej K Z σ as dr r
def PX(σ:St):List Nat→List V→Prop
 | [],vs=>vs=[]
 | j::js,vs=>∃v r,vs=v::r∧σ[j]?=some (some v)∧PX σ js r
def rM:List Nat→List D→EN→EN
 | j::js,d::ds,env=>(match env[j]?.bind SD.hold with
  | some db=>(rM js ds (env.set j .no)).set j (db.2 d)
  | none=>env)
 | _,_,env=>env
section
variable{K:aA}{X:Cx}{e:Expr}{es:List Expr}{te:TE}{f:FE}{tA:TA}{as:List Ar}{pos:Pos}{i:Nat}
def KC(K:aA)(t:TA)(as:List Ar):Prop:=∀(A1:Fp)(σ:St)(H:Hp)(eF eZ:DE)(ds:List D)(cv:List V)(Q:List V→Hp→Prop),(∀x,A1 x→iC H x)→iG K H eF σ→iG K (out H A1) eZ σ→PX σ (FZ as) cv→GC as eF eZ=some ds →
 (∀vs H',aD H H'→Ej K (out H' A1) σ as ds vs→Q vs H')→t σ H Q
structure XC(K:aA)(X:Cx)(es:List Expr)(t:TA)(as:List Ar):Prop where
 hk:X.K=K
 pa:PA X es t
 ev:KC K t as
end
section
variable{K:aA}{H H' Z Z' B:Hp}{σ:St}
end
section
variable{K:aA}{X:Cx}{e:Expr}{es:List Expr}{tA:TA}{as:List Ar}{pos pf:Pos}
end
section
variable{P:Program}{w:World}{K:aA}{mg:Str→Option Value}{base:Heap}
end
section
variable{K:aA}{X:Cx}{a b:Expr}{rest:List Expr}{ta tb:TE}{g h:GM}{f:FE}{pos:Pos}
end
end L2


namespace L2
open PySem PySem.Spec PySem.Calls PyProof.Rows PyProof.V
section
variable{prog:Program}{w:World}{A:Around}{R:Result→Shared→Prop}{I:Addr}{fp wr:List Addr}{n:Nat}{P:Nat→Value→Prop}{St:Nat→Heap→Prop}{kw:List (Str×Value)}
end
section
variable{prog:Program}{w:World}{A:Around}{E:Value→Shared→Prop}{s:Shared}
end
section
variable{K:aA}{X:Cx}{e e2:Expr}{te t2:TE}{f g:FE}{x:Str}{p pos kp:Pos}
end
end L2


namespace L2
open PySem PySem.Spec PySem.Calls PyProof.Rows PyProof.V
section
variable{X:Cx}
end
section
variable{K:aA}{X:Cx}{a b e:Expr}{ta tb te:TE}{f g:FE}{i:Nat}{π:FP}{pos apos cpos:Pos}{m:Str}
end
end L2


namespace L2
open PySem PySem.Spec PySem.Calls PyProof.Rows PyProof.V
def Wt(ks:List Key)(vs:List V):List (V×V):=(ks.zip vs).map λkv=>(kV kv.1,kv.2)
def KD(K:aA)(t:List (TE×TE))(ks:List Key)(is:List Nat)(fs:FA):Prop:=∀(σ:St)(H:Hp)(e:DE)(ds:List D)(xs:List V)(Q:List (V×V)→Hp→Prop),iG K H e σ→fs e=some ds→xs.length=is.length →
 (∀(k i:Nat),is[k]?=some i→∃x,xs[k]?=some x∧σ[i]?=some (some x))→(∀vs H',aD H H'→tZ K H H' ds vs→Q (Wt ks (xs++vs)) H')→Am t σ H Q
structure XD(K:aA)(X:Cx)(p:Pos)(keys:List (Option Expr))(vals:List Expr)(t:List (TE×TE))(ks:List Key)(is:List Nat)(fs:FA):Prop where
 hk:X.K=K
 XF:QQ X p keys vals t
 ev:KD K t ks is fs
section
variable{K:aA}{X:Cx}{st:Stmt}{e:Expr}{vals:List Expr}{keys:List (Option Expr)}{te:TE}{f:FE}{fs:FA}{pos p p1:Pos}{i j:Nat}{t:List (TE×TE)}{ks:List Key}{is:List Nat}{x:Str}
end
section
variable{X:Cx}{K:aA}{x y:Str}{p p2 pos pos2:Pos}{a b:Expr}{t:TA}{fs:FA}
end
end L2


namespace L2
open PySem PySem.Spec PySem.Calls PyProof.Rows PyProof.V
section
variable{K:aA}{X:Cx}{a e:Expr}{ta te:TE}{f:FE}{π:FP}{i:Nat}{m:Str}{apos cpos pos:Pos}
end
end L2


namespace L2
open PySem PySem.Spec PySem.Calls PyProof.Rows PyProof.V
section
variable{K:aA}{X:Cx}{a b e:Expr}{es:List Expr}{ta tb te t:TE}{f g:FE}{tA:TA}{fs:FA}{pos apos cpos p2:Pos}{m:Str}
structure Ek(mg:Str→Option Value)(x:Str)(i:Str):Prop where
 ex:∃t,mg x=some (.str i t)
theorem Kw{K:aA}{h:Heap}{mg:Str→Option Value}{x:Str}{i:Str}{t:Tok}(X:K.In h)(G:h.Ns mainGlobals mg)(a:R6 K mainGlobals x=some (some (.str i t))):Ek mg x i:=⟨t,U0 X G a⟩
theorem BW{x:Str}{i:Str}(G:Ek X.mg x i)(hg:Gl X x)(hd:(x==("__debug__" : Str))=false:=by decide) (hk:X.K=K:=by rfl):XN K X (.Name x pos) (tC (.str i)) (fC (.str i)):=by
 obtain⟨t,h⟩:=G.ex
 exact⟨hk,Ny hg h ⟨t,rfl⟩ hd,Jt i⟩
def Tc(i j:Int):Prop:=0<j∧j.natAbs.log2<9000
instance:∀i j,Decidable (Tc i j):=λi j=>by unfold Tc;exact inferInstance
end
section
variable{P:Program}{w:World}{K:aA}{tg:Expr}
end
section
variable{K:aA}{X:Cx}{tg e l:Expr}{t tl:TE}{f:FE}
end
end L2


namespace L2
open PySem PySem.Spec PySem.Calls PyProof.Rows PyProof.V
section
variable{K:aA}{X:Cx}{a b c e:Expr}{ta tb tc te t:TE}{f g fa fb fc:FE}{pos apos cpos:Pos}{m:Str}
end
end L2


namespace L2
open PySem PySem.Spec PySem.Calls PyProof.Rows PyProof.V
section
variable{K:aA}{B H H':Hp}{env:EN}{σ:St}{i j:Nat}{v:V}{d:D}
end
end L2


namespace L2
open PySem PySem.Spec PySem.Calls PyProof.Rows PyProof.V
abbrev BX(h:Heap)(l:List Env):Heap:=S9 h (frs l)
structure Fl(l:List Env)(s1:Shared)(e:Addr)(cls:Value)(s':Shared):Prop where
 XH:∃a0,Heap.FlyingW (BX s1.heap l) l e cls a0 s'.heap
 up:s1.heap.UpToSlots s'.heap
 os:s'.os=s1.os
 bare:AllBare s'.gens
def GD(P:Program)(w:World):Gf:=λouter H s E ev s'=>∃e cls H' s1,ev=.ref e∧s1.os=s.os∧AllBare s1.gens∧Un (frs outer) [] H H' s.heap s1.heap∧jU P w H' s1.heap∧Fl outer s1 e cls s'∧E cls none H'
section
variable{P:Program}{w:World}{l:List Env}{s1 s':Shared}{e:Addr}{cls:Value}{H:Hp}{base:Heap}
end
section
variable{X:Cx}{pins:List (Addr×Obj)}{σ:St}{H:Hp}{s s1 s':Shared}{e:Addr}{cls ev:Value}{E:XK}
end
section
variable{P:Program}{w:World}{env:Env}{outer:List Env}{L e:Addr}{cls a0:Value}{s0 s1:Shared}{H0 H:Hp}{E:XK}{base h':Heap}{s2:Shared}
end
section
variable{P:Program}{w:World}{K:aA}{mg:Str→Option Value}{base:Heap}{N:List Str}{qual:Str}{scope:Scope}{f:Addr}{cd:Value}{A:Around}{outer:List Env}{s0:Shared}{H0:Hp}{E:XK}
end
end L2


namespace L2
open PySem PySem.Spec PySem.Calls PyProof.Rows PyProof.V
abbrev GZ:=EN→Option Nat
def DZ(K:aA)(κ:Nat→Addr)(E:XK)(t:TS)(z:GZ):Prop:=∀(B:Hp)(D:Ends)(σ:St)(H:Hp)(env:EN)(i:Nat),Rel K B env σ H→z env=some i→(∀H',aD B H'→E (.ref (κ i)) none H')→t D σ H
structure YZ(K:aA)(κ:Nat→Addr)(X:Cx)(E:XK)(st:Stmt)(t:TS)(z:GZ):Prop where
 ps:PS X st t
 ev:DZ K κ E t z
structure XQ(K:aA)(κ:Nat→Addr)(X:Cx)(E:XK)(st:List Stmt)(t:TS)(z:GZ):Prop where
 ps:Af X st t
 ev:DZ K κ E t z
structure TF(P:Program)(w:World)(K:aA)(mg:Str→Option Value)(base:Heap)(x:Str)(k:Nat)(n:Nat)(sp:Sp):Prop where
 ex:∃f fd ps,ps.length=n∧mK P w K mg base (GD P w) k f fd ps sp∧Binds K fd ps []∧G0 K (.ref f)=true∧mg x=some (.ref f)
structure QB(P:Program)(w:World)(K:aA)(mg:Str→Option Value)(base:Heap)(C:Addr)(m:Str)(k n:Nat)(df:Bool)(sp:Sp):Prop where
 ex:∃f fd ps,ps.length=n∧mK P w K mg base (GD P w) k f fd ps sp∧Binds K fd ps []∧(df=true→Binds K fd ps [Value.none])∧Meth K C m f
section
variable{K:aA}{κ:Nat→Addr}{X:Cx}{E:XK}{st:Stmt}{sts rest:List Stmt}{t u:TS}{z z1 z2:GZ}{g:GS}{c e o:Expr}{es:List Expr}{te ta:TE}{tA:TA}{tc:TT}{fc:FT}{f:FE}{fs:FA}{pos apos:Pos}{m:Str}
def TJ(X:Cx)(pins:List (Addr×Obj))(σ:St)(e:Expr)(t:TE):Prop:=∀(s:Shared)(H:Hp)(Q:VK),Inv X pins σ H s→t σ H Q→wpAny (model X.prog X.w) X.A (eval e X.env) (EP X pins σ Q) X.xe s
def TQ(X:Cx)(pins:List (Addr×Obj))(σ:St)(st:Stmt)(t:TS):Prop:=∀(s:Shared)(H:Hp)(D:Ends),Inv X pins σ H s→t D σ H→wpAny (model X.prog X.w) X.A (exec st X.env) (SP X pins D) X.xe s
def Td(CX:Gf)(X:Cx)(pins:List (Addr×Obj))(σ:St)(E:XK):Prop:=∀(H:Hp)(s:Shared)(e:Value)(s':Shared),Inv X pins σ H s→CX X.stack H s E e s'→X.xe e s'
structure XS(K:aA)(κ:Nat→Addr)(X:Cx)(E:XK)(e:Expr)(t:TE)(z:DE→Option Nat):Prop where
 pe:∀(pins:List (Addr×Obj))(σ:St),Td (GD X.prog X.w) X pins σ E→TJ X pins σ e t
 ev:∀(σ:St)(H:Hp)(de:DE)(i:Nat)(Q:VK),iG K H de σ→z de=some i→(∀H',aD H H'→E (.ref (κ i)) none H')→t σ H Q
end
section
variable{P:Program}{w:World}{K:aA}{mg:Str→Option Value}{base:Heap}{κ:Nat→Addr}
end
section
variable{K:aA}{κ:Nat→Addr}{X:Cx}{E:XK}{z:GZ}{g:GS}{pos:Pos}
end
end L2


namespace L2
open PySem PySem.Spec PySem.Calls PyProof.Rows PyProof.V
abbrev BZ:List Value:=[.type "ValueError", .type "Exception", .type "BaseException", .type "object"]
structure XX(K:aA)(mg:Str→Option Value)(x:Str)(C:Addr):Prop where
 mg:mg x=some (.ref C)
 ok:PySem.W.excIn K C BZ "ValueError.__new__" = true
section
variable{P:Program}{w:World}{K:aA}{mg:Str→Option Value}{base:Heap}{N:List Str}{qual:Str}{scope:Scope}{f:Addr}{cd:Value}{A:Around}{outer:List Env}{s0:Shared}{H0:Hp}{E:XK}{κ:Nat→Addr}
 {x:Str} {C:Addr} {np cpos pos:Pos} {e:Expr} {es:List Expr} {tA:TA}
end
abbrev Cx.tr(X:Cx)(pn:List (Addr×Obj))(Ex:Value→Shared→Prop):Cx:={X with pn:=pn,xe:=Ex}
abbrev Cx.hand(X:Cx)(pn:List (Addr×Obj))(e:Addr):Cx:={X with pn:=pn,A:=X.A.mark (some (.ref e)),calm:=false,xe:=λ_ _=>False}
section
variable{X:Cx}{pins Im pn:List (Addr×Obj)}{σ:St}{H:Hp}{s s':Shared}{Ex:Value→Shared→Prop}{e:Addr}{D:Ends}{fl:Flow}
end
abbrev CG:=Nat→Nat→Bool
section
variable{K:aA}{κ:Nat→Addr}{X:Cx}{sub:CG}{n nj:Nat}{z:GZ}{g:GS}{st:Stmt}{pos:Pos}
def TV(k:Nat)(g:GS):GS:=λenv=>if k<env.length then(match g (env.set k .no)with
 | .next env'=>if k<env'.length then .next (env'.set k .no)else .bad
 | _=>.bad)else .bad
structure YE(K:aA)(X:Cx)(k:Nat)(e:Addr)(sts:List Stmt)(t:TS)(g:GS):Prop where
 ps:Af X sts t
 ev:∀(B:Hp)(D:Ends)(σ:St)(H:Hp)(env:EN),Rel K B env σ H→σ[k]?=some (some (.ref e))→Bf K B D (g env)→t D σ H
inductive HK(K:aA)(κ:Nat→Addr)(X:Cx)(n i:Nat):List ExceptHandler→List (Nat×GS)→Prop
 | nil:HK K κ X n i [] []
 | cons {x:Str} {np hp:Pos} {b₀:Stmt} {suite:List Stmt} {rest:List ExceptHandler} {j:Nat} {gh:GS} {r:List (Nat×GS)} (hm:X.mg x=some (.ref (κ j))) (hg:Gl X x) (hd:(x==("__debug__" : Str))=false)
   (hs:∀(pn:List (Addr×Obj))(e:Addr),∃t,YB K (X.hand pn e) (b₀::suite) t gh) (hr:HK K κ X n i rest r):HK K κ X n i (.ExceptHandler (some (.Name x np)) none (b₀::suite) hp::rest) ((j,gh)::r)
 | as {x nm:Str} {np hp:Pos} {b₀:Stmt} {suite:List Stmt} {rest:List ExceptHandler} {j k:Nat} {gh:GS} {r:List (Nat×GS)} (hm:X.mg x=some (.ref (κ j))) (hg:Gl X x) (hd:(x==("__debug__" : Str))=false) (hN:X.N.Nodup) (hk:X.N[k]?=some nm) (hl:X.env.scope.names.lookup nm=some .local)
   (hs:∀(pn:List (Addr×Obj))(e:Addr)(oe:Obj),i<n→oe.cls=.ref (κ i)→(e,oe)∈pn→∃t,YE K (X.hand pn e) k e (b₀::suite) t gh) (hr:HK K κ X n i rest r):HK K κ X n i (.ExceptHandler (some (.Name x np)) (some nm) (b₀::suite) hp::rest) ((j,TV k gh)::r)
structure ZS(K:aA)(κ:Nat→Addr)(X:Cx)(E:XK)(st:Stmt)(t:TS)(z:GZ):Prop where
 ps:∀(pins:List (Addr×Obj))(σ:St),Td (GD X.prog X.w) X pins σ E→TQ X pins σ st t
 ev:∀(B:Hp)(D:Ends)(σ:St)(H:Hp)(env:EN)(i:Nat),Rel K B env σ H→z env=some i→(∀H',aD H H'→E (.ref (κ i)) none H')→t D σ H
end
end L2


namespace L2
open PySem PySem.Spec PySem.Calls PyProof.Rows PyProof.V
section
variable{K:aA}{X:Cx}{κ:Nat→Addr}{pos p:Pos}
structure XE(K:aA)(X:Cx)(k:Nat)(ea:Addr)(e:Expr)(t:TE)(d:D):Prop where
 pe:PE X e t
 ev:∀(σ:St)(H:Hp)(Q:VK),σ[k]?=some (some (.ref ea))→(∀v H',aD H H'→Ag K H H' d v→Q v H')→t σ H Q
end
section
variable{K:aA}{X:Cx}{g:GS}{pos:Pos}
end
end L2


namespace L2
open PySem PySem.Spec PySem.Calls PyProof.Rows PyProof.V
section
variable{K:aA}{X:Cx}{pos p0:Pos}
end
end L2


namespace L2
open PySem PySem.Spec PySem.Calls PyProof.Rows PyProof.V Builtin Builtin.ObjectAttr Builtin.Getset_descriptor
section
variable{P:Program}{w:World}{A:Around}{E:Value→Shared→Prop}{s:Shared}{K:aA}{x D:Addr}{ox:Obj}{od:Option Obj}
structure TX(K:aA)(D:Addr):Prop where
 ga:G4 K (.ref D) "__getattribute__" = some (some (.builtin "BaseException.__getattribute__"))
 gt:G4 K (.ref D) "__getattr__" = some none
 cl:G4 K (.ref D) "__class__" = some (some (.builtin "object.__class__"))
 sp:N4 K (.builtin "object.__class__") "__get__" = some (some (.builtin "getset_descriptor.__get__"))
 tk:T0 K (.builtin "object.__class__")=some true
 mr:T9 K D (.type "object")=some true
 bx:PySem.W.subIn K (.ref D) (.type "BaseException")=some true
 ct:(PySem.W.clsIn K D).isSome=true
end
section
variable{K:aA}{X:Cx}{κ:Nat→Addr}{pos p:Pos}
structure YC(K:aA)(X:Cx)(k:Nat)(ea:Addr)(e:Expr)(t:TE)(f:FE):Prop where
 hk:X.K=K
 pe:PE X e t
 ev:∀(σ:St)(H:Hp)(de:DE)(d:D)(Q:VK),iG K H de σ→σ[k]?=some (some (.ref ea))→f de=some d→(∀v H',aD H H'→Ag K H H' d v→Q v H')→t σ H Q
structure YD(K:aA)(X:Cx)(k:Nat)(ea:Addr)(es:List Expr)(t:TA)(fs:FA):Prop where
 hk:X.K=K
 pa:PA X es t
 ev:∀(σ:St)(H:Hp)(de:DE)(ds:List D)(Q:List V→Hp→Prop),iG K H de σ→σ[k]?=some (some (.ref ea))→fs de=some ds→(∀vs H',aD H H'→tZ K H H' ds vs→Q vs H')→t σ H Q
end
end L2


namespace L2
open PySem PySem.Spec PySem.Calls PyProof.Rows PyProof.V
section
variable{P:Program}{w:World}{K:aA}{mg:Str→Option Value}{base:Heap}{κ:Nat→Addr}
end
section
variable{K:aA}{κ:Nat→Addr}{X:Cx}{E:XK}{pos:Pos}
end
end L2


namespace L2
open PySem PySem.Spec PySem.Calls PyProof.Rows PyProof.V
section
variable{K:aA}{X:Cx}{e:Expr}{t:TE}{f:FE}{pos:Pos}
end
end L2


set_option maxHeartbeats 1000000
namespace L2
open PySem PySem.Spec PySem.Calls PyProof.Rows PyProof.V
section
variable{K:aA}{X:Cx}{e:Expr}{t:TE}{f:FE}{pos p2:Pos}
def CJ(z:Str)(lo hi:Option Int):Prop:=(∀i∈lo.toList,0≤i)∧(∀j∈hi.toList,0≤j)∧HT.oU z.length 0 lo≤HT.oU z.length z.length hi∧z.length≤100000
instance:∀z lo hi,Decidable (CJ z lo hi):=λz lo hi=>by unfold CJ;exact inferInstance
end
end L2


namespace L2
open PySem PySem.Spec PySem.Calls PyProof.Rows PyProof.V
section
variable{K:aA}{X:Cx}{pos:Pos}
variable{κ:Nat→Addr}{sub:CG}{n nj:Nat}
end
end L2


namespace L2
open PySem PySem.Spec PySem.Calls PyProof.Rows PyProof.V
section
variable{K:aA}{X:Cx}
end
end L2


namespace L2
open PySem PySem.Spec PySem.Calls PyProof.Rows PyProof.V
section
variable{K:aA}{X:Cx}{a e0 eM:Expr}{es:List Expr}{t0 tM:TE}{f0:FE}{gM:GM}{tA:TA}{fs:FA}{pos:Pos}{i:Nat}
end
end L2


namespace L2
open PySem PySem.Spec PySem.Calls PyProof.Rows PyProof.V
section
variable{K:aA}{X:Cx}{e1 e2:Expr}{t1 t2 te:TE}{f g fe:FE}{tc:TT}{fc:FT}{pos p p2:Pos}{x:Str}
end
end L2


namespace L2
open PySem PySem.Spec PySem.Calls PyProof.Rows PyProof.V
inductive Ap where
  | ch (i:Nat) (π:FP) | rd (f:FE) | nw (f:FE)
def GF:List Ap→DE→Option (List (Nat×List Step))
 | [],_=>some []
 | .ch i π::as,e=>(π e).bind λp=>(GF as e).map λr=>(i,p)::r
 | .rd _::as,e=>GF as e
 | .nw _::as,e=>GF as e
def GJ:List Ap→DE→DE→Option (List D)
 | [],_,_=>some []
 | .ch _ _::as,eF,eZ=>GJ as eF eZ
 | .rd f::as,eF,eZ=>(f eZ).bind λd=>(GJ as eF eZ).map λr=>d::r
 | .nw f::as,eF,eZ=>(f eF).bind λd=>(GJ as eF eZ).map λr=>d::r
def El(K:aA)(Z:Hp):List Ap→List V→List D→List V→Prop
 | [],cv,ds,vs=>cv=[]∧ds=[]∧vs=[]
 | .ch _ _::as,cv,ds,vs=>∃v cr r,cv=v::cr∧vs=v::r∧El K Z as cr ds r
 | .rd _::as,cv,ds,vs=>∃d dr v r,ds=d::dr∧vs=v::r∧Rv K Z d v∧El K Z as cv dr r
 | .nw _::as,cv,ds,vs=>∃d dr v r,ds=d::dr∧vs=v::r∧Rv K Z d v∧El K Z as cv dr r
def QC(σ:St)(H:Hp):List (Nat×List Step)→List V→Prop
 | [],vs=>vs=[]
 | (j,p)::js,vs=>∃v0 v r,vs=v::r∧σ[j]?=some (some v0)∧Ih H p v0=some v∧QC σ H js r
section
variable{K:aA}{X:Cx}{e:Expr}{es:List Expr}{te:TE}{f:FE}{tA:TA}{as:List Ap}{pos:Pos}{i:Nat}{π:FP}
def KH(K:aA)(t:TA)(as:List Ap):Prop:=∀(A1:Fp)(σ:St)(H:Hp)(eF eZ:DE)(ds:List D)(ps:List (Nat×List Step))(cv:List V)(Q:List V→Hp→Prop),(∀x,A1 x→iC H x)→iG K H eF σ→iG K (out H A1) eZ σ→GF as eF=some ps→QC σ H ps cv→GJ as eF eZ=some ds →
 (∀vs H',aD H H'→El K (out H' A1) as cv ds vs→Q vs H')→t σ H Q
structure YF(K:aA)(X:Cx)(es:List Expr)(t:TA)(as:List Ap):Prop where
 hk:X.K=K
 pa:PA X es t
 ev:KH K t as
end
section
variable{K:aA}{H H' Z Z' B:Hp}{σ:St}
end
section
variable{K:aA}{X:Cx}{e:Expr}{es:List Expr}{tA:TA}{as:List Ap}{pos pf:Pos}
end
section
variable{K:aA}{X:Cx}{a b e:Expr}{ta tb te:TE}{g:FE}{gm:GM}{i:Nat}{π:FP}{pos pos':Pos}
end
end L2


namespace L2
open PySem PySem.Spec PySem.Calls PyProof.Rows PyProof.V
section
variable{K:aA}{te:TE}{f:FE}{i:Nat}{c:Int}
end
end L2


namespace L2
open PySem PySem.Spec PySem.Calls PyProof.Rows PyProof.V HT
section
variable{X:Cx}{K:aA}{e:Expr}{t:TE}{f:FE}{x y:Str}{p p2 pos pos2:Pos}
end
end L2


namespace L2
open PySem PySem.Spec PySem.Calls PyProof.Rows PyProof.V
def CK(base:Heap)(l:List Env)(e:Addr)(cls a0:Value)(h:Heap):Prop:=base.StaysIn h∧base.get? e=none∧h.FunFrames base l∧∃fl,h.TracedAtW base e cls a0 fl
section
variable{M:Model}{A:Around}{E:Value→Shared→Prop}{s:Shared}{base:Heap}{env:Env}{outer l:List Env}{L e:Addr}{cls a0:Value}
end
structure Hl(l:List Env)(s1:Shared)(e:Addr)(cls:Value)(s':Shared):Prop where
 held:∃a0,CK (BX s1.heap l) l e cls a0 s'.heap
 up:s1.heap.UpToSlots s'.heap
 os:s'.os=s1.os
 bare:AllBare s'.gens
section
variable{P:Program}{w:World}{K:aA}{mg:Str→Option Value}{base:Heap}{N:List Str}{qual:Str}{scope:Scope}{f:Addr}{cd:Value}{A:Around}{outer:List Env}{s0:Shared}{H0:Hp}{E:XK}
end
section
variable{X:Cx}{EE:XK}
end
section
variable{K:aA}{κ:Nat→Addr}{X:Cx}{E:XK}
end
section
variable{K:aA}{κ:Nat→Addr}{X:Cx}{E:XK}{a e:Expr}{ta tz:TE}{f:FE}{z:DE→Option Nat}{pos:Pos}
end
end L2


namespace L2
open PySem PySem.Spec PySem.Calls PyProof.Rows PyProof.V
section
variable{K:aA}{te:TE}{f:FE}{tc:TT}{c:FT}{i j:Nat}
end
end L2


namespace L2
open PySem PySem.Spec PySem.Calls PyProof.Rows PyProof.V
section
variable{M:Model}{A:Around}{E:Value→Shared→Prop}{s:Shared}
end
structure Yj(mG scope:Scope)(oN N:List Str)(k:Nat)(fr:List Nat):Prop where
 kind:scope.kind=.function
 loc:∀y∈scope.names,y.2=.local→scope.names.lookup y.1=some .local
 free:∀y∈scope.names,y.2=.free→mG.names.lookup y.1=some .cell∨mG.names.lookup y.1=some .free
 len:N.length=k+fr.length
 slots:∀j∈D6 fr.length,oN[fr.getD j 0]?=N[k+j]?
 from_:∀x∈N.drop k,(x,NameKind.free)∈scope.names∧((cP scope mG).names.lookup x=some .cell∨(cP scope mG).names.lookup x=some .free)
 apart:∀y∈scope.names,y.2=.free→(y.1,NameKind.cell)∉scope.names
def KJ(mG scope:Scope)(oN N:List Str)(k:Nat)(fr:List Nat):Bool:=
 decide (scope.kind=.function)&&decide (∀y∈scope.names,y.2=.local→scope.names.lookup y.1=some .local) &&
 decide (∀y∈scope.names,y.2=.free→mG.names.lookup y.1=some .cell∨mG.names.lookup y.1=some .free)&&decide (N.length=k+fr.length) &&
 decide (∀j∈D6 fr.length,oN[fr.getD j 0]?=N[k+j]?) &&
 decide (∀x∈N.drop k,(x,NameKind.free)∈scope.names∧((cP scope mG).names.lookup x=some .cell∨(cP scope mG).names.lookup x=some .free)) &&
 decide (∀y∈scope.names,y.2=.free→(y.1,NameKind.cell)∉scope.names)
section
variable{X:Cx}
end
section
variable{K:aA}{X:Cx}{tc:TT}{fc:FT}{pos:Pos}
end
end L2


namespace L2
open PySem PySem.Spec PySem.Calls PyProof.Rows PyProof.V
section
variable{prog:Program}{w:World}{A:Around}{E:Value→Shared→Prop}{s:Shared}{it d:Addr}{i ep:Nat}{es:Array DictEntry}{od:Obj}
end
section
variable{X:Cx}
end
end L2


namespace L2
open PySem PySem.Spec PySem.Calls PyProof.Rows PyProof.V
section
variable{K:aA}{B H:Hp}{env:EN}{σ:St}
end
section
variable{K:aA}{t h:Nat}{tb:TS}{tb':Int→TS}{body:Int→GS}
end
section
variable{K:aA}{t h j:Nat}{tA:TA}{fs:FA}
end
section
variable{K:aA}{X:Cx}{t h j c i:Nat}{π:FP}{ta YG:TE}{g:FE}{tA:TA}{fs:FA}{tg o o2 hn cn two a b val:Expr}{es:List Expr}{st1 st2:Stmt}{pos pos' p1 p2 p3 p4:Pos}{x1:Nat}
end
end L2


namespace L2
open PySem PySem.W PyProof.Rows
def fP{α:Type}(N:Nat)(lt:Nat→Nat→Bool):KasT α→(α→Prop)→Prop
 | .ret a,Q=>Q a
 | .ask i j k,Q=>i<N∧j<N∧fP N lt (k (lt i j)) Q
theorem dF{α β:Type}{N:Nat}{lt:Nat→Nat→Bool}{f:α→KasT β}{Q:β→Prop}:∀t:KasT α,fP N lt (t.bind f) Q=fP N lt t λa=>fP N lt (f a) Q
 | .ret _=>rfl
 | .ask i j k=>by
  show (i<N∧j<N∧fP N lt ((k (lt i j)).bind f) Q)=(i<N∧j<N∧fP N lt (k (lt i j)) _)
  rw[dF (k (lt i j))]
theorem bQ{α:Type}{N:Nat}{lt:Nat→Nat→Bool}{Q Q':α→Prop}(h:∀a,Q a→Q' a):∀t:KasT α,fP N lt t Q→fP N lt t Q'
 | .ret a,q=>h a q
 | .ask i j k,q=>⟨q.1,q.2.1,bQ h (k (lt i j)) q.2.2⟩
theorem Em{α:Type}{N:Nat}{lt:Nat→Nat→Bool}{cmp:Nat→Nat→(Bool→Shared→Prop)→Shared→Prop}{Q:α→Shared→Prop}{s:Shared}(hc:∀i j (C:Bool→Shared→Prop),i<N→j<N→C (lt i j) s→cmp i j C s):∀t:KasT α,fP N lt t (λa=>Q a s)→t.kasWp cmp Q s
 | .ret a,q=>q
 | .ask i j k,q=>hc i j _ q.1 q.2.1 (Em hc (k (lt i j)) q.2.2)
section
variable{N:Nat}(key:Nat→Int)
theorem wY{p:Array Nat}(h0:0<N)(hb:∀x∈p.toList,x<N)(k:Nat):p.getD k 0<N:=by
 rw[F3]
 cases e:p[k]? with
 | none=>exact h0
 | some x=>exact hb x (E8 (by rw[L7];exact e))
abbrev Bo(i j:Nat):Bool:=decide (key i<key j)
abbrev kA(p:Array Nat)(k:Nat):Int:=key (p.getD k 0)
def Qt(p:Array Nat)(m:Nat):Prop:=∀i j,i≤j→j<m→kA key p i≤kA key p j
theorem iT{p q:Array Nat}{i j:Nat}(h:p[i]?=q[j]?):kA key p i=kA key q j:=by
 unfold kA
 rw[F3,F3,h]
theorem En{p:Array Nat}{m:Nat}(h:∀k,1≤k→k<m→kA key p (k-1)≤kA key p k):Qt key p m:=by
 intro i j hij hj
 induction j with
 | zero=>rw[Nat.le_zero.mp hij];exact S3 _
 | succ j ih=>
  rcases G9 i (j+1)with z | z
  ·have a:=ih (by omega) (by omega)
   have b:=h (j+1) (by omega) hj
   rw[Nat.add_sub_cancel]at b
   omega
  ·rw[show i=j+1 by omega];exact S3 _
theorem Bp{p:Array Nat}(hb:∀k,p.getD k 0<N):∀f n,1≤n→fP N (Bo key) (kas_asc p f n) λm=>n≤m∧m≤n+f∧(∀k,n≤k→k<m→kA key p (k-1)≤kA key p k)∧(m<n+f→kA key p m<kA key p (m-1))
 | 0,n,_=>⟨B6 _,B6 _,λk a b=>by omega,λh=>by omega⟩
 | f+1,n,h1=>by
  refine⟨hb _,hb _,?_⟩
  show fP N (Bo key) (if decide (kA key p n<kA key p (n-1))=true then KasT.ret n else kas_asc p f (n+1)) _
  by_cases c:kA key p n<kA key p (n-1)
  ·rw[if_pos (decide_eq_true c)]
   exact⟨B6 _,S7 _ _,λk a b=>by omega,λ_=>c⟩
  ·rw[if_neg (by rw[decide_eq_false c];exact C6)]
   refine bQ (λm h=>?_) _ (Bp hb f (n+1) (by omega))
   obtain⟨a,b,d,e⟩:=h
   refine⟨by omega,by omega,λk hk hm=>?_,λq=>e (by omega)⟩
   rcases G9 n k with z | z
   ·exact d k z hm
   ·rw[show k=n by omega];omega
theorem Eo{p:Array Nat}(hb:∀k,p.getD k 0<N)(hd:∀i j,i<p.size→j<p.size→i≠j→kA key p i≠kA key p j):∀f n,1≤n→n+f≤p.size→fP N (Bo key) (kas_desc f p n 0) λr=>r.1=p∧r.2.2=0∧n≤r.2.1∧r.2.1≤n+f∧∀k,n≤k→k<r.2.1→kA key p k<kA key p (k-1)
 | 0,n,_,_=>⟨rfl,rfl,B6 _,B6 _,λk a b=>by dsimp only at b;omega⟩
 | f+1,n,h1,h2=>by
  unfold kas_desc
  refine⟨hb _,hb _,?_⟩
  show fP N (Bo key) (if decide (kA key p n<kA key p (n-1))=true then(if 0 > 0 then kas_desc f (kas_rev p (n-(0+1)) n) (n+1) 0 else kas_desc f p (n+1) 0)else KasT.ask (p.getD (n-1) 0) (p.getD n 0) λd=>if d=true then .ret (p,n,0)else kas_desc f p (n+1) (0+1)) _
  by_cases c:kA key p n<kA key p (n-1)
  ·rw[if_pos (decide_eq_true c),if_neg (by omega)]
   refine bQ (λr h=>?_) _ (Eo hb hd f (n+1) (by omega) (by omega))
   obtain⟨a,b,d,e,g⟩:=h
   refine⟨a,b,by omega,by omega,λk hk hm=>?_⟩
   rcases G9 n k with z | z
   ·exact g k z hm
   ·rw[show k=n by omega];exact c
  ·rw[if_neg (by rw[decide_eq_false c];exact C6)]
   refine⟨hb _,hb _,?_⟩
   show fP N (Bo key) (if decide (kA key p (n-1)<kA key p n)=true then KasT.ret (p,n,0)else kas_desc f p (n+1) (0+1)) _
   have ne:=hd (n-1) n (by omega) (by omega) (by omega)
   rw[if_pos (decide_eq_true (by omega))]
   exact⟨rfl,rfl,B6 _,S7 _ _,λk a b=>by dsimp only at b;omega⟩
theorem Ky{p:Array Nat}{m k:Nat}(hm:m≤p.size):(kas_rev p 0 m)[k]?=if k<m then p[m-1-k]? else p[k]?:=by
 unfold kas_rev
 rw[getElem?_mirror_all hm]
 by_cases c:k<m
 ·rw[if_pos ⟨F9 _,c⟩,if_pos c,M5]
 ·rw[if_neg (λz=>c z.2),if_neg c]
theorem Kz{p:Array Nat}(h0:0<N)(hx:∀x∈p.toList,x<N)(h1:1≤p.size)(hd:∀i j,i<p.size→j<p.size→i≠j→kA key p i≠kA key p j):fP N (Bo key) (kas_count p.size p) λr=>r.2.Perm p∧1≤r.1∧r.1≤p.size∧Qt key r.2 r.1:=by
 have hb:=wY h0 hx
 unfold kas_count
 rw[dF]
 refine bQ (λn h=>?_) _ (Bp key hb (p.size-1) 1 (B6 _))
 obtain⟨a,b,c,d⟩:=h
 have hs:Qt key p n:=En key λk x y=>c k x y
 by_cases e:(n==p.size)=true
 ·rw[if_pos e]
  exact⟨P2 _,a,by omega,hs⟩
 ·rw[if_neg e]
  have ne:n≠p.size:=λz=>e (by rw[z];exact beq_self_eq_true _)
  by_cases g:n > 1
  ·rw[if_pos g]
   have hl:=hs 0 (n-1) (by omega) (by omega)
   have hn:=hd 0 (n-1) (by omega) (by omega) (by omega)
   refine⟨hb _,hb _,?_⟩
   show fP N (Bo key) (if decide (kA key p 0<kA key p (n-1))=true then KasT.ret (n,p)else kas_descPart n p.size (kas_rev p 0 n)) _
   rw[if_pos (decide_eq_true (by omega))]
   exact⟨P2 _,a,by omega,hs⟩
  ·rw[if_neg g]
   obtain rfl:n=1:=by omega
   have hdn:=d (by omega)
   unfold kas_descPart
   rw[dF]
   refine bQ (λr h=>?_) _ (Eo key hb hd (p.size-(1+1)) (1+1) (by omega) (by omega))
   obtain⟨q,m,z⟩:=r
   obtain⟨e1,e2,m1,m2,m3⟩:=h
   dsimp only at e1 e2 m1 m2 m3 ⊢
   subst e1 e2
   rw[if_neg (by omega)]
   unfold kas_tail3
   rw[dF]
   refine bQ (λn' h=>?_) _ (Bp key (p:=kas_rev q 0 m) (wY h0 λx z=>hx x ((mirror_perm q 0 m ((m-0)/2)).toList.mem_iff.mp z)) (q.size-m) m (by omega))
   obtain⟨a',b',c',_⟩:=h
   have hm:m≤q.size:=by omega
   refine⟨mirror_perm _ _ _ _,by omega,by omega,En key λk x y=>?_⟩
   rcases G9 k m with w | w
   ·rw[iT key (show (kas_rev q 0 m)[k-1]?=q[m-1-(k-1)]? by rw[Ky hm,if_pos (by omega)]),iT key (show (kas_rev q 0 m)[k]?=q[m-1-k]? by rw[Ky hm,if_pos w])]
    have hh:kA key q (m-1-(k-1))<kA key q (m-1-(k-1)-1):=by
     rcases G9 (m-1-(k-1)) 2 with v | v
     ·rw[show m-1-(k-1)=1 by omega];exact hdn
     ·exact m3 _ v (by omega)
    rw[show m-1-(k-1)-1=m-1-k by omega]at hh
    omega
   ·exact c' k w y
theorem rN{p:Array Nat}{k:Nat}(hb:∀k,p.getD k 0<N)(hs:Qt key p k):∀f l r,l≤r→r≤k→r-l≤f→(∀j,j<l→kA key p j≤kA key p k)→(∀j,r≤j→j<k→kA key p k<kA key p j)→fP N (Bo key) (kas_place p k f l r) λm=>m≤k∧(∀j,j<m→kA key p j≤kA key p k)∧∀j,m≤j→j<k→kA key p k<kA key p j
 | 0,l,r,h1,h2,h3,h4,h5=>⟨by omega,h4,λj a b=>h5 j (by omega) b⟩
 | f+1,l,r,h1,h2,h3,h4,h5=>by
  unfold kas_place
  by_cases c:l≥r
  ·rw[if_pos c]
   exact⟨by omega,h4,λj a b=>h5 j (by omega) b⟩
  ·rw[if_neg c]
   refine⟨hb _,hb _,?_⟩
   show fP N (Bo key) (if decide (kA key p k<kA key p ((l+r)/2))=true then kas_place p k f l ((l+r)/2)else kas_place p k f ((l+r)/2+1) r) _
   by_cases d:kA key p k<kA key p ((l+r)/2)
   ·rw[if_pos (decide_eq_true d)]
    refine rN hb hs f l ((l+r)/2) (by omega) (by omega) (by omega) h4 λj a b=>?_
    have:=hs ((l+r)/2) j a b
    omega
   ·rw[if_neg (by rw[decide_eq_false d];exact C6)]
    refine rN hb hs f ((l+r)/2+1) r (by omega) h2 (by omega) (λj a=>?_) h5
    have:=hs j ((l+r)/2) (by omega) (by omega)
    omega
theorem La(h0:0<N):∀f (p:Array Nat) k,(∀x∈p.toList,x<N)→k+f=p.size→Qt key p k→fP N (Bo key) (kas_bin f p k) λp'=>p'.Perm p∧Qt key p' p.size
 | 0,p,k,hx,h1,h2=>⟨P2 _,by rw[←h1];exact h2⟩
 | f+1,p,k,hx,h1,h2=>by
  unfold kas_bin
  rw[dF]
  refine bQ (λl h=>?_) _ (rN key (wY h0 hx) h2 k 0 k (F9 _) (B6 _) (B6 _) (λj a=>by omega) λj a b=>by omega)
  obtain⟨a,b,c⟩:=h
  have hk:k<p.size:=by omega
  have hat:=λj=>getElem?_bubble hk (k-l) (by omega) j
  rw[show k-(k-l)=l by omega]at hat
  have hs:Qt key (bubble p k (k-l)) (k+1):=by
   have at1:kA key (bubble p k (k-l)) l=kA key p k:=iT key (by rw[hat,if_pos rfl])
   have at2:∀j,l<j→j≤k→kA key (bubble p k (k-l)) j=kA key p (j-1):=λj x y=>iT key (by rw[hat,if_neg (by omega),if_pos ⟨x,y⟩])
   have QD:∀j,j<l→kA key (bubble p k (k-l)) j=kA key p j:=λj x=>iT key (by rw[hat,if_neg (by omega),if_neg (by omega)])
   intro i j hij hj
   rcases N8 i l with x | x | x
   ·rw[QD i x]
    rcases N8 j l with y | y | y
    ·rw[QD j y];exact h2 i j hij (by omega)
    ·rw[y,at1];exact b i x
    ·rw[at2 j y (by omega)];exact h2 i (j-1) (by omega) (by omega)
   ·rw[x,at1]
    rcases N8 j l with y | y | y
    ·omega
    ·rw[y,at1];exact S3 _
    ·rw[at2 j y (by omega)];exact Int.le_of_lt (c (j-1) (by omega) (by omega))
   ·rw[at2 i x (by omega),at2 j (by omega) (by omega)]
    exact h2 (i-1) (j-1) (by omega) (by omega)
  have hz:(bubble p k (k-l)).size=p.size:=bubble_size _ _ _
  refine bQ (λp' h=>?_) _ (La h0 f (bubble p k (k-l)) (k+1) (λx z=>hx x ((bubble_perm p k (k-l)).toList.mem_iff.mp z)) (by omega) hs)
  exact⟨h.1.trans (bubble_perm _ _ _),by rw[←hz];exact h.2⟩
theorem Qu{n:Nat}(h1:1≤n)(hk:∀i j,i<n→j<n→i≠j→key i≠key j):fP n (Bo key) (kas_sort n) λp=>p.toList.Perm (D6 n)∧Qt key p n:=by
 have hz:(O3 (D6 n)).size=n:=by rw[B0,G6]
 have hg:∀i,i<n→(O3 (D6 n)).getD i 0=i:=λi hi=>by
  rw[F3,Q1,R0 hi]
  rfl
 have hc:=Kz (N:=n) key (p:=O3 (D6 n)) h1 (λx hx=>by simpa using hx) (by omega) λi j hi hj hne=>by
  unfold kA
  rw[hg i (by omega),hg j (by omega)]
  exact hk i j (by omega) (by omega) hne
 unfold kas_sort
 rw[dF]
 rw[hz]at hc
 refine bQ (λr h=>?_) _ hc
 obtain⟨m,q⟩:=r
 obtain⟨a,b,c,d⟩:=h
 dsimp only at a b c d ⊢
 have hq:q.size=n:=a.size_eq.trans hz
 have hp:q.toList.Perm (D6 n):=by
  have:=a.toList
  simpa using this
 by_cases e:m<n
 ·rw[if_pos e,show max m 1=m by omega]
  refine bQ (λp' h=>?_) _ (La key h1 (n-m) q m (λx hx=>by simpa using hp.mem_iff.mp hx) (by omega) d)
  exact⟨h.1.toList.trans hp,by rw[←hq];exact h.2⟩
 ·rw[if_neg e]
  obtain rfl:m=n:=by omega
  exact⟨hp,d⟩
end
end L2


namespace L2
open PySem PySem.W PySem.Spec PyProof.Rows
def mH(h:Heap):List Value→List (Int×Int)→Prop
 | [],ps=>ps=[]
 | v::vs,ps=>∃p qs,ps=p::qs∧(∃a t u,v=.ref a∧IsTup h a #[.int p.1 t,.int p.2 u])∧mH h vs qs
theorem mH.length{h:Heap}:∀{vs:List Value} {ps:List (Int×Int)},mH h vs ps→vs.length=ps.length
 | [],ps,x=>by unfold mH at x;rw[x];rfl
 | v::vs,ps,x=>by
  unfold mH at x
  obtain⟨p,qs,rfl,_,r⟩:=x
  rw[F0,F0,r.length]
theorem mH.at_{h:Heap}:∀{vs:List Value} {ps:List (Int×Int)} {i:Nat},mH h vs ps→i<vs.length→∃a t u,vs.getD i .none=.ref a∧IsTup h a #[.int (ps.getD i (0,0)).1 t,.int (ps.getD i (0,0)).2 u]
 | [],ps,i,_,hi=>by simp at hi
 | v::vs,ps,0,x,_=>by
  unfold mH at x
  obtain⟨p,qs,rfl,⟨a,t,u,rfl,y⟩,_⟩:=x
  exact⟨a,t,u,rfl,y⟩
 | v::vs,ps,i+1,x,hi=>by
  unfold mH at x
  obtain⟨p,qs,rfl,_,r⟩:=x
  obtain⟨a,t,u,e,y⟩:=r.at_ (i:=i) (by simpa using hi)
  exact⟨a,t,u,e,y⟩
theorem mH.keeps{h h':Heap}:∀{vs:List Value} {ps:List (Int×Int)},mH h vs ps→(∀a o,h.get? a=some o→o.cls=.type "tuple" → h'.get? a=some o)→mH h' vs ps
 | [],ps,x,_=>by unfold mH at x ⊢;exact x
 | v::vs,ps,x,k=>by
  unfold mH at x ⊢
  obtain⟨p,qs,e,⟨a,t,u,e2,o,ho,hc,hd⟩,r⟩:=x
  exact⟨p,qs,e,⟨a,t,u,e2,o,k a o ho hc,hc,hd⟩,r.keeps k⟩
theorem mH.tups{h:Heap}:∀{vs:List Value} {ps:List (Int×Int)},mH h vs ps→∃fs,KatTups h vs fs∧fs.length=vs.length∧∀v∈fs,∃i t,v=Value.int i t
 | [],ps,x=>⟨[],KatTups.nil,rfl,λv hv=>by cases hv⟩
 | v::vs,ps,x=>by
  unfold mH at x
  obtain⟨p,qs,e,⟨a,t,u,rfl,o,ho,hc,n,hd⟩,r⟩:=x
  obtain⟨fs,k,l,m⟩:=r.tups
  refine⟨.int p.1 t::fs,KatTups.cons ho hc hd rfl k,by rw[F0,F0,l],λw hw=>?_⟩
  rcases E3.mp hw with z | z
  ·exact⟨_,_,z⟩
  ·exact m w z
section
variable{prog:Program}{w:World}{A:Around}{E:Value→Shared→Prop}{s:Shared}{vs:List Value}{ps:List (Int×Int)}
abbrev tR(ps:List (Int×Int))(i:Nat):Int:=(ps.getD i (0,0)).1
theorem Wu{i j:Nat}{C:Bool→Shared→Prop}(hp:mH s.heap vs ps)(hk:∀i j,i<vs.length→j<vs.length→i≠j→tR ps i≠tR ps j)(hi:i<vs.length)(hj:j<vs.length)(h:C (Bo (tR ps) i j) s) :
  kas_ask prog w A (tuples' true) vs i j C s:=by
 obtain⟨a,t,u,e1,o1,ho1,hc1,n1,hd1⟩:=hp.at_ hi
 obtain⟨b,t',u',e2,o2,ho2,hc2,n2,hd2⟩:=hp.at_ hj
 unfold kas_ask
 rw[e1,e2]
 refine kat_lt ho1 hd1 ho2 hd2 ?_
 refine kat_cons (wpAny_eqBool_int ?_)
 by_cases c:i=j
 ·subst c
  rw[beq_self_eq_true]
  refine kat_yes (kat_cons (wpAny_eqBool_int ?_))
  rw[beq_self_eq_true]
  refine kat_yes (kat_nil ?_)
  have e:Bo (tR ps) i i=decide ((#[Value.int (ps.getD i (0,0)).1 t,Value.int (ps.getD i (0,0)).2 u]:Array Value).size<(#[Value.int (ps.getD i (0,0)).1 t',Value.int (ps.getD i (0,0)).2 u']:Array Value).size):=by
   unfold Bo
   rw[decide_eq_false (Int.lt_irrefl _)]
   rfl
  rw[←e]
  exact h
 ·have ne:=hk i j hi hj c
  rw[beq_eq_false_iff_ne.mpr ne]
  exact kat_no (oneLt_int h)
theorem Qv(vs:List Value):(arrOf (SortSt.mk' general' (vs.toArray.zip vs.toArray) #[] 7 none)).map (·.2)=((D6 vs.length).map λi=>vs.getD i Value.none).toArray:=by
 have hz:(vs.toArray.zip vs.toArray).size=vs.length:=by rw[Array.size_zip,B0,O2]
 have e:=kas_range (vs.toArray.zip vs.toArray)
 rw[hz]at e
 have h:=kat_snds (ks:=vs) (vs:=vs) rfl (st:=SortSt.mk' general' (vs.toArray.zip vs.toArray) #[] 7 none) (p:=O3 (D6 vs.length)) e.symm
 exact h
theorem jX{a:Addr}{n:Nat}{P:PySem.Fin→Shared→Prop}(ho:s.heap.get? a=some (seqObj "list" vs.toArray n)) (hp:mH s.heap vs ps) (hk:∀i j,i<vs.length→j<vs.length→i≠j→tR ps i≠tR ps j) (h64:vs.length<64)
  (h:∀p:List Nat,p.Perm (D6 vs.length)→(p.map (tR ps)).Pairwise (·≤·)→P (.done (.ret .none)) {s with heap:=sortedHeap s.heap a vs (p.map λi=>vs.getD i Value.none).toArray}) :
  wpAny (model prog w) A (Builtin.«list.sort» ⟨[.ref a],[]⟩) P E s:=by
 rw[list_sort_plain]
 have ha:a<s.heap.objs.size:=Heap.lt_size ho
 refine wpAny_bind (listItems_at ho rfl ?_)
 refine wpAny_bind (listUpdate_at ho rfl ?_ (by rw[B0,sizeLine_eq];omega) (F9 _))
 obtain⟨e1,ho1⟩:∃e1,(s.heap.update a (Obj.mapSeq λ_=>(#[]:Array Value))).get? a=some (seqObj "list" #[] e1):=⟨_,get?_update_seq ho (λ_=>#[])⟩
 refine wpAny_bind (seqEpoch_at ho1 rfl ?_)
 refine wpAny_bind (wpAny_newTuple ?_ (by show vs.length≤_;rw[sizeLine_eq];omega))
 refine wpAny_bind (wpAny_newList ?_ (F9 _))
 refine wpAny_holding ?_
 have ho6:(((s.heap.update a (Obj.mapSeq λ_=>(#[]:Array Value))).push (seqObj "tuple" vs.toArray 0)).push (seqObj "list" #[] 0)).get? a=some (seqObj "list" #[] e1):=by
  rw[Heap.get?_push_ne _ _ _ (by rw[size_push',Heap.size_update];exact C3 (F5 ha)),Heap.get?_push_ne _ _ _ (by rw[Heap.size_update];exact C3 ha)]
  exact ho1
 have QF:mH (((s.heap.update a (Obj.mapSeq λ_=>(#[]:Array Value))).push (seqObj "tuple" vs.toArray 0)).push (seqObj "list" #[] 0)) vs ps:=hp.keeps λb o e c=>by
  have ne:b≠a:=λz=>by
   subst z
   rw[ho]at e
   cases e
   exact absurd (show Value.type "list" = Value.type "tuple" from c) (by decide)
  exact Heap.get?_push_of_some _ (Heap.get?_push_of_some _ ((Heap.get?_update_ne _ _ _ _ ne).trans e))
 show wpAny (model prog w) A _ P E {s with heap:=((s.heap.update a (Obj.mapSeq λ_=>(#[]:Array Value))).push (seqObj "tuple" vs.toArray 0)).push (seqObj "list" #[] 0)}
 dsimp only
 by_cases h2:vs.toArray.size<2
 ·rw[if_pos h2,if_pos h2]
  have h2':vs.length<2:=by rw[B0]at h2;exact h2
  have hout:=Qv vs
  refine wpAny_bind (wpAny_pure ?_)
  rw[StateT.run_pure]
  refine wpAny_bind (wpAny_pure ?_)
  dsimp only
  rw[hout]
  refine wpAny_bind (seqEpoch_at ho6 rfl ?_)
  refine wpAny_bind (listUpdate_at ho6 rfl ?_ (F9 _) (by rw[B0,B4,G6,sizeLine_eq];omega))
  simp only[bne_self_eq_false,N0,if_false]
  refine wpAny_pure (h (D6 vs.length) (Q2 _) ?_)
  rw[J2,K5]
  intro i j hi hj hij
  rw[G6]at hi hj
  omega
 ·rw[if_neg h2,if_neg h2]
  have h2':2≤vs.length:=by rw[B0]at h2;omega
  obtain⟨fs,hf1,hf2,TY⟩:=QF.tups
  refine wpAny_bind (kat_kind (T:=.type "int") hf1 (by omega) (λv hv=>?_) rfl ?_)
  ·obtain⟨i,t,rfl⟩:=TY v hv
   exact Looks.of_pure rfl
  show wpAny _ _ (sortRuns'.run (SortSt.mk' (tuples' true) (vs.toArray.zip vs.toArray) #[] 7 none) >>= _) _ _ _
  refine wpAny_bind (wpAny_mono (kat_run (E:=E) (Q:=λst' s'=>∃p:Array Nat,p.size=vs.length∧arrOf st'=p.map (kas_item (vs.toArray.zip vs.toArray))∧failedOf st'=none∧(s'={s with heap:=((s.heap.update a (Obj.mapSeq λ_=>(#[]:Array Value))).push (seqObj "tuple" vs.toArray 0)).push (seqObj "list" #[] 0)}∧p.toList.Perm (D6 vs.length)∧Qt (tR ps) p vs.length))
   rfl h2' h64 (λp' st' s' a1 a2 a3 a4=>⟨p',a1,a2,a3,a4⟩) (Em (lt:=Bo (tR ps)) (N:=vs.length) (λi j C hi hj q=>Wu QF hk hi hj q) _ (bQ (λp q=>⟨rfl,q.1,q.2⟩) _ (Qu (tR ps) (by omega) hk)))) ?_ λ_ _ e=>e)
  rintro⟨⟨⟩,st'⟩ s' ⟨p,hz,har,hf,rfl,hpm,hs⟩
  dsimp only
  have hout:=kat_snds rfl har
  rw[hout]
  refine wpAny_bind (seqEpoch_at ho6 rfl ?_)
  refine wpAny_bind (listUpdate_at ho6 rfl ?_ (F9 _) (by rw[B0,B4,K2,hz,sizeLine_eq];omega))
  rw[hf]
  simp only[bne_self_eq_false,N0,if_false]
  refine wpAny_pure (h p.toList hpm ?_)
  rw[J2,K5]
  intro i j hi hj hij
  have:=hs i j (by omega) (by rw[K2,hz]at hj;exact hj)
  unfold kA at this
  rw[F3,F3,←L7,←L7,A9 hi,A9 hj]at this
  exact this
end
end L2


namespace L2
open PySem PySem.W PySem.Spec PyProof.Rows
section
variable{X:Cx}{pins:List (Addr×Obj)}{σ:List (Option V)}{H H':Hp}{s:Shared}{h':Heap}
theorem Inv.more{t':Nat}(I:Inv X pins σ H s)(k:∀b u,s.heap.get? b=some u→h'.get? b=some u)(ho:∀b,b<s.heap.objs.size→H' b=H b)(new:∀b o,s.heap.objs.size≤b→H' b=some o→bN X.prog X.w H' h' b o):Inv X pins σ H' {s with heap:=h',toks:=t'}:=by
 have st:∀{b:Addr} {o:HO},H b=some o→H' b=some o:=λ{b o} e=>by rw[ho b (I.hok.lt e)];exact e
 refine I.un ⟨λb o e _ _ _=>k b o e,λb o e _ _ _=>⟨o.slots,k b o e⟩,λb o e n _=>by rw[ho b (Heap.lt_size e)];exact n,λb o e _=>⟨o,k b o e⟩,λb xs e=>st e,λb o u e=>st e,λb ps e=>⟨#[],by rw[st e];simp⟩⟩ λb o e=>?_
 rcases G9 b s.heap.objs.size with z | z
 ·rw[ho b z]at e
  exact(I.hok b o e).stay (λc v _ q=>k c v q) (λc q=>st q) λc xs q=>st q
 ·exact new b o z e
end
abbrev pD(p:Int×Int):D:=.tup [.int p.1,.int p.2]
def jY:List D→Option (List (Int×Int))
 | []=>some []
 | .tup [.int a,.int b]::ds=>(jY ds).map ((a,b)::·)
 | _=>none
theorem kZ:∀{ds:List D} {ps:List (Int×Int)},jY ds=some ps→ds=ps.map pD
 | [],ps,h=>by unfold jY at h;cases h;rfl
 | d::ds,ps,h=>by
  unfold jY at h
  split at h
  ·rename_i e;cases e
  ·rename_i e
   cases e
   obtain⟨qs,q1,rfl⟩:=cR h
   rw[kZ q1]
   rfl
  ·cases h
theorem fQ:∀ps:List (Int×Int),D.bM (ps.map pD)=true
 | []=>rfl
 | p::ps=>by
  rw[B3]
  unfold D.bM
  rw[fQ ps]
  rfl
def bA(ps:List (Int×Int)):List (Int×Int):=ps.mergeSort λa b=>decide (a.1≤b.1)
theorem cU(ps:List (Int×Int)):(bA ps).Perm ps:=List.mergeSort_perm _ _
theorem rO(ps:List (Int×Int)):((bA ps).map (·.1)).Pairwise (·≤·):=by
 have h:=List.pairwise_mergeSort (le:=λa b:Int×Int=>decide (a.1≤b.1)) (λa b c h1 h2=>decide_eq_true (Int.le_trans (of_decide_eq_true h1) (of_decide_eq_true h2))) (λa b=>by
  rw[Bool.or_eq_true,decide_eq_true_iff,decide_eq_true_iff];exact Int.le_total _ _) ps
 rw[J2]
 exact h.imp λh=>of_decide_eq_true h
theorem Ep:∀{l m:List (Int×Int)},(l.map (·.1)).Pairwise (·≤·)→(m.map (·.1)).Pairwise (·≤·)→(l.map (·.1)).Nodup→l.Perm m→l=m
  | [],m,_,_,_,p=>(List.Perm.nil_eq p)
  | a::l,[],_,_,_,p=>absurd p.symm (by simp)
  | a::l,b::m,h1,h2,hn,p=>by
    rw[B3]at h1 h2 hn
    obtain⟨UG,UJ⟩:=R7.mp h1
    obtain⟨UL,UT⟩:=R7.mp h2
    obtain⟨n1,n2⟩:=G1.mp hn
    have e:a=b:=by
      have q1:a∈b::m:=p.mem_iff.mp C9
      have q2:b∈a::l:=p.mem_iff.mpr C9
      rcases E3.mp q1 with q1 | q1
      · exact q1
      · rcases E3.mp q2 with q2 | q2
        · exact q2.symm
        · have x:=UG b.1 (D8.mpr ⟨b,q2,rfl⟩)
          have y:=UL a.1 (D8.mpr ⟨a,q1,rfl⟩)
          have z:a.1=b.1:=by omega
          exact absurd (D8.mpr ⟨b,q2,z.symm⟩) n1
    subst e
    rw[Ep UJ UT n2 (List.Perm.cons_inv p)]
theorem oG{ps:List (Int×Int)}(h:(ps.map (·.1)).Nodup):((bA ps).map (·.1)).Nodup:=((cU ps).map _).nodup_iff.mpr h
theorem rP{ps qs:List (Int×Int)}(hn:(ps.map (·.1)).Nodup)(hp:qs.Perm ps)(hs:(qs.map (·.1)).Pairwise (·≤·)):qs=bA ps:=Ep hs (rO ps) ((hp.map _).nodup_iff.mpr hn) (hp.trans (cU ps).symm)
theorem Bq{α:Type}{ps:List α}{d:α}:(D6 ps.length).map (λi=>ps.getD i d)=ps:=by
 apply N7
 intro i
 rw[C4]
 rcases G9 i ps.length with z | z
 ·rw[R0 z,A9 z]
  show some (ps.getD i d)=_
  rw[B7,A9 z]
  rfl
 ·rw[F7 (by rw[G6];exact z),F7 z]
  rfl
theorem rQ{ps:List (Int×Int)}{q:List Nat}(hn:(ps.map (·.1)).Nodup)(hq:q.Perm (D6 ps.length))(hs:(q.map (tR ps)).Pairwise (·≤·)):q.map (λi=>ps.getD i (0,0))=bA ps:=by
 refine rP hn ?_ ?_
 ·have:=hq.map λi=>ps.getD i (0,0)
  rw[Bq]at this
  exact this
 ·rw[I0]
  exact hs
theorem nC{ps:List (Int×Int)}{n:Nat}(hn:(ps.map (·.1)).Nodup)(hl:n=ps.length):∀i j,i<n→j<n→i≠j→tR ps i≠tR ps j:=λi j hi hj ne e=>by
 subst hl
 unfold tR at e
 rw[B7,B7,A9 hi,A9 hj]at e
 have:=(J1.mp hn)
 rw[J2,K5]at this
 rcases Nat.lt_or_gt_of_ne ne with z | z
 ·exact this i j hi hj z e
 ·exact this j i hj hi z e.symm
section
variable{K:aA}{X:Cx}{pins:List (Addr×Obj)}{σ:St}{H:Hp}{s:Shared}
theorem rR(I:Inv X pins σ H s):∀{ps:List (Int×Int)} {zs:List V} {us:List Value},bC X.K H (ps.map pD) zs→Vals zs us→mH s.heap us ps
 | [],zs,us,r,v=>by
  rw[D4]at r
  unfold bC at r
  subst r
  cases v
  unfold mH
  rfl
 | p::ps,zs,us,r,v=>by
  rw[B3]at r
  unfold bC at r
  obtain⟨y,ys,rfl,r1,r2⟩:=r
  cases v with
  | cons v1 v2=>
   unfold mH
   refine⟨p,ps,rfl,?_,rR I r2 v2⟩
   unfold Rv at r1
   obtain⟨a,xs,rfl,ht,hx⟩:=r1
   cases v1
   obtain⟨its,w1,w2,_⟩:=I.tuple ht
   have e:xs=[.int p.1,.int p.2]:=by
    unfold bC at hx
    obtain⟨y1,YH,rfl,a1,a2⟩:=hx
    unfold bC at a2
    obtain⟨y2,YJ,rfl,b1,b2⟩:=a2
    unfold bC at b2
    unfold Rv at a1 b1
    rw[a1,b1,b2]
   subst e
   cases w1 with
   | cons c1 c2=>
    cases c2 with
    | cons d1 d2=>
     cases d2
     obtain⟨t,rfl⟩:=c1
     obtain⟨u,rfl⟩:=d1
     exact⟨a,t,u,rfl,w2⟩
theorem nD{zs:List V}{us:List Value}(v:Vals zs us):∀q:List Nat,(∀i∈q,i<zs.length)→Vals (q.map λi=>zs.getD i V.non) (q.map λi=>us.getD i Value.none)
 | [],_=>.nil
 | i::q,h=>by
  rw[B3,B3]
  refine .cons ?_ (nD v q λj hj=>h j (C5 _ hj))
  have hi:=h i C9
  obtain⟨u,e,r⟩:=v.get (A9 hi)
  rw[B7,B7,e,A9 hi]
  exact r
theorem rT{ds:List D}{zs:List V}(r:bC K H ds zs):∀q:List Nat,(∀i∈q,i<zs.length)→bC K H (q.map λi=>ds.getD i D.non) (q.map λi=>zs.getD i V.non)
 | [],_=>by unfold bC;rfl
 | i::q,h=>by
  rw[B3,B3]
  unfold bC
  have hi:=h i C9
  have hd:i<ds.length:=by rw[←r.length];exact hi
  obtain⟨x,e,rx⟩:=r.get (A9 hd)
  refine⟨_,_,rfl,?_,rT r q λj hj=>h j (C5 _ hj)⟩
  rw[B7,B7,e,A9 hd]
  exact rx
theorem oH{ps:List (Int×Int)}{q:List Nat}(h:∀i∈q,i<ps.length):(q.map λi=>(ps.map pD).getD i D.non)=(q.map λi=>ps.getD i (0,0)).map pD:=by
 rw[I0]
 refine R1 λi hi=>?_
 have:=h i hi
 rw[B7,C4,A9 this]
 show pD ps[i]=pD (ps.getD i (0,0))
 rw[B7,A9 this]
 rfl
def nF(K:aA):List V→Hp→VK→Prop:=λxs H Q=>∃(p:Addr)(zs:List V)(ps:List (Int×Int)),xs=[.ref p]∧gW K H p zs∧bC K H (ps.map pD) zs∧ps.length<64∧(ps.map (·.1)).Nodup ∧
 ∀l ys,H l=none→bC K H ((bA ps).map pD) ys→Q (.ref l) (upd H l (.lst ys))
theorem Br:dY X (.builtin "sorted") (nF X.K):=by
 intro pins s σ H xs us Q I r h
 obtain⟨p,zs,ps,rfl,hq,hr,h64,hn,q⟩:=h
 obtain⟨u,rfl,rx⟩:=vals1 r
 cases rx
 obtain⟨its,rv,pl,hz⟩:=I.list hq
 have hlen:=rv.length
 have hl2:=hr.length
 rw[B4]at hl2
 have hP:=rR I hr rv
 refine Calls.call_function_entry kind_sorted plain_sorted entry_sorted (args_sorted1 _) ?_
 unfold Builtin.«sorted»
 refine wpAny_bind (m:=checkCount "sorted" 1 1 _) (wpAny_pure ?_)
 refine wpAny_bind (collect_list pl.isList ?_ (by rw[sizeLine_eq];omega))
 refine wpAny_bind (wpAny_newList ?_ (by rw[sizeLine_eq];omega))
 have hsz:((s.heap.push (seqObj "list" #[] 0)).update s.heap.objs.size (Obj.mapSeq (·++its.toArray))).objs.size=s.heap.objs.size+1:=by
  rw[Heap.size_update,size_push']
 have hoL:(((s.heap.push (seqObj "list" #[] 0)).update s.heap.objs.size (Obj.mapSeq (·++its.toArray))).push (seqObj "list" its.toArray 0)).get? (s.heap.objs.size+1)=some (seqObj "list" its.toArray 0):=by
  rw[←hsz];exact Heap.get?_push_size _ rfl
 have keep:∀b o,s.heap.get? b=some o→(((s.heap.push (seqObj "list" #[] 0)).update s.heap.objs.size (Obj.mapSeq (·++its.toArray))).push (seqObj "list" its.toArray 0)).get? b=some o:=λb o q=>by
  have hlt:b<s.heap.objs.size:=Heap.lt_size q
  rw[Heap.get?_push_ne _ _ _ (by rw[hsz];exact C3 (F5 hlt)),Heap.get?_update_ne _ _ _ _ (C3 hlt),Heap.get?_push_ne _ _ _ (C3 hlt)]
  exact q
 show wpAny _ _ _ _ _ {s with heap:=((s.heap.push (seqObj "list" #[] 0)).update s.heap.objs.size (Obj.mapSeq (·++its.toArray))).push (seqObj "list" its.toArray 0)}
 rw[hsz]
 refine wpAny_bind (wpAny_holding (wpAny_call_entry slot_list_sort ⟨_,hoL,rfl⟩ entry_list_sort (jX hoL (hP.keeps λb o e _=>keep b o e) (nC hn (by omega)) (by omega) λqs hp hs=>⟨_,rfl,?_⟩) (args_list_sort _)))
 refine wpAny_pure ⟨_,rfl,?_⟩
 obtain⟨e,he⟩:=sortedHeap_at (out:=(qs.map λi=>its.getD i Value.none).toArray) hoL
 have hs':H (s.heap.objs.size+1)=none:=I.hok.fresh (K1 _)
 have hin:∀i∈qs,i<zs.length:=λi hi=>by
  have:=hp.mem_iff.mp hi
  rw[J3]at this
  omega
 have UW:qs.length=zs.length:=by rw[hp.length_eq,G6];omega
 have I2:=I.laid (t':=s.toks) (a:=s.heap.objs.size+1) (o:=.lst (qs.map λi=>zs.getD i V.non)) (h':=sortedHeap (((s.heap.push (seqObj "list" #[] 0)).update s.heap.objs.size (Obj.mapSeq (·++its.toArray))).push (seqObj "list" its.toArray 0)) (s.heap.objs.size+1) its (qs.map λi=>its.getD i Value.none).toArray)
  (λb o eb=>by
   have hlt:=Heap.lt_size eb
   rw[sortedHeap_old (C3 (F5 hlt)) (by rw[Heap.size_push,hsz];exact F5 (F5 hlt))]
   exact keep b o eb) (K1 _)
  ⟨by rw[B4];exact J4 (uR (by omega)),qs.map λi=>its.getD i Value.none,e,nD rv qs hin,by simpa[seqObj]using he⟩
 refine⟨.ref _,_,I2,rfl,q _ _ hs' ?_⟩
 have:=rT hr qs hin
 rw[oH (λi hi=>by have:=hin i hi;omega),rQ hn (by rw[show ps.length=its.length by omega];exact hp) hs]at this
 exact this
def rU:List D→Option D
 | [.lst ds]=>(jY ds).bind λps=>if ps.length<64∧(ps.map (·.1)).Nodup then some (.lst ((bA ps).map pD))else none
 | _=>none
theorem zA:rB K (nF K) rU:=λvs H ds d Q rs q k=>by
 unfold rU at q
 split at q
 ·obtain⟨ps,q1,q2⟩:=aR q
  split at q2
  ·rename_i hl
   cases q2
   obtain⟨v,rfl,r⟩:=wQ rs
   rw[kZ q1]at r
   unfold Rv at r
   obtain⟨p,zs,rfl,r2,r3⟩:=r
   exact⟨p,zs,ps,rfl,r2,r3,hl.1,hl.2,λl ys hl hy=>k _ _ (bD hl _) (jG (aD.refl _) (.bM (fQ _) hy) hl)⟩
  ·cases q2
 ·cases q
theorem zB(hk:X.K=K):dY X (.builtin "sorted") (nF K):=by subst hk;exact Br
end
end L2


namespace L2
open PySem PySem.W PySem.Spec PyProof.Rows
theorem wZ{α:Type} [DecidableEq α] {k:α}:∀{ks:List α} {i:Nat},ks.Nodup→ks[i]?=some k→posK ks k=some i
 | [],i,_,h=>by simp at h
 | a::ks,0,hn,h=>by
  have h:a=k:=by simpa using h
  unfold posK
  rw[if_pos h]
 | a::ks,i+1,hn,h=>by
  have h:ks[i]?=some k:=by simpa using h
  rw[G1]at hn
  have ne:a≠k:=λz=>hn.1 (z▸E8 h)
  unfold posK
  rw[if_neg ne,wZ hn.2 h]
  rfl
theorem xF{α:Type} [DecidableEq α] {k:α}:∀{ks:List α} {i:Nat},posK ks k=some i→ks[i]?=some k
 | [],i,h=>by unfold posK at h;cases h
 | a::ks,i,h=>by
  unfold posK at h
  by_cases c:a=k
  ·rw[if_pos c]at h;cases h;rw[c];rfl
  ·rw[if_neg c]at h
   obtain⟨j,h1,rfl⟩:=cR h
   have:=xF h1
   simpa using this
theorem Lb{h:Heap}:∀(as:List Addr)(ps:List (Int×Int)),as.length=ps.length→(∀(j:Nat)(a:Addr)(p:Int×Int),as[j]?=some a→ps[j]?=some p→∃t u,IsTup h a #[.int p.1 t,.int p.2 u])→mH h (as.map Value.ref) ps
 | [],[],_,_=>by unfold mH;rfl
 | [],p::ps,hl,_=>by simp at hl
 | a::as,[],hl,_=>by simp at hl
 | a::as,p::ps,hl,hk=>by
  rw[B3]
  unfold mH
  obtain⟨t,u,y⟩:=hk 0 a p rfl rfl
  exact⟨p,ps,rfl,⟨a,t,u,rfl,y⟩,Lb as ps (by simpa using hl) λj b q e1 e2=>hk (j+1) b q (by simpa using e1) (by simpa using e2)⟩
theorem Ld{K:aA}{H:Hp}:∀(as:List Addr)(ps:List (Int×Int)),as.length=ps.length→(∀(j:Nat)(a:Addr)(p:Int×Int),as[j]?=some a→ps[j]?=some p→H a=some (.tup [.int p.1,.int p.2]))→bC K H (ps.map pD) (as.map V.ref)
 | [],[],_,_=>by rw[D4,D4];unfold bC;rfl
 | [],p::ps,hl,_=>by simp at hl
 | a::as,[],hl,_=>by simp at hl
 | a::as,p::ps,hl,hk=>by
  rw[B3,B3]
  unfold bC
  refine⟨_,_,rfl,?_,Ld as ps (by simpa using hl) λj b q e1 e2=>hk (j+1) b q (by simpa using e1) (by simpa using e2)⟩
  unfold Rv
  refine⟨a,_,rfl,jP.of (hk 0 a p rfl rfl),?_⟩
  exact(fJ (ns:=[p.1,p.2])).mpr rfl
abbrev Le(ps:List (Int×Int)):List (Key×V):=ps.map λp=>(B5 p.1,V.int p.2)
theorem Lf:∀{ps:List (Int×Int)} {vs:List (Key×Value)},KV (Le ps) vs→∀(j:Nat)(p:Int×Int)(k:Key)(x:Value),ps[j]?=some p→vs[j]?=some (k,x)→k=B5 p.1∧∃u,x=.int p.2 u
 | [],vs,r,j,p,k,x,e,_=>by simp at e
 | p::ps,vs,r,j,q,k,x,e,f=>by
  rw[show Le (p::ps)=(B5 p.1,V.int p.2)::Le ps from rfl]at r
  cases r with
  | cons r1 r2=>
   cases j with
   | zero=>
    have e:p=q:=by simpa using e
    subst e
    have f:=D9 (show some _=some _ from f)
    subst f
    exact⟨r1.1.symm,r1.2⟩
   | succ j=>exact Lf r2 j q k x (by simpa using e) (by simpa using f)
section
variable{K:aA}{X:Cx}{pins:List (Addr×Obj)}{σ:St}{H:Hp}{s:Shared}
def Bu(K:aA):V→Hp→VK→Prop:=λv H Q=>∃(a:Addr)(ps:List (Int×Int)),v=.ref a∧Rd H a (.dK (Le ps))∧ps.length<64∧(ps.map (·.1)).Nodup ∧
 ∀l H1 ys,aD H H1→H1 l=none→bC K H1 ((bA ps).map pD) ys→Q (.ref l) (upd H1 l (.lst ys))
theorem Qw(hc:X.calm=true)(pins:List (Addr×Obj))(s:Shared)(σ:St)(H:Hp)(v:V)(u:Value)(Q:VK)(I:Inv X pins σ H s)(rv:RelV v u)(h:Bu X.K v H Q) :
  wpAny (model X.prog X.w) X.A (call (.builtin "dict.items") [u]) (λu' s'=>wpAny (model X.prog X.w) X.A (call (.builtin "sorted") [u']) (EP X pins σ Q) X.xe s') X.xe s:=by
 obtain⟨a,ps,rfl,hq,h64,hn,q⟩:=h
 cases rv
 obtain⟨hz,hsm,vs,rel,dd⟩:=qG I.hok hq
 obtain⟨ep,hat⟩:=dd.dictAt
 have hl:=KV.length rel
 rw[B4]at hl
 refine call_meetsIn O8 dd.typeIs PySem.F.entry_dict_items (PySem.F.args_dict_items_1 _) (meets_dict_items (aP X.prog X.w) a hsm) ⟨⟨vs,dd⟩,?_⟩
 have hvw:(s.heap.push {cls:=.type "dict_items", data:=.fields #[.ref a]}).get? s.heap.objs.size=some {cls:=.type "dict_items", data:=.fields #[.ref a]}:=Heap.get?_push_size _ rfl
 refine Calls.call_function_entry kind_sorted plain_sorted entry_sorted (args_sorted1 _) ?_
 unfold Builtin.«sorted»
 refine wpAny_bind (m:=checkCount "sorted" 1 1 _) (wpAny_pure ?_)
 refine wpAny_bind (kdx_collect (A:=X.A.in1) (s:={s with heap:=s.heap.push {cls:=.type "dict_items", data:=.fields #[.ref a]}}) (knd:=aP X.prog X.w) (kvs:=vs) (ep:=ep) (I.ok.hd hc) ⟨_,hvw,rfl,rfl⟩ (hat.push _) (by rw[sizeLine_eq];omega) λh' tk as kp hla hG=>?_)
 have VB:∀b o,s.heap.get? b=some o→h'.get? b=some o:=λb o e=>kp b o (Heap.get?_push_of_some _ e)
 have hsl:s.heap.objs.size<h'.objs.size:=Heap.lt_size (kp _ _ hvw)
 have hab:∀b∈as,s.heap.objs.size<b:=λb hb=>by
  have:=hG.above b hb
  rw[show ({s with heap:=s.heap.push {cls:=.type "dict_items", data:=.fields #[.ref a]}}:Shared).heap.objs.size=s.heap.objs.size+1 from Heap.size_push _ _]at this
  exact Nat.lt_of_succ_lt this
 have hnd:as.Nodup:=hG.rise.imp λz=>C3 z
 have hlen:as.length=ps.length:=by omega
 have hpr:∀(j:Nat)(b:Addr)(p:Int×Int),as[j]?=some b→ps[j]?=some p→∃t u,h'.get? b=some {cls:=.type "tuple", data:=.seq #[.int p.1 t,.int p.2 u]}:=λj b p e1 e2=>by
  obtain⟨key,k,x,f1,f2,f3⟩:=hG.pairs j b e1
  obtain⟨g1,u,rfl⟩:=Lf rel j p k x e2 f1
  subst g1
  obtain⟨t,rfl⟩:=Dn f2
  exact⟨t,u,f3⟩
 refine wpAny_bind (wpAny_newList ?_ (by rw[B4,hlen,sizeLine_eq];omega))
 have hoL:(h'.push (seqObj "list" (as.map Value.ref).toArray 0)).get? h'.objs.size=some (seqObj "list" (as.map Value.ref).toArray 0):=Heap.get?_push_size _ rfl
 have hP:mH (h'.push (seqObj "list" (as.map Value.ref).toArray 0)) (as.map Value.ref) ps:=Lb as ps hlen λj b p e1 e2=>by
  obtain⟨t,u,e⟩:=hpr j b p e1 e2
  exact⟨t,u,_,Heap.get?_push_of_some _ e,rfl,0,rfl⟩
 refine wpAny_bind (wpAny_holding (wpAny_call_entry slot_list_sort ⟨_,hoL,rfl⟩ entry_list_sort (jX hoL hP (nC hn (by rw[B4];exact hlen)) (by rw[B4];omega) λqs hp hs=>⟨_,rfl,?_⟩) (args_list_sort _)))
 refine wpAny_pure ⟨_,rfl,?_⟩
 obtain⟨e,he⟩:=sortedHeap_at (out:=(qs.map λi=>(as.map Value.ref).getD i Value.none).toArray) hoL
 rw[B4]at hp
 have hin:∀i∈qs,i<(as.map V.ref).length:=λi hi=>by
  have:=hp.mem_iff.mp hi
  rw[J3]at this
  rw[B4]
  exact this
 have UW:qs.length=as.length:=by rw[hp.length_eq,G6]
 have hva:∀l:List Addr,Vals (l.map V.ref) (l.map Value.ref):=λl=>by
  induction l with
  | nil=>exact .nil
  | cons b l ih=>exact .cons rfl ih
 have old:∀b o,h'.get? b=some o→(sortedHeap (h'.push (seqObj "list" (as.map Value.ref).toArray 0)) h'.objs.size (as.map Value.ref) (qs.map λi=>(as.map Value.ref).getD i Value.none).toArray).get? b=some o:=λb o eb=>by
  have hlt:=Heap.lt_size eb
  rw[sortedHeap_old (C3 hlt) (by rw[Heap.size_push];exact F5 hlt)]
  exact Heap.get?_push_of_some _ eb
 have hmem:∀b∈as,b<h'.objs.size:=λb hb=>hG.there hb
 have hpN:∀b,b∉as→posK as b=none:=λb hb=>by
  cases z:posK as b with
  | none=>rfl
  | some j=>exact absurd (E8 (xF z)) hb
 have CN:∀b,b≤s.heap.objs.size→posK as b=none:=λb hb=>hpN b λz=>absurd (B8 (hab b z) hb) (F1 _)
 have VD:posK as h'.objs.size=none:=hpN _ λz=>absurd (hmem _ z) (F1 _)
 let H1:Hp:=λb=>match posK as b with
  | some j=>some (.tup [.int (tR ps j),.int (ps.getD j (0,0)).2])
  | none=>H b
 have GK:∀b,posK as b=none→H1 b=H b:=λb z=>by
  show (match posK as b with | some j=>_ | none=>H b)=_
  rw[z]
 have QG:∀b j,posK as b=some j→H1 b=some (.tup [.int (tR ps j),.int (ps.getD j (0,0)).2]):=λb j z=>by
  show (match posK as b with | some j=>_ | none=>H b)=_
  rw[z]
 have hfr:H h'.objs.size=none:=I.hok.fresh (J4 hsl)
 have hl1:H1 h'.objs.size=none:=(GK _ VD).trans hfr
 have I2:=I.more (t':=tk) (h':=sortedHeap (h'.push (seqObj "list" (as.map Value.ref).toArray 0)) h'.objs.size (as.map Value.ref) (qs.map λi=>(as.map Value.ref).getD i Value.none).toArray)
  (H':=upd H1 h'.objs.size (.lst (qs.map λi=>(as.map V.ref).getD i V.non))) (λb o eb=>old b o (VB b o eb))
  (λb hb=>by rw[aJ (C3 (M3 hb hsl)),GK b (CN b (J4 hb))]) λb o hb eo=>by
   by_cases c:b=h'.objs.size
   ·subst c
    rw[aQ]at eo
    cases eo
    exact⟨by rw[B4];exact J4 (uR (by omega)),qs.map λi=>(as.map Value.ref).getD i Value.none,e,nD (hva as) qs hin,by simpa[seqObj]using he⟩
   ·rw[aJ c]at eo
    cases z:posK as b with
    | none=>
     rw[GK b z,I.hok.fresh hb]at eo
     cases eo
    | some j=>
     rw[QG b j z]at eo
     cases eo
     have ej:=xF z
     have hj:j<ps.length:=by have:=(B9.mp ej).1;omega
     obtain⟨t,u,f⟩:=hpr j b _ ej (A9 hj)
     have e2:ps.getD j (0,0)=ps[j]:=by rw[B7,A9 hj];rfl
     refine⟨by rw[sizeLine_eq];exact Q3 rfl,[.int ps[j].1 t,.int ps[j].2 u],?_,⟨_,old b _ f,rfl,0,rfl⟩⟩
     unfold tR
     rw[e2]
     exact .cons ⟨t,rfl⟩ (.cons ⟨u,rfl⟩ .nil)
 refine⟨.ref _,_,I2,rfl,q _ H1 _ (λb o eb=>?_) hl1 ?_⟩
 ·rw[GK b (CN b (J4 (I.hok.lt eb)))]
  exact eb
 ·have hr:bC X.K H1 (ps.map pD) (as.map V.ref):=Ld as ps hlen λj b p e1 e2=>by
   rw[QG b j (wZ hnd e1)]
   unfold tR
   rw[B7,e2]
   rfl
  have:=rT hr qs hin
  rw[oH (λi hi=>by have:=hin i hi;rw[B4]at this;omega),rQ hn (by rw[←hlen];exact hp) hs]at this
  exact this
end
structure M0(X:Cx)(o:Expr)(m:Str)(apos:Pos)(cpos:Pos):Prop where
 base:attributeBase o m X.env (eval o X.env)=eval o X.env
 few:((backTo cpos (starEach [] X.env)).all (λx=>!x.1)&&(backToKw cpos (keywordEach [] X.env)).all (λx=>x.1.isSome)
  && decide (([]:List Expr).length+([]:List Keyword).length+(if([]:List Keyword).isEmpty then 0 else 1)<30))=true
 line:(apos.endLine==cpos.line)=true
 trees:backTo cpos (starEach [] X.env)=[]
section
variable{K:aA}{X:Cx}{o:Expr}{t:TE}{f:FE}{x:Str}{p pos apos cpos:Pos}
theorem Lg(hc:X.calm=true)(ha:PE X o t)(hg:Gl X x)(hm:X.mg x=none)(hv:bootBuiltins x=some (.builtin "sorted")) (m:M0 X o "items" apos cpos) (hn:x ≠ "__name__" := by decide) (hdb:(x==("__debug__" : Str))=false:=by decide)
  (he2:starEach [.Call (.Attribute o "items" apos) [] [] cpos] X.env=[(false,eval (.Call (.Attribute o "items" apos) [] [] cpos) X.env)]:=by rfl) :
  PE X (.Call (.Name x p) [.Call (.Attribute o "items" apos) [] [] cpos] [] pos) (MJ (Bu X.K) t):=by
 intro pins s σ H Q I h
 refine wpAny_Call_Name_kw (vP I hg hm hv ?_ hn hdb)
 refine L9 ?_ he2 rfl
 rw[he2]
 refine Calls.spliced_cons (wpAny_Call_method m.base m.few m.line O7 O8 PySem.F.type_dict_items (cG (ha pins s σ H _ I h) λu s1 ⟨v,H1,I1,r1,q1⟩=>?_))
 have VF:=q1
 obtain⟨a,ps,rfl,hq,_⟩:=VF
 obtain rfl:u=Value.ref a:=r1
 obtain⟨t1,t2,_⟩:=Jh I1 (.inl ⟨_,hq⟩)
 refine⟨t1,t2,?_⟩
 rw[m.trees]
 exact PyProof.Rows.callWith_method0 (env:=X.env) (cG (Qw hc pins s1 σ H1 (.ref a) (.ref a) Q I1 rfl q1) λu' s' z=>Calls.spliced_nil z)
def pC:List Key→List D→Option (List (Int×Int))
 | [],[]=>some []
 | .inl k::ks,.int v::ds=>(pC ks ds).map ((k,v)::·)
 | _,_=>none
theorem zF{H:Hp}:∀{ks:List Key} {ds:List D} {ps:List (Int×Int)} {xs:List V},pC ks ds=some ps→bC K H ds xs→ks.zip xs=Le ps
 | [],[],ps,xs,h,r=>by unfold pC at h;cases h;rfl
 | [],d::ds,ps,xs,h,r=>by unfold pC at h;cases h
 | k::ks,[],ps,xs,h,r=>by cases k<;>(unfold pC at h;cases h)
 | .inr k::ks,d::ds,ps,xs,h,r=>by unfold pC at h;cases h
 | .inl k::ks,d::ds,ps,xs,h,r=>by
  cases d with
  | int i=>
   unfold pC at h
   obtain⟨qs,h1,rfl⟩:=cR h
   unfold bC at r
   obtain⟨y,ys,rfl,r1,r2⟩:=r
   unfold Rv at r1
   subst r1
   rw[F2,zF h1 r2]
   rfl
  | _=>unfold pC at h;cases h
def xG:D→Option D
 | .dk ks ds=>(pC ks ds).bind λps=>if ps.length<64∧(ps.map (·.1)).Nodup then some (.lst ((bA ps).map pD))else none
 | _=>none
theorem Lh(h:XR K X o t f)(m:M0 X o "items" apos cpos) (hg:Gl X x) (hm:X.mg x=none) (hv:bootBuiltins x=some (.builtin "sorted")) (hc:X.calm=true:=by rfl) (hn:x ≠ "__name__" := by decide) (hdb:(x==("__debug__" : Str))=false:=by decide)
  (he2:starEach [.Call (.Attribute o "items" apos) [] [] cpos] X.env=[(false,eval (.Call (.Attribute o "items" apos) [] [] cpos) X.env)]:=by rfl) :
  XN K X (.Call (.Name x p) [.Call (.Attribute o "items" apos) [] [] cpos] [] pos) (MJ (Bu K) t) (FW xG f):=⟨h.hk,by have:=h.hk;subst this;exact Lg hc h.pe hg hm hv m hn hdb he2,λσ H e d Q re q k=>by
 obtain⟨d0,q1,q2⟩:=aR q
 unfold xG at q2
 split at q2
 ·obtain⟨ps,q3,q4⟩:=aR q2
  split at q4
  ·rename_i hl
   cases q4
   refine h.ev σ H H e _ _ (Zn.self K H) re q1 λv H1 Z1 s1 t1 z1 rv=>?_
   have r1:=z1.sm.rv _ _ rv
   unfold Rv at r1
   obtain⟨a,xs,rfl,r2,r3,r4⟩:=r1
   rw[zF q3 r4]at r2
   exact⟨a,ps,rfl,r2,hl.1,hl.2,λl H2 ys s2 hl2 hy=>k _ _ ((s1.trans s2).trans (bD hl2 _)) ((jG s2 (.bM (fQ _) hy) hl2).back s1)⟩
  ·cases q4
 ·cases q2⟩
end
end L2


namespace L2
open PySem PySem.W PySem.Spec PyProof.Rows
theorem Hg:typeLookup (.type "list") "keys" = pure none:=am_miss_of_fast (by kernel_rfl)
theorem Hh{prog:Program}{w:World}{A:Around}{E:Value→Shared→Prop}{s:Shared}{a:Addr}{xs:Array Value}{k:Nat}{Q:Option Value→Shared→Prop}
  {sl:Array (Option Value)} (hx:s.heap.get? a=some {cls:=.type "list", dict:=none,data:=.seq xs k,slots:=sl}) (hA:A.handled=none)
  (h:∀h' tk,(∀b o,s.heap.get? b=some o→h'.get? b=some o)→Q none {s with heap:=h',toks:=tk}) :
  wpAny (model prog w) A (getAttr? (.ref a) "keys") Q E s:=by
 obtain⟨hp,g,d,tk,os⟩:=s
 have hT:∀tk',(⟨hp,g,d,tk',os⟩:Shared).TypeIs (.ref a) "list" := λ_=>⟨_,hx,rfl⟩
 have f1:=sub_AttributeError
 have f2:=F.slot_list_getattribute.lookup
 have f3:=F.slot_list_getattribute.bind (.ref a)
 have f4:=am_list_getattr_none
 unfold getAttr? getAttrBy?
 repeat (any_goals (first | assumption | exact hT _ | ((with_reducible show wpAny _ _ (call (Value.builtin "list.__getattribute__") _ _) _ _ _);refine call_meets F.slot_list_getattribute (hT _) am_entry_list_getattribute (F.args_list_getattribute_2 _ _) (meets_getattribute_miss_list a xs k sl "keys" _ Hg (by decide) (by size_fits)) ⟨hx,hA,λh' tk' e hx'=>?_⟩) | wp_step))
 obtain⟨t',u',he⟩:=hx'.there
 show wpAny _ _ (getattributeRaised _ _ _ _ _ _ _) _ _ _
 unfold getattributeRaised
 repeat (any_goals (first | assumption | wp_step))
 exact h h' tk' hx'.keeps
theorem uX:entryFor table "dict.update.loop" = some Builtin.«dict.update.loop»:=entryFor_of_tree (by kernel_rfl)
theorem jH:plainId "dict.update.loop" = true:=by decide +kernel
section
variable{prog:Program}{w:World}{A:Around}{R:Result→Shared→Prop}{I:Addr}{fp wr:List Addr}{G:Array GenState→Array GenState→Prop}{n:Nat}{P:Nat→Value→Prop}{St:Nat→Shared→Prop}
def rW(key:Nat→Int)(val:Nat→Value)(i:Nat):List (Key×Value):=(D6 i).map λj=>(B5 (key j),val j)
theorem Hi(key:Nat→Int)(val:Nat→Value)(i:Nat):rW key val (i+1)=rW key val i++[(B5 (key i),val i)]:=by
 unfold rW
 rw[List.range_succ,E6]
 rfl
theorem zG{key:Nat→Int}{val:Nat→Value}{i:Nat}(hk:∀j,j<i→key j≠key i):stored (rW key val i) (B5 (key i)) (val i)=rW key val (i+1):=by
 rw[Hi]
 unfold stored
 rw[if_neg]
 intro z
 rw[List.any_eq_true]at z
 obtain⟨kv,h1,h2⟩:=z
 unfold rW at h1
 obtain⟨j,hj,rfl⟩:=D8.mp h1
 rw[J3]at hj
 have h2:=of_decide_eq_true h2
 exact hk j hj (M9 h2)
theorem Wv(W:WalksS prog w A.in1 I fp wr G n P St)(d:Addr)(hf:d∉fp)(adr:Nat→Addr)(key:Nat→Int)(tk:Nat→Tok)(val:Nat→Value)(hP:∀i v,P i v→v=.ref (adr i))(had:∀i,i<n→adr i∉wr∧adr i≠d)(hk:∀i j,i<n→j<n→i≠j→key i≠key j)(hz:n≤sizeLine) :
  ∀(m i:Nat)(s:Shared),n-i=m→i≤n→St i s→s.heap.DictOf (aP prog w) d (rW key val i)→(∀j,j<n→IsTup s.heap (adr j) #[.int (key j) (tk j),val j])→(∀s',Moved (d::wr) G s s'→s'.heap.DictOf (aP prog w) d (rW key val n)→R (.ok (.ret .none)) s') →
   codeAny (model prog w) A (.builtin "dict.update.loop" ⟨[.ref d,.ref I,rawInt (i:Int),.none],[]⟩) R s:=by
 have hw:d∉wr:=λz=>hf (W.sub _ z)
 have sub:∀c∈wr,c∈d::wr:=λc hc=>C5 _ hc
 intro m
 induction m with
 | zero=>
  intro i s hm hi hst hD hT hR
  have e:i=n:=by omega
  subst e
  refine codeAny_builtin uX ?_
  rw[Around.under_plainId jH _]
  show wpAny _ A.in1 (pyNext (.ref I) >>= _) _ _ s
  refine wpAny_bind (W.done s _ _ hst λs' mv=>?_)
  show wpAny _ A.in1 (ret Value.none) _ _ s'
  exact wpAny_pure (hR s' (mv.mono sub) (let ⟨o,es,ep,e,r⟩:=hD;⟨o,es,ep,mv.heap d o hw e,r⟩))
 | succ m ih=>
  intro i s hm hi hst hD hT hR
  have lt:i<n:=by omega
  refine codeAny_builtin uX ?_
  rw[Around.under_plainId jH _]
  show wpAny _ A.in1 (pyNext (.ref I) >>= _) _ _ s
  refine wpAny_bind (W.item i s _ _ lt hst λv s1 hPv st1 mv=>?_)
  obtain rfl:=hP i v hPv
  have D1:s1.heap.DictOf (aP prog w) d (rW key val i):=let ⟨o,es,ep,e,r⟩:=hD;⟨o,es,ep,mv.heap d o hw e,r⟩
  have T1:∀j,j<n→IsTup s1.heap (adr j) #[.int (key j) (tk j),val j]:=λj hj=>let ⟨o,ho,r⟩:=hT j hj;⟨o,mv.heap _ o (had j hj).1 ho,r⟩
  obtain⟨o,ho,hc,k,hd⟩:=T1 i lt
  dsimp only
  refine wpAny_bind (wpAny_holding (wpAny_bind (wpAny_tryCatch ?_)))
  unfold Builtin.Dict.pairItems
  refine wpAny_bind (wpAny_typeOf (show s1.TypeIs (.ref (adr i)) "tuple" from⟨o,ho,hc⟩) ?_)
  rw[if_pos (by decide)]
  refine wpAny_bind (wpAny_seqItems ho hd (wpAny_pure ?_))
  dsimp only[Option.getD_some]
  refine wpAny_holding (wpAny_dictSet_pairs (knd:=aP prog w) (k:=B5 (key i)) (nT _ _ _ _) D1 (λh' D2 sb=>?_) (by unfold rW;rw[B4,G6];omega))
  rw[zG λj hj=>hk j i (by omega) lt (by omega)]at D2
  refine wpAny_pure ⟨plainId_quiet jH _,?_⟩
  refine ih (i+1) _ (by omega) lt (W.frame _ s1 _ _ st1 (K1 _) λc hc o e=>?_) D2 (λj hj=>?_) λs2 VG D3=>?_
  ·rw[sb.2 c λz=>hf (by rw[←z];exact hc)]
   exact e
  ·obtain⟨o,ho,r⟩:=T1 j hj
   exact⟨o,by rw[sb.2 _ (had j hj).2];exact ho,r⟩
  ·refine hR s2 (Moved.trans W.gtrans ((mv.mono sub).then_heap (K1 _) λc o hc e=>?_) VG) D3
   rw[sb.2 c λz=>hc (by rw[z];exact C9)]
   exact e
variable{E:Value→Shared→Prop}{s:Shared}
theorem Li{l:Addr}{its:List Value}{ps:List (Int×Int)}{Q:Value→Shared→Prop}(hh:A.handled=none)(hl:PlainL s.heap l its.toArray)(hp:mH s.heap its ps)(hn:(ps.map (·.1)).Nodup)(hz:ps.length≤1000)
  (h:∀(h':Heap)(tk:Nat)(vs:List (Key×Value)),KV (Le ps) vs→h'.DictOf (aP prog w) s.heap.objs.size vs→(∀b o,s.heap.get? b=some o→h'.get? b=some o)→Q (.ref s.heap.objs.size) {s with heap:=h',toks:=tk}) :
  wpAny (model prog w) A (call (.type "dict") [.ref l]) Q E s:=by
 have hlen:=hp.length
 obtain⟨adr,KN,us,hat⟩:∃(adr:Nat→Addr)(KN us:Nat→Tok),∀i,i<its.length→its.getD i .none=.ref (adr i)∧IsTup s.heap (adr i) #[.int (tR ps i) (KN i),.int (ps.getD i (0,0)).2 (us i)]:=by
  have hx:∀i,∃(a:Addr)(t u:Tok),i<its.length→its.getD i .none=.ref a∧IsTup s.heap a #[.int (tR ps i) t,.int (ps.getD i (0,0)).2 u]:=λi=>by
   by_cases c:i<its.length
   ·obtain⟨a,t,u,e⟩:=hp.at_ c
    exact⟨a,t,u,λ_=>e⟩
   ·exact⟨0,0,0,λz=>absurd z c⟩
  exact⟨λi=>(hx i).choose,λi=>(hx i).choose_spec.choose,λi=>(hx i).choose_spec.choose_spec.choose,λi hi=>(hx i).choose_spec.choose_spec.choose_spec hi⟩
 obtain⟨ol,nl,hol,hcl,hdl,hsl⟩:=hl
 obtain⟨ocls,odict,odata,oslots⟩:=ol
 simp only at hcl hdl hsl
 subst hcl hdl hsl
 refine callType_codes (Q₁:=λobj s₁=>obj=.ref s.heap.objs.size∧s₁={s with heap:=s.heap.push {cls:=.type "dict", data:=.dict #[]}}) PySem.F.kt_called_dict (PySem.F.kt_typeCall_dict_1 _) PySem.F.entry_dict_init (kt_code_dict_new _ ⟨rfl,rfl⟩) ?_
 rintro obj s₁ ⟨rfl,rfl⟩
 have hnew:(s.heap.push {cls:=.type "dict", data:=.dict #[]}).DictOf (aP prog w) s.heap.objs.size []:=Heap.DictOf.new s.heap
 have hol1:(s.heap.push {cls:=.type "dict", data:=.dict #[]}).get? l=some {cls:=.type "list", dict:=none,data:=.seq its.toArray nl,slots:=oslots}:=Heap.get?_push_of_some _ hol
 have QH:l<s.heap.objs.size:=Heap.lt_size hol
 refine⟨hnew.typeIs,PySem.F.args_dict_init_2 _ _,?_⟩
 unfold Builtin.«dict.__init__»
 refine wpAny_bind ?_
 unfold Builtin.Dict.selfAndRest
 refine wpAny_bind (wpAny_notOrdered_dict hnew.typeIs ?_)
 show wpAny _ _ (pure (s.heap.objs.size,[Value.ref l])) _ _ _
 refine wpAny_pure ?_
 show wpAny _ _ (Builtin.Dict.updateFrom "dict.__init__" s.heap.objs.size (.ref l) [] .none) _ _ _
 unfold Builtin.Dict.updateFrom
 refine wpAny_bind (wpAny_typeOf (show Shared.TypeIs _ (.ref l) "list" from⟨_,hol1,rfl⟩) ?_)
 rw[if_pos (by decide)]
 refine wpAny_bind (Hh (A:=A.in1.in1) hol1 hh λh2 tk2 GP=>?_)
 rw[if_pos (show (none:Option Value).isNone=true from rfl)]
 refine wpAny_bind (wpAny_rule ?_)
 have hol2:h2.get? l=some {cls:=.type "list", dict:=none,data:=.seq its.toArray nl,slots:=oslots}:=GP _ _ hol1
 have hL2:h2.IsList l its.toArray:=⟨_,hol2,rfl,nl,rfl⟩
 have hd2:h2.DictOf (aP prog w) s.heap.objs.size []:=let ⟨o,es,ep,e,r⟩:=hnew;⟨o,es,ep,GP _ _ e,r⟩
 have GQ:s.heap.objs.size<h2.objs.size:=let ⟨o,es,ep,e,r⟩:=hd2;Heap.lt_size e
 refine wpAny_bind (wpAny_pyIter_list hL2 ?_)
 refine wpAny_pure ⟨plainId_quiet jH _,?_⟩
 have KQ:l<h2.objs.size:=M3 QH GQ
 have hsz:its.toArray.size=its.length:=B0
 have nf:s.heap.objs.size∉[h2.objs.size,l]:=λz=>by
  rcases E3.mp z with z | z
  ·exact absurd z (C3 GQ)
  ·exact absurd (D5.mp z) (J6 QH)
 have hadr:∀i,i<its.length→adr i<s.heap.objs.size∧adr i≠l:=λi hi=>by
  obtain⟨o,ho,hc,_⟩:=(hat i hi).2
  refine⟨Heap.lt_size ho,λz=>?_⟩
  rw[z,hol]at ho
  cases ho
  exact absurd (show Value.type "list" = Value.type "tuple" from hc) (by decide)
 refine Wv ((Walks.list (A:=A.in1.in1) hh h2.objs.size l (C3 KQ) its.toArray).toS) s.heap.objs.size nf adr (tR ps) KN (λi=>.int (ps.getD i (0,0)).2 (us i)) (λi v hv=>?_) (λi hi=>?_) (nC hn (by omega)) (by rw[sizeLine_eq];omega) (its.toArray.size-0) 0 _ rfl (F9 _) ⟨⟨_,Heap.get?_push_size _ rfl,rfl,rfl⟩,hL2.push _⟩ (hd2.push _) (λj hj=>?_) λs' mv D'=>?_
 ·have hi:i<its.length:=by
   rw[←hsz]
   exact(Array.getElem?_eq_some_iff.mp hv).1
  have e:=(hat i hi).1
  rw[B7]at e
  rw[Q1]at hv
  rw[hv]at e
  exact e
 ·rw[hsz]at hi
  obtain⟨x,y⟩:=hadr i hi
  refine⟨λz=>?_,C3 x⟩
  have z:adr i=h2.objs.size:=by simpa using z
  rw[z]at x
  exact absurd (M3 x GQ) (F1 _)
 ·rw[hsz]at hj
  obtain⟨o,ho,r⟩:=(hat j hj).2
  exact⟨o,Heap.get?_push_of_some _ (GP _ _ (Heap.get?_push_of_some _ ho)),r⟩
 ·obtain⟨h',g',d',tk',os'⟩:=s'
  have eg:g'=s.gens:=mv.gens
  have ed:d'=s.drawn:=mv.drawn
  have eo:os'=s.os:=mv.os
  subst eg ed eo
  refine⟨rfl,h h' tk' _ ?_ D' λb o e=>?_⟩
  ·rw[hsz,hlen]
   unfold rW Le
   have gen:∀(qs:List (Int×Int))(f:Nat→Value)(g:Nat→Int),(∀i,i<qs.length→g i=tR qs i∧∃u,f i=.int (qs.getD i (0,0)).2 u)→KV (qs.map λp=>((B5 p.1:Key),V.int p.2)) ((D6 qs.length).map λj=>((B5 (g j):Key),f j)):=by
    intro qs
    induction qs with
    | nil=>intro f g _;exact .nil
    | cons q qs ih=>
     intro f g hh
     rw[F0,List.range_succ_eq_map,B3,B3,I0]
     obtain⟨h1,u,h2⟩:=hh 0 (Nat.succ_pos _)
     refine .cons ⟨?_,?_⟩ (ih (λi=>f (i+1)) (λi=>g (i+1)) λi hi=>hh (i+1) (Nat.succ_lt_succ hi))
     ·show (B5 q.1:Key)=B5 (g 0)
      rw[h1]
      rfl
     ·show RelV (.int q.2) (f 0)
      rw[h2]
      exact⟨u,rfl⟩
   exact gen ps _ _ λi hi=>⟨rfl,us i,rfl⟩
  ·have lb:=Heap.lt_size e
   refine mv.heap b o (λz=>?_) (Heap.get?_push_of_some _ (GP _ _ (Heap.get?_push_of_some _ e)))
   rcases E3.mp z with z | z
   ·exact absurd z (C3 lb)
   ·have:=D5.mp z
    exact absurd this (C3 (M3 lb GQ))
end
end L2


namespace L2
open PySem PySem.W PySem.Spec PyProof.Rows
mutual
def Ii:D→Nat→Bool
 | .int _,_=>true
 | .str _,_=>true
 | .lst ds,n+1=>gR ds n
 | .tup ds,n+1=>gR ds n
 | _,_=>false
def gR:List D→Nat→Bool
 | [],_=>true
 | d::ds,n=>Ii d n&&gR ds n
end
theorem zH:∀{ds:List D} {n i:Nat} {d:D},gR ds n=true→ds[i]?=some d→Ii d n=true
 | [],n,i,d,h,e=>by simp at e
 | d'::ds,n,0,d,h,e=>by
  unfold gR at h
  rw[G8]at h
  have e:d'=d:=by simpa using e
  rw[←e];exact h.1
 | d'::ds,n,i+1,d,h,e=>by
  unfold gR at h
  rw[G8]at h
  exact zH h.2 (by simpa using e)
section
open SeqAt
variable{X:Cx}{pins:List (Addr×Obj)}{σ:St}{H:Hp}{s:Shared}
theorem pO(n:Nat):((D6 n).all λ_=>true)=true:=by simp
theorem gF{n:Nat}(ih:∀(d:D)(x y:V)(u v:Value)(A:Around),Ii d n=true→A.units+n<cLine→Rv X.K H d x→Rv X.K H d y→RelV x u→RelV y v→EqAt A s u v true){A:Around}{ds:List D}{xs ys:List V}{us vs:List Value}(hd:gR ds n=true)(hu:A.units+(n+1)<cLine)(r1:bC X.K H ds xs)(r2:bC X.K H ds ys)(v1:Vals xs us)(v2:Vals ys vs) :
  ∀j (h1:j<us.toArray.size) (h2:j<vs.toArray.size),EqAt A.in1 s us.toArray[j] vs.toArray[j] ((λ_=>true) j):=by
 intro j h1 h2
 have l1:j<ds.length:=by rw[←r1.length,v1.length];simpa using h1
 obtain⟨x,ex,rx⟩:=r1.get (i:=j) (d:=ds[j]) (by simp)
 obtain⟨y,ey,ry⟩:=r2.get (i:=j) (d:=ds[j]) (by simp)
 obtain⟨u,eu,ru⟩:=v1.get ex
 obtain⟨v,ev,rv⟩:=v2.get ey
 have e1:us.toArray[j]=u:=by
  rw[B9]at eu
  obtain⟨_,eu⟩:=eu
  simpa using eu
 have e2:vs.toArray[j]=v:=by
  rw[B9]at ev
  obtain⟨_,ev⟩:=ev
  simpa using ev
 rw[e1,e2]
 exact ih _ x y u v A.in1 (zH hd (A9 l1)) (by rw[qJ];omega) rx ry ru rv
theorem Er(I:Inv X pins σ H s):∀(n:Nat)(d:D)(x y:V)(u v:Value)(A:Around),Ii d n=true→A.units+n<cLine→Rv X.K H d x→Rv X.K H d y→RelV x u→RelV y v→EqAt A s u v true:=by
 have flat:∀(d:D)(x y:V)(u v:Value)(A:Around),(∃i,d=.int i)∨(∃t,d=.str t)→Rv X.K H d x→Rv X.K H d y→RelV x u→RelV y v→EqAt A s u v true:=by
  rintro d x y u v A (⟨i,rfl⟩ | ⟨t,rfl⟩) r1 r2 rx ry
  ·unfold Rv at r1 r2
   subst r1 r2
   obtain⟨t1,rfl⟩:=rx
   obtain⟨t2,rfl⟩:=ry
   have:=EqAt.int_int (A:=A) (s:=s) i t1 i t2
   rw[beq_self_eq_true]at this
   exact this
  ·unfold Rv at r1 r2
   subst r1 r2
   obtain⟨t1,rfl⟩:=rx
   obtain⟨t2,rfl⟩:=ry
   have:=EqAt.str_str (A:=A) (s:=s) t t1 t t2
   rw[beq_self_eq_true]at this
   exact this
 intro n
 induction n with
 | zero=>
  intro d x y u v A hd hu r1 r2 rx ry
  cases d with
  | int i=>exact flat _ x y u v A (.inl ⟨i,rfl⟩) r1 r2 rx ry
  | str t=>exact flat _ x y u v A (.inr ⟨t,rfl⟩) r1 r2 rx ry
  | _=>unfold Ii at hd;cases hd
 | succ n ih=>
  intro d x y u v A hd hu r1 r2 rx ry
  cases d with
  | int i=>exact flat _ x y u v A (.inl ⟨i,rfl⟩) r1 r2 rx ry
  | str t=>exact flat _ x y u v A (.inr ⟨t,rfl⟩) r1 r2 rx ry
  | lst ds=>
   unfold Ii at hd
   unfold Rv at r1 r2
   obtain⟨a,xs,rfl,a1,a2⟩:=r1
   obtain⟨b,ys,rfl,b1,b2⟩:=r2
   cases rx
   cases ry
   by_cases hab:a=b
   ·subst hab;exact EqAt.same _
   obtain⟨jT,v1,lM,_⟩:=I.list a1
   obtain⟨its2,v2,oW,_⟩:=I.list b1
   have z:=RcAt.lists (A:=A) (s:=s) lM.isList oW.isList (by rw[B0,B0,←v1.length,←v2.length,a2.length,b2.length]) (by omega) (gF ih hd (by omega) a2 b2 v1 v2)
   rw[pO]at z
   exact EqAt.of_refs hab z
  | tup ds=>
   unfold Ii at hd
   unfold Rv at r1 r2
   obtain⟨a,xs,rfl,a1,a2⟩:=r1
   obtain⟨b,ys,rfl,b1,b2⟩:=r2
   cases rx
   cases ry
   by_cases hab:a=b
   ·subst hab;exact EqAt.same _
   obtain⟨jT,v1,lM,_⟩:=I.tuple a1
   obtain⟨its2,v2,oW,_⟩:=I.tuple b1
   have z:=RcAt.tuples (A:=A) (s:=s) lM oW (by omega) (gF ih hd (by omega) a2 b2 v1 v2)
   rw[pO,show jT.toArray.size=its2.toArray.size by rw[B0,B0,←v1.length,←v2.length,a2.length,b2.length],beq_self_eq_true]at z
   exact EqAt.of_refs hab z
  | _=>unfold Ii at hd;cases hd
end
section
open SeqAt
variable{K:aA}{X:Cx}
def Lj(K:aA)(c:Bool):R2:=λx y H Q=>∃ds,gR ds 32=true∧Rv K H (.lst ds) x∧Rv K H (.lst ds) y∧Q (.bl c) H
theorem Ww(hu:X.A.units+64<cLine):jQ X (compareOp .Eq) (Lj X.K true):=by
 intro pins s σ H x y v u Q I rx ry h
 obtain⟨ds,hd,r1,r2,q⟩:=h
 unfold Rv at r1 r2
 obtain⟨a,xs,rfl,a1,a2⟩:=r1
 obtain⟨b,ys,rfl,b1,b2⟩:=r2
 cases rx
 cases ry
 obtain⟨jT,v1,lM,_⟩:=I.list a1
 obtain⟨its2,v2,oW,_⟩:=I.list b1
 have z:=RcAt.lists (A:=X.A) (s:=s) lM.isList oW.isList (by rw[B0,B0,←v1.length,←v2.length,a2.length,b2.length]) (by omega) (gF (Er I 32) hd (by omega) a2 b2 v1 v2)
 rw[pO]at z
 exact z X.prog X.w X.xe _ ⟨.bl _,H,I,rfl,q⟩
theorem Wx(hu:X.A.units+64<cLine):jQ X (compareOp .NotEq) (Lj X.K false):=by
 intro pins s σ H x y v u Q I rx ry h
 obtain⟨ds,hd,r1,r2,q⟩:=h
 unfold Rv at r1 r2
 obtain⟨a,xs,rfl,a1,a2⟩:=r1
 obtain⟨b,ys,rfl,b1,b2⟩:=r2
 cases rx
 cases ry
 obtain⟨jT,v1,lM,_⟩:=I.list a1
 obtain⟨its2,v2,oW,_⟩:=I.list b1
 have z:=RcNeAt.lists (A:=X.A) (s:=s) lM.isList oW.isList (by rw[B0,B0,←v1.length,←v2.length,a2.length,b2.length]) (by omega) (gF (Er I 32) hd (by omega) a2 b2 v1 v2)
 rw[pO]at z
 exact z X.prog X.w X.xe _ ⟨.bl _,H,I,rfl,q⟩
open Classical in
noncomputable def Hj(c:Bool)(a b:D):Option D:=match a with
 | .lst ds=>if b=.lst ds∧gR ds 32=true then some (.bl c)else none
 | _=>none
theorem Lk(c:Bool):Ju K (Lj K c) (Hj c):=λx y H a b d Q ra rb q k=>by
 unfold Hj at q
 split at q
 ·split at q
  ·rename_i h
   cases q
   rw[h.1]at rb
   exact⟨_,h.2,ra,rb,k _ H (aD.refl _) (.cX rfl (by unfold Rv;rfl))⟩
  ·cases q
 ·cases q
theorem Wy(hu:X.A.units+64<cLine)(hk:X.K=K):jQ X (compareOp .Eq) (Lj K true):=by subst hk;exact Ww hu
theorem Wz(hu:X.A.units+64<cLine)(hk:X.K=K):jQ X (compareOp .NotEq) (Lj K false):=by subst hk;exact Wx hu
end
section
variable{K:aA}{X:Cx}
def Bv(K:aA):List V→Hp→VK→Prop:=λxs H Q=>∃(p:Addr)(zs:List V)(ps:List (Int×Int)),xs=[.ref p]∧gW K H p zs∧bC K H (ps.map pD) zs∧ps.length≤1000∧(ps.map (·.1)).Nodup∧∀l,H l=none→Q (.ref l) (upd H l (.dK (Le ps)))
theorem Bw(hc:X.calm=true):dY X (.type "dict") (Bv X.K):=by
 intro pins s σ H xs us Q I r h
 obtain⟨p,zs,ps,rfl,hq,hr,hz,hn,q⟩:=h
 obtain⟨u,rfl,rx⟩:=vals1 r
 cases rx
 obtain⟨its,rv,pl,_⟩:=I.list hq
 refine Li (I.ok.hd hc) pl (rR I hr rv) hn hz λh' tk vs kv dd kp=>?_
 refine⟨.ref _,_,I.laid (t':=tk) (a:=s.heap.objs.size) (o:=.dK (Le ps)) kp (B6 _) ?_,rfl,q _ (I.hok.fresh (B6 _))⟩
 exact Ak (by unfold Le;rw[B4,sizeLine_eq];omega) (beq_eq_false_iff_ne.mpr (Ne.symm (C3 I.big))) kv dd
def xH:List D→Option D
 | [.lst ds]=>(jY ds).bind λps=>if ps.length≤1000∧(ps.map (·.1)).Nodup then some (.dk (ps.map λp=>.inl p.1) (ps.map λp=>.int p.2))else none
 | _=>none
theorem Es:∀ps:List (Int×Int),(ps.map λp=>(B5 p.1:Key)).zip (ps.map λp=>V.int p.2)=Le ps
 | []=>rfl
 | p::ps=>by rw[B3,B3,F2,Es ps];rfl
theorem zJ{H:Hp}:∀ps:List (Int×Int),bH K H (ps.map λp=>D.int p.2) nil (ps.map λp=>V.int p.2)
 | []=>by rw[D4,D4];unfold bH;exact⟨λ_ z=>z,rfl⟩
 | p::ps=>by
  rw[B3,B3]
  unfold bH
  refine⟨_,_,nil,nil,rfl,λ_ z=>z.elim,λx=>⟨.inl,λz=>z.elim id id⟩,?_,zJ ps⟩
  unfold Ow
  exact⟨λ_ z=>z,rfl⟩
theorem Ln:rB K (Bv K) xH:=λvs H ds d Q rs q k=>by
 unfold xH at q
 split at q
 ·obtain⟨ps,q1,q2⟩:=aR q
  split at q2
  ·rename_i hl
   cases q2
   obtain⟨v,rfl,r⟩:=wQ rs
   rw[kZ q1]at r
   unfold Rv at r
   obtain⟨p,zs,rfl,r2,r3⟩:=r
   refine⟨p,zs,ps,rfl,r2,r3,hl.1,hl.2,λl hl=>k _ _ (bD hl _) ⟨(·=l),?_,λa z=>by cases z;exact hl⟩⟩
   unfold Ow
   exact⟨l,ps.map λp=>V.int p.2,nil,rfl,by rw[Es];exact aQ,by rw[B4,B4],λz=>z,λx=>⟨.inl,λz=>z.elim id False.elim⟩,zJ ps⟩
  ·cases q2
 ·cases q
theorem Lp(hk:X.K=K)(hc:X.calm=true):dY X (.type "dict") (Bv K):=by subst hk;exact Bw hc
end
end L2


namespace L2
open PySem PySem.W PySem.Spec PyProof.Rows
def lA{β:Type}:List Key→List β→Key→List β
 | a::ks,d::ds,k=>if a=k then lA ks ds k else d::lA ks ds k
 | _,_,_=>[]
def Bx(ks:List Key)(k:Key):List Key:=ks.filter λa=>decide (a≠k)
theorem uY{k:Key}:∀{ks:List Key} {xs:List V},ks.length=xs.length→pZ (ks.zip xs) k=(Bx ks k).zip (lA ks xs k)∧(Bx ks k).length=(lA ks xs k).length
 | [],xs,_=>⟨rfl,by cases xs<;>rfl⟩
 | a::ks,[],h=>by simp at h
 | a::ks,x::xs,h=>by
  obtain⟨h1,h2⟩:=uY (k:=k) (ks:=ks) (xs:=xs) (by simpa using h)
  unfold pZ at h1 ⊢
  unfold Bx at h1 h2 ⊢
  unfold lA
  rw[F2,G7,G7]
  by_cases c:a=k
  ·rw[if_neg (by simp[c]),if_neg (by simp[c]),if_pos c]
   exact⟨h1,h2⟩
  ·rw[if_pos (by simp[c]),if_pos (by simp[c]),if_neg c,F2,h1]
   exact⟨rfl,by rw[F0,F0,h2]⟩
section
variable{K:aA}{X:Cx}{e a b c:Expr}{ta tb te:TE}{f g:FE}{pos:Pos}{i j:Nat}{π:FP}{tc:TT}{fc:FT}
theorem Et{H:Hp}(k:Key):∀{ks:List Key} {ds:List D} {A:Fp} {xs:List V},ks.length=xs.length→bH K H ds A xs→∃A',(∀x,A' x→A x)∧bH K H (lA ks ds k) A' (lA ks xs k)
 | [],ds,A,xs,hl,h=>by
  cases xs with
  | nil=>exact⟨nil,λ_ z=>z.elim,by cases ds<;>(unfold lA bH;exact⟨λ_ z=>z,rfl⟩)⟩
  | cons x xs=>simp at hl
 | k0::ks,[],A,xs,hl,h=>by unfold bH at h;rw[h.2]at hl;simp at hl
 | k0::ks,d0::ds,A,xs,hl,h=>by
  unfold bH at h
  obtain⟨y,yt,A1,A2,rfl,h2,h3,h4,h5⟩:=h
  obtain⟨A',a1,a2⟩:=Et k (ks:=ks) (by simpa using hl) h5
  unfold lA
  by_cases c:k0=k
  ·rw[if_pos c,if_pos c]
   exact⟨A',λx q=>(h3 x).mpr (.inr (a1 x q)),a2⟩
  ·rw[if_neg c,if_neg c]
   refine⟨cI A1 A',λx q=>(h3 x).mpr (q.imp id (a1 x)),?_⟩
   unfold bH
   exact⟨y,_,A1,A',rfl,λx z1 z2=>h2 x z1 (a1 x z2),λ_=>Iff.rfl,h4,a2⟩
def uZ(i:Nat)(π:FP)(g:FE):GS:=λenv=>match env[i]?,π (rE env),g (rE env)with
 | some (.own d0),some p,some k=>(match lX p d0,Gw k with
  | some (.dk ks ds),some k=>if(posK ks k).isSome=true then .next (env.set i (.own (lY p d0 (.dk (Bx ks k) (lA ks ds k)))))else .bad
  | _,_=>.bad)
 | _,_,_=>.bad
theorem Qx(h:FQ K ta i π)(hx:wL K tb g):BJ K (nU (An ta tb)) (uZ i π g):=λB E σ H env r p=>by
 unfold uZ at p
 split at p
 ·rename_i d0 pp kd q1 q2 q3
  split at p
  ·rename_i ks ds k q4 q5
   split at p
   ·rename_i hc
    obtain⟨v0,a,xs,Bs,k1,k2,k3,Sy,k4,k5,k6⟩:=r.BL q1 q4
    refine h σ H (rE env) v0 pp _ _ r.r k1 q2 k2 λH2 s2=>?_
    refine⟨a,rfl,.inl ⟨_,.of (s2 _ _ k3)⟩,hx σ H2 H2 (rE env) _ _ (Zn.self K H2) (r.r.same s2) q3 λy' H3 Z3 s3 t3 z3 JS=>?_⟩
    have KR:=s2.trans s3
    have ek:=pL q5 (z3.sm.rv _ _ JS)
    obtain⟨j,hj⟩:=O1.mp hc
    have hjl:j<xs.length:=by have:=(pK hj).1;omega
    obtain⟨e1,e2⟩:=uY (k:=k) Sy
    obtain⟨A',a1,a2⟩:=Et k Sy (k5.same KR)
    refine⟨ks.zip xs,k,xs[j],KR _ _ k3,ek,by rw[fH Sy,hj,C7,A9 hjl],p _ ?_⟩
    rw[e1]
    exact k6 H3 (Bx ks k) (lA ks ds k) (lA ks xs k) A' KR e2 a2 λb z=>.inl (a1 b z)
   ·exact p.elim
  ·exact p.elim
 ·exact p.elim
theorem Qy{apos cpos:Pos}(h:XP K X a ta i π)(hx:XR K X b tb g)(m:M1 X a "pop" apos b cpos):YS K X (.Expr (.Call (.Attribute a "pop" apos) [b] [] cpos) pos) (nU (An ta tb)) (uZ i π g):=⟨pG (Ji h.pe hx.pe m),(Qx h.ev hx.ev).ds⟩
def CP(K:aA)(wi:TI)(fi:FA):Prop:=∀(σ:St)(H:Hp)(e:DE)(ds:List D)(R:It→Hp→Prop),iG K H e σ→fi e=some ds→(∀J H' P vs,aD H H'→Vq J P vs→(∀H2,aD H' H2→P H2)→bC K H' ds vs→R J H')→wi σ H R
theorem Lq{wi:TI}{fi:FA}{fr:List Nat}{te:TE}{fe:FE}(hi:CP K wi fi)(hc:Ah K tc fc)(he:uA K te fe):uA K (lJ wi 1 fr (bZ 0) tc te) (fK fi fr fc fe):=by
 intro σ H e d Q re q k
 unfold fK at q
 obtain⟨xs,q1,q⟩:=aR q
 split at q
 ·rename_i hlen
  obtain⟨ds,q2,rfl⟩:=cR q
  refine hi σ H e xs _ re q1 λJ H1 P vs s1 hJ hP rvs=>?_
  intro D0 hD
  have hl:=rvs.length
  have JL:H D0=none:=s1.free hD
  generalize hcc:(λx=>fc (some x::dC e fr))=cc at q2
  generalize hel:(λx=>fe (some x::dC e fr))=el at q2
  refine⟨λi m ys H2=>∃Gz Qi A,m=vs.length-i∧i≤vs.length∧ds=Gz++Qi∧eE cc el (xs.drop i)=some Qi∧aD H1 H2∧H2 D0=some (.lst ys)∧bH K H2 Gz A ys∧(∀a,A a→H1 a=none∧a≠D0)∧ys.length≤i,
   ⟨vs.length,[],ds,nil,by simp,F9 _,rfl,by simpa using q2,bD hD _,aQ,by unfold bH;exact⟨λ_ z=>z,rfl⟩,λ_ z=>z.elim,B6 _⟩,?_⟩
  rintro i m ys H2 ⟨Gz,Qi,A,rfl,hi',hds,hcl,s2,hD2,ow,fr2,hyl⟩
  obtain⟨j1,j2,j3⟩:=hJ i H2 (hP H2 s2)
  refine⟨hD2,?_⟩
  by_cases hlt:i<vs.length
  ·refine .inr ⟨j1 hlt,λx H' y=>?_⟩
   obtain⟨e1,ex⟩:=j2 x H' y
   subst e1
   have hx:=ex hlt
   have hxi:i<xs.length:=by omega
   have hxs:xs.drop i=xs[i]::xs.drop (i+1):=K4 hxi
   obtain⟨x',hx',rx⟩:=rvs.get (A9 hxi)
   rw[hx]at hx'
   cases hx'
   rw[hxs]at hcl
   unfold eE at hcl
   obtain⟨bb,c1,c2⟩:=aR hcl
   show Kp 1 σ fr (some x::wD σ fr)∧_
   refine⟨⟨by simp[blk],λj v hv=>?_⟩,?_⟩
   ·cases j with
    | zero=>simp[blk]at hv
    | succ j=>simpa[blk]using hv
   have Zw:iG K H' (some xs[i]::dC e fr) (some x::wD σ fr):=Ef (re.same (s1.trans s2)) (s2.rv _ _ rx)
   refine hc _ H' _ bb _ Zw (by rw[←hcc]at c1;exact c1) λH3 s3=>?_
   have Wj:=s3 _ _ hD2
   cases bb with
   | false=>
    rw[if_neg (by decide)]at c2 ⊢
    exact⟨vs.length-(i+1),by omega,Gz,Qi,A,rfl,by omega,hds,c2,s2.trans s3,Wj,ow.same s3,fr2,by omega⟩
   | true=>
    rw[if_pos rfl]at c2 ⊢
    obtain⟨dy,c3,c4⟩:=aR c2
    obtain⟨JM,c5,rfl⟩:=cR c4
    refine he _ H3 _ dy _ (Zw.same s3) (by rw[←hel]at c3;exact c3) λyv H4 s4 n4=>?_
    have Zx:=s4 _ _ Wj
    refine⟨Zx,Du (by omega),vs.length-(i+1),by omega,Gz++[dy],JM,?_⟩
    obtain⟨B,oB,fB⟩:=n4
    have hB:∀a,B a→H1 a=none∧a≠D0:=λa qa=>⟨(s2.trans s3).free (fB a qa),λz=>by have q0:=fB a qa;rw[z,Wj]at q0;cases q0⟩
    refine⟨cI A B,rfl,by omega,by rw[hds];simp,c5,λb o eb=>?_,aQ,?_,λa qa=>qa.elim (fr2 a) (hB a),by rw[D7];simp;exact hyl⟩
    ·rw[aJ (bU eb hD)]
     exact(s2.trans (s3.trans s4)) b o eb
    ·have o4:=(ow.same s3).same s4
     have ap:Apart A B:=λa qa qb=>by
      obtain⟨⟨u,eu⟩,_⟩:=bH.cells _ _ _ (ow.same s3) a qa
      rw[fB a qb]at eu;cases eu
     have all:bH K H4 (Gz++[dy]) (cI A B) (ys++[yv]):=cA.mpr ((cA.mp o4).snoc oB ap)
     exact bH.frame (kY (fG Zx)) _ _ _ all λa qa=>aJ (qa.elim (λz=>(fr2 a z).2) λz=>(hB a z).2)
  ·have ei:i=vs.length:=by omega
   subst ei
   have:xs.drop vs.length=[]:=P6 (by omega)
   rw[this]at hcl
   unfold eE at hcl
   cases hcl
   rw[L8]at hds
   subst hds
   refine .inl ⟨j3 (B6 _),k _ H2 (s1.trans s2) ⟨cI (·=D0) A,?_,λa qa=>qa.elim (λz=>by cases z;exact JL) λz=>s1.free (fr2 a z).1⟩⟩
   unfold Ow
   exact⟨D0,ys,A,rfl,hD2,λz=>(fr2 D0 z).2 rfl,λ_=>Iff.rfl,ow⟩
 ·cases q
def QJ(a:Addr)(o:Obj)(kvs:List (Key×V)):TI:=λ_ H R=>H a=some (.eV o (.dK kvs))→R (FN a o kvs) H
theorem Lr{H:Hp}:∀{ks:List Key} {xs:List V},ks.length=xs.length→bC K H (ks.map kD) ((ks.zip xs).map λkv=>kV kv.1)
 | [],xs,_=>by rw[D4,List.zip_nil_left,D4];unfold bC;rfl
 | k::ks,[],h=>by simp at h
 | k::ks,x::xs,h=>by
  rw[B3,F2,B3]
  unfold bC
  refine⟨_,_,rfl,?_,Lr (by simpa using h)⟩
  cases k with
  | inl i=>unfold kD Rv;rfl
  | inr x=>unfold kD Rv;rfl
theorem Xa{a:Addr}{o:Obj}{ks:List Key}{xs:List V}(hl:ks.length=xs.length):CP K (QJ a o (ks.zip xs)) (λ_=>some (ks.map kD)):=λσ H e ds R re q k=>by
 cases q
 exact λhf=>k _ H _ _ (aD.refl _) Jo (λH2 s=>s _ _ hf) (Lr hl)
theorem Ls{B:Hp}{env:EN}{σ:St}{H:Hp}{ks:List Key}{ds:List D}{ns:List Int}(r:Rel K B env σ H)(e:env[i]?=some (.own (.dk ks ds)))(hn:intsOf ds=some ns):∃a xs,σ[i]?=some (some (.ref a))∧H a=some (.dK (ks.zip xs))∧ks.length=xs.length ∧
  ∀o,Rel K B (env.set i (.fro (.dk ks ds))) σ (upd H a (.eV o (.dK (ks.zip xs)))):=by
 obtain⟨A,a0,bb⟩:=r
 have cl:=cN a0
 obtain⟨y,A1,C,h1,h2,h3,h4,k⟩:=a0.focus e
 have h4':=h4
 obtain⟨v,rfl,ow⟩:=h4
 unfold Ow at ow
 obtain⟨a,xs,Bs,rfl,o2,o2',o3,o4,o5⟩:=ow
 refine⟨a,xs,h1,o2,o2',λo=>?_⟩
 have ha1:A1 a:=(o4 a).mpr (.inl rfl)
 have haC:¬C a:=λz=>h2 a ha1 z
 have tk:mQ K H (upd H a (.eV o (.dK (ks.zip xs)))):=kY (lO o2)
 have g:aD (out H A) (out (upd H a (.eV o (.dK (ks.zip xs)))) (cI nil C)):=λx u ex=>by
  obtain⟨e1,e2⟩:=aV.mp ex
  have na:x≠a:=λz=>e1 ((h3 x).mpr (.inl (z▸ha1)))
  exact aV.mpr ⟨λz=>e1 ((h3 x).mpr (.inr (z.elim False.elim id))),by rw[aJ na];exact e2⟩
 have za:out (upd H a (.eV o (.dK (ks.zip xs)))) (cI nil C) a=some (.eV o (.dK (ks.zip xs))):=aV.mpr ⟨λz=>z.elim id haC,aQ⟩
 have hxs:xs=ns.map V.int:=by
  have:=bH.rv _ _ _ o5
  rw[iI hn]at this
  exact fJ.mp this
 have key:=k (cY K (upd H a (.eV o (.dK (ks.zip xs)))) (out (upd H a (.eV o (.dK (ks.zip xs)))) (cI nil C))) (λsd D z hb qq=>by
  have fm:∀x,D x→upd H a (.eV o (.dK (ks.zip xs))) x=H x:=λx zx=>aJ λw=>haC (w▸hb x zx)
  cases sd with
  | no=>exact qq
  | fro d=>obtain⟨q1,v,q2,q3⟩:=qq;exact⟨q1,v,q2,g.rv _ _ q3⟩
  | inn v d=>exact⟨qq.1,Ow.frame tk _ _ _ qq.2 fm⟩
  | own d=>obtain⟨v,q1,q2⟩:=qq;exact⟨v,q1,Ow.frame tk _ _ _ q2 fm⟩) (.fro (.dk ks ds)) (some (.ref a)) nil (λ_ z=>z.elim) ⟨λ_ z=>z,_,rfl,by
   unfold Rv
   refine⟨a,xs,rfl,.inr ⟨o,za⟩,o2',?_⟩
   rw[iI hn]
   exact fJ.mpr hxs⟩
 rw[set_same h1]at key
 exact⟨cI nil C,key,bb.trans g⟩
def xJ(ks:List Key)(fr:List Nat)(fe:FE):FE:=fL rU (aC (fK (λ_=>some (ks.map kD)) fr Ko fe) aN)
def vA(t i:Nat)(fr:List Nat)(fe:FE):GS:=λenv=>match env[t]? with
 | some (.own (.dk ks ds))=>(match intsOf ds with
  | some _=>dB i (xJ ks fr fe) (env.set t (.fro (.dk ks ds)))
  | none=>.bad)
 | _=>.bad
theorem Qz{t:Nat}{fr:List Nat}{fe:FE}(he:uA K te fe):DS K (xX (Ol (nF K) (eX (lJ (Jp (tV t)) 1 fr (bZ 0) Jk te) oR)) (bZ i)) (vA t i fr fe):=λB E σ H env r p=>by
 unfold vA at p
 split at p
 case h_2=>exact p.elim
 rename_i ks ds q
 split at p
 case h_2=>exact p.elim
 rename_i ns hn
 obtain⟨a,xs,k1,k2,k3,k4⟩:=Ls r q hn
 refine⟨_,k1,a,ks.zip xs,rfl,k2,λo=>?_⟩
 have hT:Ah K Jk Ko:=λσ H e b Q re q k=>by cases q;exact k H (aD.refl _)
 have ev:uA K (Ol (nF K) (eX (lJ (QJ a o (ks.zip xs)) 1 fr (bZ 0) Jk te) oR)) (xJ ks fr fe):=Kg zA (Ds (Lq (Xa k3) hT he).r Jx)
 exact(Bg (i:=i) ev) B E σ _ _ (k4 o) p aQ
theorem Ra{tg elt iter:Expr}{scope:Scope}{fr:List Nat}{fe:FE}{t:Nat}{x y:Str}{p2 p3 p4 pos':Pos}(N:List Str)(hcalm:X.calm=true)(B:bW X.env.scope scope X.N N 1 fr)(hv:PE X iter (tV t))
  (hg:∀cl fp s H C,PG (bO X scope N cl fp s H C) tg (bZ 0)) (he:∀cl fp s H C,XN K (bO X scope N cl fp s H C) elt te fe) (hk:X.K=K)
  (VH:Gl X y) (hm:X.mg y=none) (hb:bootBuiltins y=some (.builtin "sorted")) (hN:X.N.Nodup) (hi:X.N[i]?=some x) (hx:Loc X.env.scope x)
  (hs:∀x,foldedSetIterable iter X.env x=pure x:=by intro _;rfl) (hn:y ≠ "__name__" := by decide) (hdb:(y==("__debug__" : Str))=false:=by decide)
  (hst:starEach [.ListComp elt [⟨tg,iter,[],0⟩] scope p4] X.env=(false,eval (.ListComp elt [⟨tg,iter,[],0⟩] scope p4) X.env)::starEach [] X.env:=by rfl)
  (hpl:(backTo p3 (starEach [] X.env)).any (·.1)=false:=by rfl)
  (hsw:swapsWith (.Call (.Name y p2) [.ListComp elt [⟨tg,iter,[],0⟩] scope p4] [] p3) (some (.Name x pos')) pos.line X.env=pure false:=by rfl)
  (hf:X.fn x=true∨X.env.scope.names.lookup x=some .local:=by first | exact .inl rfl | exact .inr rfl | assumption) :
  YS K X (.Assign [.Name x pos'] (.Call (.Name y p2) [.ListComp elt [⟨tg,iter,[],0⟩] scope p4] [] p3) pos) (xX (Ol (nF K) (eX (lJ (Jp (tV t)) 1 fr (bZ 0) Jk te) oR)) (bZ i)) (vA t i fr fe):=
 ⟨cF hN hi hx (pY (zB hk) VH hm hb (gA (Dm N 1 fr hcalm B (Pu hv) hg (λcl fp s H C=>Pg) (λcl fp s H C=>(he cl fp s H C).pe) hs) mJ hst) hn hdb hst hpl) hsw hf,Qz (he [] [] X.s₀ X.H₀ 0).ev⟩
end
end L2


namespace L2
open PySem PySem.W PySem.Spec PyProof.Rows
section
open SeqAt
variable{K:aA}{X:Cx}
end
end L2


namespace L2
open PySem PySem.Spec PyProof.Rows
abbrev fU(ns:List Int):D:=.lst (ns.map D.int)
theorem nG{i:Nat}{g:GS}(I:Nat→EN→Prop):∀(xs:List D)(env:EN)(n:Nat),I n env→(∀k x env,xs[k]?=some x→I (n+k) env→i<env.length∧∃env',g (env.set i (.fro x))=.next env'∧I (n+k+1) env')→∃env',wR i g xs env=.next env'∧I (n+xs.length) env'
 | [],env,n,h,_=>⟨env,by unfold wR;rfl,h⟩
 | x::xs,env,n,h,st=>by
  obtain⟨h1,env',h2,h3⟩:=st 0 x env rfl h
  obtain⟨wU,a1,a2⟩:=nG I xs env' (n+1) h3 λk y e hk hi=>by
   have:=st (k+1) y e (by simpa using hk) (by rw[show n+(k+1)=n+1+k by omega];exact hi)
   rw[show n+(k+1)+1=n+1+k+1 by omega]at this
   exact this
  refine⟨wU,?_,?_⟩
  ·unfold wR
   rw[if_pos h1,h2]
   exact a1
  ·rw[F0,show n+(xs.length+1)=n+1+xs.length by omega]
   exact a2
theorem fV{g1 g2:GS}{env env':EN}(h:g1 env=.next env'):aX g1 g2 env=g2 env':=by unfold aX;rw[h]
theorem zK{g1 g2:GS}{env:EN}{d:D}(h:g1 env=.ret d):aX g1 g2 env=.ret d:=by unfold aX;rw[h]
theorem rY{f:FT}{g1 g2:GS}{env:EN}(h:f (rE env)=some true):rH f g1 g2 env=g1 env:=by unfold rH;rw[h]
theorem nH{f:FT}{g1 g2:GS}{env:EN}(h:f (rE env)=some false):rH f g1 g2 env=g2 env:=by unfold rH;rw[h]
theorem Eu{i:Nat}{f:FE}{env:EN}{d:D}(h:f (rE env)=some d)(hi:i<env.length):dB i f env=.next (env.set i (.own d)):=by unfold dB;rw[h];dsimp only;rw[if_pos hi]
theorem eG{f:FE}{env:EN}{d:D}(h:f (rE env)=some d):dX f env=.ret d:=by unfold dX;rw[h]
theorem Ew{js:List Nat}{i:Nat}{fi:FA}{g:GS}{env iM:EN}{xs:List D}(h0:eV js env=iM)(h:fi (zE iM)=some xs):pB js i fi g env=wR i g xs iM:=by unfold pB;rw[h0,h]
theorem fW{n m:Nat}{g:GS}{ds:List D}{d:D}(hl:ds.length=m)(h:g (ds.map SD.fro++E2 (n-m) SD.no)=.ret d):fO n m g ds=some d:=by unfold fO;rw[if_pos hl,h]
theorem aM{φ:D→D→Option D}{f g:FE}{e:DE}{a b d:D}(h1:f e=some a)(h2:g e=some b)(h:φ a b=some d):f2 φ f g e=some d:=by unfold f2;rw[h1,h2];exact h
theorem jZ{φ:List D→Option D}{fs:FA}{e:DE}{ds:List D}{d:D}(h1:fs e=some ds)(h:φ ds=some d):fL φ fs e=some d:=by unfold fL;rw[h1];exact h
theorem aB{f:FE}{fs:FA}{e:DE}{a:D}{r:List D}(h1:f e=some a)(h2:fs e=some r):aC f fs e=some (a::r):=by unfold aC;rw[h1,h2];rfl
theorem aW{n:Nat}{F:List D→Option D}{fs:FA}{e:DE}{ds:List D}{d:D}(h1:fs e=some ds)(hl:ds.length=n)(h:F ds=some d):bI n F fs e=some d:=by unfold bI;rw[h1];dsimp only[C7];rw[if_pos hl];exact h
theorem cD{f:FE}{e:DE}{b:Bool}(h:f e=some (.bl b)):fB f e=some b:=by unfold fB;rw[h];rfl
theorem gG{f:FT}{e:DE}{b:Bool}(h:f e=some b):mZ f e=some (!b):=by unfold mZ;rw[h];rfl
theorem zL{f g:FT}{e:DE}(h:f e=some false):Nq f g e=g e:=by unfold Nq;rw[h];rfl
theorem Lw{f g:FT}{e:DE}(h:f e=some false):oZ f g e=some false:=by unfold oZ;rw[h];rfl
theorem cH{f:FE}{e:DE}{d:D}(h:f e=some d)(i:d.cX=true):dI f e=some d:=uU.mpr ⟨h,i⟩
theorem cO(i j:Int):gO (.int i) (.int j)=some (.int (i+j)):=rfl
theorem lZ(i j:Int):Jz (.int i) (.int j)=some (.int (i-j)):=by unfold Jz tQ;exact if_pos True.intro
theorem iU{i j:Int}(h:vR i j):Gs (.int i) (.int j)=some (.int (i*j)):=by unfold Gs tQ;exact if_pos h
theorem iV{i j:Int}(h:0<j)(h2:j<1073741824):Gu (.int i) (.int j)=some (.int (i/j)):=by unfold Gu tQ;exact if_pos (show Ga i j from⟨h,h2⟩)
theorem bY{i j:Int}(h:0<j):mV (.int i) (.int j)=some (.int (i%j)):=by unfold mV tQ;exact if_pos h
theorem fX{i j:Int}(h:Gb i j):oY (.int i) (.int j)=some (.int (i ^ j.toNat)):=by unfold oY tQ;exact if_pos h
theorem xK(i j:Int):Zq (.int i) (.int j)=some (.bl (decide (i<j))):=by unfold Zq tQ;exact if_pos True.intro
theorem Ey(i j:Int):decide (V.int i=V.int j)=decide (i=j):=by
 by_cases c:i=j
 ·subst c;simp
 ·rw[decide_eq_false c,decide_eq_false (λz=>c (by cases z;rfl))]
theorem xM(i j:Int):Gv (.int i) (.int j)=some (.bl (decide (i=j))):=by
 unfold Gv toV
 dsimp only
 rw[if_pos (by rfl),Ey]
theorem pP(i j:Int):Yi (.int i) (.int j)=some (.bl (!decide (i=j))):=by
 unfold Yi toV
 dsimp only
 rw[if_pos (by rfl),Ey]
theorem By{α:Type}{xs:List α}{i:Int}{x:α}(h0:0≤i)(h:xs[i.toNat]?=some x):Jc xs i=some x:=by
 have h1:i.toNat<xs.length:=by
  obtain⟨h1,_⟩:=B9.mp h
  exact h1
 unfold Jc Zb
 rw[if_pos h0,if_pos (by omega)]
 exact h
theorem mC{ds:List D}{i:Int}{d:D}(h0:0≤i)(h:ds[i.toNat]?=some d):nZ (.lst ds) (.int i)=some d:=By h0 h
theorem jJ{ds:List D}{i:Int}{d:D}(h0:0≤i)(h:ds[i.toNat]?=some d):nZ (.tup ds) (.int i)=some d:=By h0 h
theorem rZ{ns:List Int}{i:Int}(h0:0≤i)(h:i<ns.length):nZ (fU ns) (.int i)=some (.int (ns.getD i.toNat 0)):=By h0 (by
 rw[C4,B7,A9 (show i.toNat<ns.length by omega)];rfl)
theorem mD(ds:List D):uB [.lst ds]=some (.int ds.length):=rfl
theorem sE(ds:List D):uB [.tup ds]=some (.int ds.length):=rfl
theorem nJ(ns:List Int):uB [fU ns]=some (.int ns.length):=by show some (D.int ((ns.map D.int).length:Nat))=_;rw[B4]
theorem zM{fi:FA}{fr:List Nat}{fc:FT}{fe:FE}{e:DE}{xs ys:List D}(h1:fi e=some xs)(hl:xs.length≤100000)(h:eE (λx=>fc (some x::dC e fr)) (λx=>fe (some x::dC e fr)) xs=some ys):fK fi fr fc fe e=some (.lst ys):=by
 unfold fK
 rw[h1,C7,if_pos hl,h]
 rfl
theorem Rb{i j:Int}(h1:-18446744073709551616<j)(h2:j<18446744073709551616):vR i j:=.inr ⟨h1,h2⟩
theorem Xb{i:Nat}{f:FE}{env:EN}{ds:List D}{d:D}(h1:env[i]?=some (.own (.lst ds)))(h2:f (rE env)=some d)(hl:ds.length<100000):yR i iQ f env=.next (env.set i (.own (.lst (ds++[d])))):=by
 unfold yR iQ
 rw[h1,h2]
 dsimp only[lX]
 rw[if_pos hl]
 rfl
end L2


namespace L2
open PySem PySem.Spec PyProof.Rows
section
variable{i j:Nat}{f:FE}{c:FT}{g1 g2 g:GS}{env env':EN}{d:D}{r:SR}{ds:List D}
theorem Te{b:Bool}(h:c (rE env)=some b)(k1:b=true→aX g1 g env=r)(k2:b=false→aX g2 g env=r):aX (rH c g1 g2) g env=r:=by
 cases b with
 | true=>have k:=k1 rfl;unfold aX at k ⊢;rw[rY h];exact k
 | false=>have k:=k2 rfl;unfold aX at k ⊢;rw[nH h];exact k
theorem Xc{b:Bool}(h:c (rE env)=some b)(hb:b=false)(k:aX g2 g env=r):aX (rH c g1 g2) g env=r:=Te h (λz=>by rw[hb]at z;cases z) λ_=>k
theorem Xd{b:Bool}(h:c (rE env)=some b)(hb:b=true)(k:aX g1 g env=r):aX (rH c g1 g2) g env=r:=Te h (λ_=>k) (λz=>by rw[hb]at z;cases z)
theorem CQ(k:g env=r):aX fM g env=r:=k
theorem CT(h:f (rE env)=some d)(k:SR.ret d=r):aX (dX f) g env=r:=(zK (eG h)).trans k
theorem jK{fs:FA}{e:DE}(h:fs e=some ds)(hl:ds.length≤100000):mU fs e=some (.tup ds):=by unfold mU cap;rw[h];dsimp only[C7];rw[if_pos hl]
theorem eN{fs:FA}{e:DE}(h:fs e=some ds)(hl:ds.length≤100000):kI fs e=some (.lst ds):=by unfold kI cap;rw[h];dsimp only[C7];rw[if_pos hl]
theorem pQ{e:DE}{T:String}{d':D}(h:f e=some d)(k:yU T d=some d'):yV T f e=some d':=by unfold yV;rw[h];exact k
theorem Lx{e:DE}{b:Bool}(h:f e=some (.bl b)):yN f e=some (.bl (!b)):=by unfold yN;rw[cD h];rfl
theorem xN{e:DE}{f':FE}(h:f e=some (.bl true))(k:f' e=some d):rA f f' e=some d:=by unfold rA;rw[cD h];exact k
theorem pR{e:DE}{c':FT}{a b:Bool}(h:c e=some a)(k:c' e=some b):oZ c c' e=some (a&&b):=by
 unfold oZ;rw[h]
 cases a with
 | true=>exact k
 | false=>rfl
theorem dJ{e:DE}(h:f e=some (.lst ds)):pA f e=some ds:=by unfold pA;rw[h];rfl
theorem Ho{a b:List D}(h:D.bM (a++b)=true)(hl:a.length+b.length≤100000):gO (.lst a) (.lst b)=some (.lst (a++b)):=by
 show (if D.bM (a++b)=true∧a.length+b.length≤100000 then some (D.lst (a++b))else none)=_
 rw[if_pos ⟨h,hl⟩]
theorem vB(d:D)(ds:List D):D.bM (d::ds)=(d.cX&&D.bM ds):=by rw[D.bM]
theorem Ly{a b:List D}:D.bM (a++b)=(D.bM a&&D.bM b):=by
 induction a with
 | nil=>rw[T4,D.bM];rfl
 | cons x a ih=>rw[K0,vB,vB,ih,Bool.and_assoc]
theorem vC(h:D.bM ds=true):dList [.lst ds]=some (.lst ds):=by
 show (if D.bM ds=true then some (D.lst ds)else none)=_
 rw[if_pos h]
theorem Ca(ns:List Int):cT (ns.map D.int)=some (ns.map DV.int):=by
 induction ns with
 | nil=>unfold cT;rfl
 | cons n ns ih=>rw[B3];unfold cT bR;rw[C7,ih];rfl
end
end L2
namespace L2
theorem Rc{i:Nat}{e:DE}{d:D}(h:e[i]?=some (some d)):aG i e=some d:=by unfold aG;rw[h];rfl
theorem Lz{e:DE}:aN e=some []:=rfl
end L2
namespace L2
end L2


namespace L2
open PySem PySem.Spec PyProof.Rows
def Qs(Pr:SR→Prop)(r:SR):Prop:=Pr r
section
variable{i j:Nat}{f:FE}{c:FT}{g1 g2 g gb:GS}{env env':EN}{d:D}{ds:List D}{Pr:SR→Prop}
theorem cZ(h:f (rE env)=some d)(hi:i<env.length)(k:Qs Pr (g (env.set i (.own d)))):Qs Pr (aX (dB i f) g env):=by rw[fV (Eu h hi)];exact k
theorem KY(h:g1 env=.next env')(k:Qs Pr (g env')):Qs Pr (aX g1 g env):=by rw[fV h];exact k
theorem Cd(k:Qs Pr (g env)):Qs Pr (aX fM g env):=k
theorem CV(k:Pr (.next env)):Qs Pr (fM env):=k
theorem Xe{b:Bool}(h:c (rE env)=some b)(k1:b=true→Qs Pr (aX g1 g env))(k2:b=false→Qs Pr (aX g2 g env)):Qs Pr (aX (rH c g1 g2) g env):=by
 cases b with
 | true=>have k:=k1 rfl;unfold aX at k ⊢;rw[rY h];exact k
 | false=>have k:=k2 rfl;unfold aX at k ⊢;rw[nH h];exact k
theorem Tf{b:Bool}(h:c (rE env)=some b)(k1:b=true→Qs Pr (g1 env))(k2:b=false→Qs Pr (g2 env)):Qs Pr (rH c g1 g2 env):=by
 cases b with
 | true=>rw[rY h];exact k1 rfl
 | false=>rw[nH h];exact k2 rfl
theorem zN{b:Bool}(h:c (rE env)=some b)(hb:b=false)(k:Qs Pr (aX g2 g env)):Qs Pr (aX (rH c g1 g2) g env):=Xe h (λz=>by rw[hb]at z;cases z) λ_=>k
theorem Xf{b:Bool}(h:c (rE env)=some b)(hb:b=false)(k:Qs Pr (g2 env)):Qs Pr (rH c g1 g2 env):=Tf h (λz=>by rw[hb]at z;cases z) λ_=>k
theorem CW(h:f (rE env)=some d)(k:Pr (.ret d)):Qs Pr (aX (dX f) g env):=by rw[zK (eG h)];exact k
theorem sG(h:f (rE env)=some d)(k:Pr (.ret d)):Qs Pr (dX f env):=by rw[eG h];exact k
theorem Tg(h1:env[i]?=some (.own (.lst ds)))(h2:f (rE env)=some d)(hl:ds.length<100000)(k:Qs Pr (g (env.set i (.own (.lst (ds++[d])))))):Qs Pr (aX (yR i iQ f) g env):=by rw[fV (Xb h1 h2 hl)];exact k
theorem Ez{js:List Nat}{fi:FA}{iM:EN}{xs:List D}(I:Nat→EN→Prop)(hf:eV js env=iM)(h:fi (zE iM)=some xs)(h0:I 0 iM)
  (st:∀(k:Nat) x env,xs[k]?=some x→I k env→i<env.length∧Qs (λr=>∃env',r=.next env'∧I (k+1) env') (gb (env.set i (.fro x)))) (k:∀env',I xs.length env'→Qs Pr (g env')):Qs Pr (aX (pB js i fi gb) g env):=by
 obtain⟨env',h1,h2⟩:=nG (i:=i) (g:=gb) I xs iM 0 h0 λk x e hx hi=>by
  rw[M5]at hi ⊢
  exact⟨(st k x e hx hi).1,let ⟨e,a,b⟩:=(st k x e hx hi).2;⟨e,a,b⟩⟩
 rw[M5]at h2
 rw[fV ((Ew hf h).trans h1)]
 exact k env' h2
theorem sH{n m:Nat}{Pd:D→Prop}(hl:ds.length=m)(h:Qs (λr=>∃d,r=.ret d∧Pd d) (g (ds.map SD.fro++E2 (n-m) SD.no))):∃d,fO n m g ds=some d∧Pd d:=by
 obtain⟨d,h1,h2⟩:=h
 exact⟨d,fW hl h1,h2⟩
end
end L2
namespace L2
theorem Hq{fi:FA}{fr:List Nat}{fe:FE}{e:DE}{α:Type}{xs:List α}{ψ φ:α→D}(h1:fi e=some (xs.map ψ))(hn:xs.length≤1000)(he:∀x∈xs,fe (some (ψ x)::dC e fr)=some (φ x)):fK fi fr Ko fe e=some (.lst (xs.map φ)):=by
 refine zM h1 (by rw[B4];omega) ?_
 clear h1 hn
 induction xs with
 | nil=>rw[D4,D4];unfold eE;rfl
 | cons x xs ih=>
  rw[B3]
  unfold eE
  show (some true).bind _=_
  rw[C7,if_pos rfl,he x C9,C7,ih λy hy=>he y (C5 _ hy)]
  rfl
theorem Xg{b:Bool}{f:FE}{l h:FO}{e:DE}{ds:List D}{lo hi:Option Int}(h1:f e=some (.lst ds))(h2:l e=some lo)(h3:h e=some hi)(h4:b=false∨D.bM (gQ ds lo hi)=true):Nr b f l h e=some (.lst (gQ ds lo hi)):=by
 unfold Nr
 rw[h1,h2,h3]
 dsimp only[C7]
 rw[if_pos h4]
end L2


namespace L2
open PySem PySem.Spec PyProof.Rows
section
variable{i j:Nat}{f:FE}{c:FT}{g1 g2 g gb:GS}{env env':EN}{d:D}{ds:List D}{Pr:SR→Prop}
theorem Xh{js:List Nat}{fi:FA}{iM:EN}{xs:List D}(I:Nat→EN→Prop)(hf:eV js env=iM)(h:fi (zE iM)=some xs)(h0:I 0 iM)
  (st:∀(k:Nat) x env,xs[k]?=some x→I k env→i<env.length∧Qs (λr=>∃env',r=.next env'∧I (k+1) env') (gb (env.set i (.fro x)))) (k:∀env',I xs.length env'→Pr (.next env')):Qs Pr (pB js i fi gb env):=by
 obtain⟨env',h1,h2⟩:=nG (i:=i) (g:=gb) I xs iM 0 h0 λk x e hx hi=>by
  rw[M5]at hi ⊢
  exact⟨(st k x e hx hi).1,let ⟨e,a,b⟩:=(st k x e hx hi).2;⟨e,a,b⟩⟩
 rw[M5]at h2
 rw[(Ew hf h).trans h1]
 exact k env' h2
end
end L2
namespace L2
theorem Fb{l:List Int}{b:Int}:(B5 b:Key)∈l.map (B5:Int→Key)↔b∈l:=by
 rw[D8]
 constructor
 ·rintro⟨a,h1,h2⟩;cases h2;exact h1
 ·intro h;exact⟨b,h,rfl⟩
theorem Ma{l:List Int}{b:Int}(h:b∉l):posK (l.map (B5:Int→Key)) (B5 b)=none:=mX.mpr λz=>h (Fb.mp z)
end L2
namespace L2
end L2


namespace L2
open PySem PySem.Spec PyProof.Rows
def Hr(ks:List Int):D:=.dk (ks.map B5) (ks.map λ_=>.bl true)
theorem sI(i:Int)(ks:List Int):(posK (ks.map (B5:Int→Key)) (B5 i)).isSome=decide (i∈ks):=by
 by_cases c:i∈ks
 ·rw[decide_eq_true c]
  cases q:posK (ks.map (B5:Int→Key)) (B5 i)with
  | some j=>rfl
  | none=>exact absurd (Fb.mpr c) (mX.mp q)
 ·rw[decide_eq_false c,Ma c]
  rfl
theorem xO(neg:Bool)(i:Int)(ks:List Int):lW neg (.int i) (Hr ks)=some (.bl (if neg then !decide (i∈ks)else decide (i∈ks))):=by
 show some (D.bl (if neg then !(posK (ks.map (B5:Int→Key)) (B5 i)).isSome else(posK (ks.map (B5:Int→Key)) (B5 i)).isSome))=_
 rw[sI]
def iW(ks:List Int)(k:Int):List Int:=if k∈ks then ks else ks++[k]
theorem sJ(ks:List Int)(k j:Int):j∈iW ks k↔j∈ks∨j=k:=by
 unfold iW
 split
 ·rename_i c
  exact⟨.inl,λz=>z.elim id λe=>by rw[e];exact c⟩
 ·simp
theorem Ce{ks:List Int}{k:Int}(h:ks.Nodup):(iW ks k).Nodup:=by
 unfold iW
 split
 ·exact h
 ·rename_i c
  exact L0.mpr ⟨h,by simp,λx hx y hy=>by
   rw[D5.mp hy]
   intro z
   rw[z]at hx
   exact c hx⟩
theorem zO(ks:List Int)(k:Int):(iW ks k).length≤ks.length+1:=by
 unfold iW
 split
 ·omega
 ·simp
theorem vD(k:Key):∀ks:List Int,M4 (λ(k':Key) (d':D)=>if k'=k then D.bl true else d') (ks.map B5) (ks.map λ_=>D.bl true)=ks.map λ_=>D.bl true
 | []=>rfl
 | a::ks=>by
  rw[B3,B3,G3,vD k ks]
  split<;>rfl
theorem Mf{i:Nat}{f f':FE}{env:EN}{ks:List Int}{k:Int}(h1:env[i]?=some (.own (Hr ks)))(h2:f (rE env)=some (.int k))(h3:f' (rE env)=some (.bl true))(hl:ks.length<1000):iR i iQ f f' env=.next (env.set i (.own (Hr (iW ks k)))):=by
 unfold iR iQ
 rw[h1,h2,h3]
 dsimp only[lX,Hr]
 show (if D.cX (.bl true)=true∧(ks.map (B5:Int→Key)).length<100000 then _ else _)=_
 rw[if_pos ⟨rfl,by rw[B4];omega⟩]
 have e1:qX (ks.map (B5:Int→Key)) (B5 k)=(iW ks k).map B5:=by
  unfold qX iW
  rw[sI]
  by_cases c:k∈ks
  ·simp[c]
  ·simp[c]
 have e2:putD (ks.map (B5:Int→Key)) (ks.map λ_=>D.bl true) (B5 k) (.bl true)=(iW ks k).map λ_=>D.bl true:=by
  unfold putD iW
  rw[sI]
  by_cases c:k∈ks
  ·rw[decide_eq_true c,if_pos rfl,if_pos c,vD]
  ·rw[decide_eq_false c,if_neg (by decide),if_neg c,E6]
   rfl
 rw[e1,e2]
 rfl
theorem Xi{φ:D→Option D}{f:FE}{e:DE}{a d:D}(h1:f e=some a)(h:φ a=some d):FW φ f e=some d:=by unfold FW;rw[h1];exact h
theorem zP{α β:Type}(φ:α→β)(l:List α)(lo hi:Option Int):gQ (l.map φ) lo hi=(gQ l lo hi).map φ:=by
 unfold gQ
 rw[B4,←List.map_drop,←List.map_take]
theorem sO{b:Bool}{f:FE}{l h:FO}{e:DE}{ns:List Int}{lo hi:Option Int}(h1:f e=some (fU ns))(h2:l e=some lo)(h3:h e=some hi):Nr b f l h e=some (fU (gQ ns lo hi)):=by
 rw[Xg h1 h2 h3 (.inr (by rw[zP];exact rF _)),zP]
theorem Xj{α:Type}{l:List α}{c:Nat}(h:c≤l.length):gQ l (some (c:Int)) none=l.drop c:=by
 unfold gQ
 show (l.drop (HT.oU l.length 0 (some (c:Int)))).take (l.length-HT.oU l.length 0 (some (c:Int)))=_
 rw[lQ,show min c l.length=c by omega,L1 (by rw[L4];omega)]
theorem Xk{α:Type}(l:List α)(c:Nat):gQ l none (some (c:Int))=l.take c:=by
 unfold gQ
 show (l.drop 0).take (HT.oU l.length l.length (some (c:Int))-0)=_
 rw[lQ,List.drop_zero,Nat.sub_zero]
 rcases G9 c l.length with z | z
 ·rw[show min c l.length=c by omega]
 ·rw[show min c l.length=l.length by omega,L1 (B6 _),L1 z]
theorem Mg{α:Type}(l:List α)(a b:Nat):gQ l (some (a:Int)) (some (b:Int))=(l.drop a).take (b-a):=by
 unfold gQ
 rw[lQ,lQ]
 refine N7 λk=>?_
 rw[R8,N1,R8,N1]
 rcases G9 a l.length with z | z
 ·rw[show min a l.length=a by omega]
  by_cases c:k<min b l.length-a
  ·rw[if_pos c,if_pos (by omega)]
  ·rw[if_neg c]
   by_cases c2:k<b-a
   ·rw[if_pos c2,F7 (by omega)]
   ·rw[if_neg c2]
 ·rw[show min a l.length=l.length by omega,F7 (show l.length≤l.length+k by omega),F7 (show l.length≤a+k by omega)]
  split<;>split<;>rfl
structure CZ where
 DG:Int
 place:Int
 thing:List Int
 needs:List Int
 deriving Inhabited
def VJ(c:CZ):D:=.tup [.int c.DG,.int c.place,dTup c.thing,dTup c.needs]
def VL(cs:List CZ):D:=.lst (cs.map VJ)
abbrev at_(cs:List CZ)(k:Nat):CZ:=cs.getD k default
def YK(c:CZ):DV:=.tup [.int c.DG,.int c.place,.tup (c.thing.map DV.int),.tup (c.needs.map DV.int)]
theorem Mh(ns:List Int):bR (dTup ns)=some (.tup (ns.map DV.int)):=by
 unfold dTup bR
 rw[Ca]
 rfl
theorem nM{i j:Int}(h1:Builtin.Int.intBits i≤4000000)(h2:Builtin.Int.intBits j≤4000000):yZ (.int i) (.int j)=some (.int (i*j)):=by unfold yZ tQ;exact if_pos (show oF i j from⟨h1,h2⟩)
end L2
namespace L2
theorem jL{f:FE}{e:DE}{i:Int}(h:f e=some (.int i)):iJ f e=some (some i):=by unfold iJ;rw[h];rfl
end L2
namespace L2
end L2


namespace L2
open PySem PySem.Spec PyProof.Rows
end L2


namespace L2
open PySem PySem.Spec PyProof.Rows
section
variable{i j:Nat}{f f':FE}{c:FT}{g1 g2 g gb:GS}{env env':EN}{d d0 d' r:D}{ds:List D}{Pr:SR→Prop}{v:V}{π:FP}{p:List Step}
theorem Mi(h:f (rE env)=some d):rG f env=.next env:=by unfold rG;rw[h]
theorem Xl(h:f (rE env)=some d)(k:Qs Pr (g env)):Qs Pr (aX (rG f) g env):=by rw[fV (Mi h)];exact k
end
end L2


local macro_rules | `(tactic| walk_at "fs")=>`(tactic| exact⟨rfl,rfl,rfl,by decide +kernel,rfl,by decide +kernel,by decide +kernel⟩)
namespace Rs
open PySem L2
def top(i:Nat):Stmt:=PySem.Challenge.pw_ripestone_k33_plainly.main.body.getD i (.Pass ⟨0,0,0,0⟩)
abbrev lB:Stmt:=top 13
noncomputable def sS:GS:=aX (rH (fB (f2 Zq (aG 1) (fL uB (aC (aG 0) aN)))) (dX (dI (f2 nZ (aG 0) (aG 1)))) fM)
 (dX (fC (.int 0)))
noncomputable def gH:List D→Option D:=fO 2 2 (sS)
abbrev Cg:Stmt:=top 8
noncomputable def Xm:GS:=dX (dI (f2 nZ (aG 0) (fC (.int 1))))
noncomputable def lC:List D→Option D:=fO 1 1 (Xm)
abbrev Ci:Stmt:=top 7
noncomputable def Xn:GS:=dX (f2 Gv (f2 nZ (aG 0) (fC (.int 0))) (fC (.str "put")))
noncomputable def dO:List D→Option D:=fO 1 1 (Xn)
abbrev nO:Stmt:=top 9
noncomputable def Hs:GS:=dX (dI (f2 nZ (aG 0) (fC (.int 2))))
noncomputable def cV:List D→Option D:=fO 1 1 (Hs)
abbrev iY:Stmt:=top 10
noncomputable def oJ:GS:=aX (dB 2 (fC (.dk [] [])))
 (pB [] 3 (pA (aG 1)) (aX (dB 4 (bI 1 lC (aC (aG 3) aN)))
 (aX (rH (fB (f2 (lW false) (aG 4) (aG 2))) Qp fM)
 (aX (rH (oZ (fB (bI 1 dO (aC (aG 3) aN))) (fB (f2 Zq (bI 1 cV (aC (aG 3) aN)) (fC (.int 0))))) Qp fM)
 (aX (rH (oZ (mZ (fB (bI 1 dO (aC (aG 3) aN)))) (fB (f2 (lW true) (aG 4) (aG 0)))) Qp fM)
 (iR 2 iQ (aG 4) (fC (.bl true))))))))
noncomputable def eO:List D→Option D:=fO 5 2 (oJ)
abbrev sU:Stmt:=top 11
noncomputable def zQ:GS:=aX (dB 2 (fL xH (aC (aG 0) aN)))
 (aX (rG (bI 2 eO (aC (aG 2) (aC (aG 1) aN))))
 (aX (pB [] 3 (pA (aG 1)) (rH (fB (bI 1 dO (aC (aG 3) aN))) (iR 2 iQ (bI 1 lC (aC (aG 3) aN)) (bI 1 cV (aC (aG 3) aN))) (uZ 2 iQ (bI 1 lC (aC (aG 3) aN)))))
 (dX (FW xG (aG 2)))))
noncomputable def dR:List D→Option D:=fO 4 2 (zQ)
abbrev xP:Stmt:=top 16
noncomputable def Fd:GS:=aX (dB 2 (dI (f2 nZ (kI (aC (fC (.int 1)) (aC (fC (.int 3)) (aC (f2 oY (fC (.int 10)) (fC (.int 30))) aN)))) (f2 mV (aG 0) (fC (.int 3))))))
 (aX (dB 3 (dI (f2 nZ (kI (aC (fC (.int 0)) (aC (f2 mV (aG 0) (f2 oY (fC (.int 10)) (fC (.int 58)))) (aC (f2 Jz (fC (.int 0)) (f2 mV (aG 0) (f2 oY (fC (.int 10)) (fC (.int 58))))) aN)))) (f2 mV (f2 Gu (aG 0) (fC (.int 3))) (fC (.int 3))))))
 (dX (f2 gO (aG 3) (f2 Gs (aG 2) (f2 Jz (f2 mV (f2 mV (aG 1) (fC (.int 2147483647))) (fC (.int 41))) (fC (.int 20)))))))
noncomputable def jM:List D→Option D:=fO 4 2 (Fd)
abbrev nP:Stmt:=top 14
noncomputable def Ht:GS:=dX (rA (yV "int" (aG 0)) (yN (yV "bool" (aG 0))))
noncomputable def fY:List D→Option D:=fO 1 1 (Ht)
abbrev sV:Stmt:=top 15
noncomputable def zR:GS:=aX (rH (Nq (mZ (fB (yV "list" (aG 0)))) (fB (f2 Yi (fL uB (aC (aG 0) aN)) (fL uB (aC (aG 1) aN))))) (dX (fC (.bl false))) fM)
 (aX (pB [] 2 (pA (aG 0)) (rH (Nq (mZ (fB (yV "tuple" (aG 2)))) (Nq (fB (f2 Yi (fL uB (aC (aG 2) aN)) (fC (.int 2)))) (Nq (mZ (fB (bI 1 fY (aC (f2 nZ (aG 2) (fC (.int 0))) aN)))) (mZ (fB (bI 1 fY (aC (f2 nZ (aG 2) (fC (.int 1))) aN))))))) (dX (fC (.bl false))) fM))
 (dX (f2 Gv (aG 0) (aG 1))))
noncomputable def dU:List D→Option D:=fO 3 2 (zR)
abbrev sW:Stmt:=top 17
noncomputable def zT:GS:=aX (rH (oZ (fB (f2 (lW false) (aG 1) (aG 2))) (fB (f2 Gv (f2 mV (f2 Gu (aG 0) (fC (.int 2))) (fC (.int 2))) (fC (.int 0))))) (dX (mU (aC (fC (.str "take")) (aC (dI (aG 1)) aN)))) fM)
 (dX (mU (aC (fC (.str "put")) (aC (dI (aG 1)) (aC (f2 mV (f2 yZ (f2 gO (aG 0) (fC (.int 5))) (f2 gO (aG 0) (fC (.int 11)))) (f2 oY (fC (.int 10)) (fC (.int 58)))) aN)))))
noncomputable def iZ:List D→Option D:=fO 3 3 (zT)
abbrev Hu:Stmt:=top 18
noncomputable def DK:GS:=aX (dB 1 (bI 2 gH (aC (aG 0) (aC (fC (.int 0)) aN))))
 (aX (dB 2 (Nr true (aG 0) (iJ (fC (.int 1))) (iJ (fC (.int 61)))))
 (aX (dB 3 (f2 mV (f2 Gu (aG 1) (fC (.int 9))) (f2 gO (fL uB (aC (aG 2) aN)) (fC (.int 1)))))
 (aX (dB 4 (fC (.dk [] [])))
 (aX (pB [2,3] 5 (pA (Nr false (aG 2) (Be) (iJ (aG 3)))) (iR 4 iQ (bI 2 jM (aC (aG 1) (aC (f2 Gs (aG 5) (fC (.int 16807))) aN))) (f2 mV (f2 yZ (f2 gO (aG 5) (fC (.int 5))) (f2 gO (aG 5) (fC (.int 7)))) (f2 oY (fC (.int 10)) (fC (.int 58))))))
 (aX (dB 6 (kI aN))
 (aX (dB 7 (fC (.dk [] [])))
 (aX (pB [2,3] 5 (pA (Nr false (aG 2) (iJ (aG 3)) (Be))) (aX (dB 8 (bI 2 jM (aC (aG 1) (aC (f2 Gs (aG 5) (fC (.int 48271))) aN))))
 (aX (rH (fB (f2 (lW true) (aG 8) (aG 7))) (yR 6 iQ (bI 3 iZ (aC (aG 5) (aC (aG 8) (aC (aG 4) aN))))) fM)
 (iR 7 iQ (aG 8) (fC (.bl true))))))
 (aX (vA 4 9 [4] (mU (aC (dI (aG 0)) (aC (dI (f2 Gx (aG 1) (aG 0))) aN))))
 (aX (dB 10 (fK (pA (aG 9)) [7] (fB (f2 (lW true) (f2 nZ (aG 0) (fC (.int 0))) (aG 1))) (dI (aG 0))))
 (aX (dB 10 (fL rU (aC (f2 gO (aG 10) (fK (pA (aG 6)) [] (fB (f2 Gv (f2 nZ (aG 0) (fC (.int 0))) (fC (.str "put")))) (mU (aC (dI (f2 nZ (aG 0) (fC (.int 1)))) (aC (dI (f2 nZ (aG 0) (fC (.int 2)))) aN))))) aN)))
 (aX (dB 11 (kI (aC (fL dList (aC (aG 9) aN)) (aC (fL dList (aC (aG 6) aN)) aN))))
 (aX (dB 12 (bI 2 dR (aC (f2 nZ (aG 11) (fC (.int 0))) (aC (f2 nZ (aG 11) (fC (.int 1))) aN))))
 (aX (rH (Nq (mZ (fB (bI 2 dU (aC (aG 12) (aC (aG 10) aN))))) (fB (f2 (Hj false) (aG 11) (kI (aC (aG 9) (aC (aG 6) aN)))))) (dX (fC (.bl false))) fM)
 (aX (yR 12 iQ (mU (aC (fC (.int 0)) (aC (fC (.int 0)) aN))))
 (dX (rA (f2 (Hj true) (aG 11) (kI (aC (aG 9) (aC (aG 6) aN)))) (rA (bI 2 dU (aC (bI 2 dR (aC (aG 9) (aC (aG 6) aN))) (aC (aG 10) aN))) (bI 2 dU (aC (bI 2 dR (aC (aG 9) (aC (kI aN) aN))) (aC (aG 9) aN))))))))))))))))))))
noncomputable def Xo:List D→Option D:=fO 13 1 (DK)
section
variable{P:Program}{w:World}{K:aA}{mg:Str→Option Value}{base:Heap}
theorem zU:bJ ["script", "k"] ["script", "k"] (aH lB):=by walk_at "fs"
theorem xQ(R:Raw K mg "_law_cell_at" lB) (sX:mg "len" = none):mO P w K mg base "_law_cell_at" 1 2 (oE K 2 gH):=by
 refine R.uC zU (λ_ _ _ _ _ _ us hl=>match us,hl with | [_,_],_=>rfl) (λ_ _ _ _ _ _ _ hr=>?_)
 have gU:=hr.units
 have hu:=gZ hr
 exact⟨_,aO (jW (kJ Rt Jw (aK (pv 1)) (XN.r (uV rC (rD rfl) rfl sX K9 (aF (aK (pv 0)) aU))) (eQ _)) (bB (cL (XR.n (dZ (aK (pv 0)) (aK (pv 1)) (λ_ _=>rfl))))) gD)
  (bB (cL aL))⟩
theorem Rf:bJ ["part"] ["part"] (aH Cg):=by walk_at "fs"
theorem Mj(R:Raw K mg "key_of" Cg):mO P w K mg base "key_of" 1 1 (oE K 1 lC):=by
 refine R.uC Rf (λ_ _ _ _ _ _ us hl=>match us,hl with | [_],_=>rfl) (λ_ _ _ _ _ _ _ hr=>?_)
 have gU:=hr.units
 have hu:=gZ hr
 exact⟨_,bB (cL (XR.n (dZ (aK (pv 0)) (XN.r (aL)) (λ_ _=>rfl))))⟩
theorem Rg:bJ ["part"] ["part"] (aH Ci):=by walk_at "fs"
theorem Ml(R:Raw K mg "is_put" Ci) (Xp:Ek mg "PUT" "put"):mO P w K mg base "is_put" 1 1 (oE K 1 dO):=by
 refine R.uC Rg (λ_ _ _ _ _ _ us hl=>match us,hl with | [_],_=>rfl) (λ_ _ _ _ _ _ _ hr=>?_)
 have gU:=hr.units
 have hu:=gZ hr
 exact⟨_,bB (cL (Az (or_eq gU rfl) Dv (dZ (aK (pv 0)) (XN.r (aL)) (λ_ _=>rfl)) (XN.r (BW Xp rfl)) (eQ _)))⟩
theorem Cj:bJ ["part"] ["part"] (aH nO):=by walk_at "fs"
theorem zV(R:Raw K mg "amount_of" nO):mO P w K mg base "amount_of" 1 1 (oE K 1 cV):=by
 refine R.uC Cj (λ_ _ _ _ _ _ us hl=>match us,hl with | [_],_=>rfl) (λ_ _ _ _ _ _ _ hr=>?_)
 have gU:=hr.units
 have hu:=gZ hr
 exact⟨_,bB (cL (XR.n (dZ (aK (pv 0)) (XN.r (aL)) (λ_ _=>rfl))))⟩
theorem dD:bJ ["worths", "parts", "came", "part", "key"] ["worths", "parts"] (aH iY):=by walk_at "fs"
theorem uD(R:Raw K mg "check_parts" iY) (lD:mO P w K mg base "key_of" 1 1 (oE K 1 lC)) (dG:mO P w K mg base "amount_of" 1 1 (oE K 1 cV)) (lE:mO P w K mg base "is_put" 1 1 (oE K 1 dO)):mO P w K mg base "check_parts" 2 2 (oE K 2 eO):=by
 refine R.uC dD (λ_ _ _ _ _ _ us hl=>match us,hl with | [_,_],_=>rfl) (λ_ _ _ _ _ _ _ hr=>?_)
 have gU:=hr.units
 have hu:=gZ hr
 exact⟨_,aO (cJ (i:=2) (wN) (λh=>cF dD.nd rfl (by first | exact F6 rfl | exact F4 rfl) h))
  (bB (rJ [] PassesOwn.never rfl (kW (aK (pv 1))) (jF (i:=3) dD.nd rfl (by first | exact F6 rfl | exact F4 rfl)) (aO (cJ (i:=4) (bL lD (hr.mono (by decide)) rfl (aF (aK (pv 3)) aU)) (λh=>cF dD.nd rfl (by first | exact F6 rfl | exact F4 rfl) h))
  (aO (jW (Ke hu (aK (pv 4)) (aK (pv 2))) (bB (Bm)) gD)
  (aO (jW (XW.xt (Bc (iH (XN.r (bL lE (hr.mono (by decide)) rfl (aF (aK (pv 3)) aU)))) (wO (kJ Rt Jw (XN.r (bL dG (hr.mono (by decide)) rfl (aF (aK (pv 3)) aU))) (XN.r (aL)) (eQ _))))) (bB (Bm)) gD)
  (aO (jW (XW.xt (Bc (nA (iH (XN.r (bL lE (hr.mono (by decide)) rfl (aF (aK (pv 3)) aU))))) (wO (mY hu (aK (pv 4)) (aK (pv 0)))))) (bB (Bm)) gD)
  (bB (pN (Bk (pv 2)) (aK (pv 4)) (XN.r (yJ)) (λa b c=>pI hu a b c rfl)))))))))⟩
theorem nQ:bJ ["rows", "parts", "worths", "part"] ["rows", "parts"] (aH sU):=by walk_at "fs"
theorem Ck(R:Raw K mg "plainly" sU) (jA:mO P w K mg base "check_parts" 2 2 (oE K 2 eO)) (lE:mO P w K mg base "is_put" 1 1 (oE K 1 dO)) (lD:mO P w K mg base "key_of" 1 1 (oE K 1 lC)) (dG:mO P w K mg base "amount_of" 1 1 (oE K 1 cV)) (zdict:mg "dict" = none) (gJ:mg "sorted" = none):mO P w K mg base "plainly" 3 2 (oE K 2 dR):=by
 refine R.uC nQ (λ_ _ _ _ _ _ us hl=>match us,hl with | [_,_],_=>rfl) (λ_ _ _ _ _ _ _ hr=>?_)
 have gU:=hr.units
 have hu:=gZ hr
 exact⟨_,aO (cJ (i:=2) (Kh Ln (Lp rfl rfl) rfl zdict PyProof.Rows.boot_dict (aF (aK (pv 0)) aU)) (λh=>cF nQ.nd rfl (by first | exact F6 rfl | exact F4 rfl) h))
  (aO (Qq (XN.r (bL jA (hr.mono (by decide)) rfl (aF (aK (pv 2)) (aF (aK (pv 1)) aU)))))
  (aO (rJ [] PassesOwn.never rfl (kW (aK (pv 1))) (jF (i:=3) nQ.nd rfl (by first | exact F6 rfl | exact F4 rfl)) (bB (jW (iH (XN.r (bL lE (hr.mono (by decide)) rfl (aF (aK (pv 3)) aU)))) (bB (pN (Bk (pv 2)) (XN.r (bL lD (hr.mono (by decide)) rfl (aF (aK (pv 3)) aU))) (XN.r (bL dG (hr.mono (by decide)) rfl (aF (aK (pv 3)) aU))) (λa b c=>pI hu a b c rfl))) (bB (Qy (Bk (pv 2)) (XN.r (bL lD (hr.mono (by decide)) rfl (aF (aK (pv 3)) aU))) ⟨rfl,rfl,rfl,rfl⟩)))))
  (bB (cL (Lh (aK (pv 2)) ⟨rfl,rfl,rfl,rfl⟩ rfl gJ K7)))))⟩
theorem sY:bJ ["first", "number", "spread", "low"] ["first", "number"] (aH xP):=by walk_at "fs"
theorem Hv(R:Raw K mg "_law_key" xP):mO P w K mg base "_law_key" 1 2 (oE K 2 jM):=by
 refine R.uC sY (λ_ _ _ _ _ _ us hl=>match us,hl with | [_,_],_=>rfl) (λ_ _ _ _ _ _ _ hr=>?_)
 have gU:=hr.units
 have hu:=gZ hr
 exact⟨_,aO (cJ (i:=2) (XR.n (dZ (qY (aF (XN.r (aL)) (aF (XN.r (aL)) (aF (XN.r (qU (XN.r (aL)) (XN.r (aL)))) aU)))) (XN.r (eU (aK (pv 0)) (XN.r (aL)))) (λ_ _=>rfl))) (λh=>cF sY.nd rfl (by first | exact F6 rfl | exact F4 rfl) h))
  (aO (cJ (i:=3) (XR.n (dZ (qY (aF (XN.r (aL)) (aF (XN.r (eU (aK (pv 0)) (XN.r (qU (XN.r (aL)) (XN.r (aL)))))) (aF (XN.r (Ka (XN.r (aL)) (XN.r (eU (aK (pv 0)) (XN.r (qU (XN.r (aL)) (XN.r (aL)))))))) aU)))) (XN.r (eU (XN.r (Ay (aK (pv 0)) (XN.r (aL)))) (XN.r (aL)))) (λ_ _=>rfl))) (λh=>cF sY.nd rfl (by first | exact F6 rfl | exact F4 rfl) h))
  (bB (cL (gC (aK (pv 3)) (XN.r (Ax (aK (pv 2)) (XN.r (Ka (XN.r (eU (XN.r (eU (aK (pv 1)) (XN.r (aL)))) (XN.r (aL)))) (XN.r (aL))))))))))⟩
theorem Cm:bJ ["found"] ["found"] (aH nP):=by walk_at "fs"
theorem zW(R:Raw K mg "_law_whole" nP) (bT:mg "isinstance" = none) (Mm:mg "bool" = none) (Xq:mg "int" = none):mO P w K mg base "_law_whole" 1 1 (oE K 1 fY):=by
 refine R.uC Cm (λ_ _ _ _ _ _ us hl=>match us,hl with | [_],_=>rfl) (λ_ _ _ _ _ _ _ hr=>?_)
 have gU:=hr.units
 have hu:=gZ hr
 exact⟨_,bB (cL (Bd (XN.r (wX (aK (pv 0)) (pF (v:=.ty "int") rfl Xq PyProof.Rows.boot_int rfl) rfl bT)) (Dy (Wh (XN.r (wX (aK (pv 0)) (pF (v:=.ty "bool") rfl Mm PyProof.Rows.boot_bool rfl) rfl bT))))))⟩
theorem vG:bJ ["answer", "due", "pair"] ["answer", "due"] (aH sV):=by walk_at "fs"
theorem Cp(R:Raw K mg "_law_rows" sV) (jN:mO P w K mg base "_law_whole" 1 1 (oE K 1 fY)) (sX:mg "len" = none) (bT:mg "isinstance" = none) (sZ:mg "list" = none) (Cq:mg "tuple" = none):mO P w K mg base "_law_rows" 2 2 (oE K 2 dU):=by
 refine R.uC vG (λ_ _ _ _ _ _ us hl=>match us,hl with | [_,_],_=>rfl) (λ_ _ _ _ _ _ _ hr=>?_)
 have gU:=hr.units
 have hu:=gZ hr
 exact⟨_,aO (jW (XW.xt (yM (nA (iH (XN.r (wX (aK (pv 0)) (pF (v:=.ty "list") rfl sZ L3 rfl) rfl bT)))) (Bb (kJ (Su gU rfl) Ss (XN.r (uV rC (rD rfl) rfl sX K9 (aF (aK (pv 0)) aU))) (XN.r (uV rC (rD rfl) rfl sX K9 (aF (aK (pv 1)) aU))) (eQ _))))) (bB (cL (yJ))) gD)
  (aO (rJ [] PassesOwn.never rfl (kW (aK (pv 0))) (jF (i:=2) vG.nd rfl (by first | exact F6 rfl | exact F4 rfl)) (bB (jW (XW.xt (yM (nA (iH (XN.r (wX (aK (pv 2)) (pF (v:=.ty "tuple") rfl Cq PyProof.Rows.boot_tuple rfl) rfl bT)))) (yM (kJ (Su gU rfl) Ss (XN.r (uV rC (rD rfl) rfl sX K9 (aF (aK (pv 2)) aU))) (XN.r (aL)) (eQ _)) (yM (nA (iH (XN.r (bL jN (hr.mono (by decide)) rfl (aF (dZ (aK (pv 2)) (XN.r (aL)) (λ_ _=>rfl)) aU))))) (Bb (nA (iH (XN.r (bL jN (hr.mono (by decide)) rfl (aF (dZ (aK (pv 2)) (XN.r (aL)) (λ_ _=>rfl)) aU)))))))))) (bB (cL (yJ))) gD)))
  (bB (cL (Az (or_eq gU rfl) Dv (aK (pv 0)) (aK (pv 1)) (eQ _)))))⟩
theorem Hw:bJ ["cell", "key", "worths"] ["cell", "key", "worths"] (aH sW):=by walk_at "fs"
theorem Cr(R:Raw K mg "_law_part" sW):mO P w K mg base "_law_part" 1 3 (oE K 3 iZ):=by
 refine R.uC Hw (λ_ _ _ _ _ _ us hl=>match us,hl with | [_,_,_],_=>rfl) (λ_ _ _ _ _ _ _ hr=>?_)
 have gU:=hr.units
 have hu:=gZ hr
 exact⟨_,aO (jW (XW.xt (Bc (Ke hu (aK (pv 1)) (aK (pv 2))) (wO (kJ (or_eq gU rfl) Dv (XN.r (eU (XN.r (Ay (aK (pv 0)) (XN.r (aL)))) (XN.r (aL)))) (XN.r (aL)) (eQ _))))) (bB (cL (qZ (cC (Aw) (cC (XR.n (aK (pv 1))) kO))))) gD)
  (bB (cL (qZ (cC (Aw) (cC (XR.n (aK (pv 1))) (cC (eU (XN.r (Ei (XN.r (gC (aK (pv 0)) (XN.r (aL)))) (XN.r (gC (aK (pv 0)) (XN.r (aL)))))) (XN.r (qU (XN.r (aL)) (XN.r (aL))))) kO))))))⟩
theorem dW:bJ ["script", "first", "cells", "many", "worths", "cell", "parts", "met", "key", "rows", "due", "given", "told"] ["script"] (aH Hu):=by walk_at "fs"
theorem Xr{f:Addr}{fd:FuncData}(F:Nm K "law" "law" Hu f fd) (lF:mO P w K mg base "_law_cell_at" 1 2 (oE K 2 gH)) (pU:mO P w K mg base "_law_key" 1 2 (oE K 2 jM)) (tD:mO P w K mg base "_law_part" 1 3 (oE K 3 iZ)) (jB:mO P w K mg base "plainly" 3 2 (oE K 2 dR)) (jC:mO P w K mg base "_law_rows" 2 2 (oE K 2 dU)) (sX:mg "len" = none) (gJ:mg "sorted" = none) (sZ:mg "list" = none) (Ws:∀ns:List Int,ns.length≤63→(∀k∈ns,Small k)→Xo [.lst (ns.map D.int)]=some (.bl true)):mK P w K mg base Ie 4 f fd ["script"] (JT K):=by
 refine F.RT dW (λcdv A outer s H E hr=>?_) Ws
 have gU:=hr.units
 have hu:=gZ hr
 exact⟨_,aO (cJ (i:=1) (bL lF (hr.mono (by decide)) rfl (aF (aK (pv 0)) (aF (XN.r (aL)) aU))) (λh=>cF dW.nd rfl (by first | exact F6 rfl | exact F4 rfl) h))
  (aO (cJ (i:=2) (Kl (aK (pv 0)) (pM (XN.r (aL))) (pM (XN.r (aL)))) (λh=>cF dW.nd rfl (by first | exact F6 rfl | exact F4 rfl) h))
  (aO (cJ (i:=3) (eU (XN.r (Ay (aK (pv 1)) (XN.r (aL)))) (XN.r (gC (XN.r (uV rC (rD rfl) rfl sX K9 (aF (aK (pv 2)) aU))) (XN.r (aL))))) (λh=>cF dW.nd rfl (by first | exact F6 rfl | exact F4 rfl) h))
  (aO (cJ (i:=4) (wN) (λh=>cF dW.nd rfl (by first | exact F6 rfl | exact F4 rfl) h))
  (aO (rJ [2,3] PassesOwn.never rfl (kW (yP (aK (pv 2)) (Eb) (pM (aK (pv 3))))) (jF (i:=5) dW.nd rfl (by first | exact F6 rfl | exact F4 rfl)) (bB (pN (Bk (pv 4)) (XN.r (bL pU (hr.mono (by decide)) rfl (aF (aK (pv 1)) (aF (XN.r (Ax (aK (pv 5)) (XN.r (aL)))) aU)))) (XN.r (eU (XN.r (Ei (XN.r (gC (aK (pv 5)) (XN.r (aL)))) (XN.r (gC (aK (pv 5)) (XN.r (aL)))))) (XN.r (qU (XN.r (aL)) (XN.r (aL)))))) (λa b c=>pI hu a b c rfl))))
  (aO (cJ (i:=6) (Kf kO) (λh=>cF dW.nd rfl (by first | exact F6 rfl | exact F4 rfl) h))
  (aO (cJ (i:=7) (wN) (λh=>cF dW.nd rfl (by first | exact F6 rfl | exact F4 rfl) h))
  (aO (rJ [2,3] PassesOwn.never rfl (kW (yP (aK (pv 2)) (pM (aK (pv 3))) (Eb))) (jF (i:=5) dW.nd rfl (by first | exact F6 rfl | exact F4 rfl)) (aO (cJ (i:=8) (bL pU (hr.mono (by decide)) rfl (aF (aK (pv 1)) (aF (XN.r (Ax (aK (pv 5)) (XN.r (aL)))) aU))) (λh=>cF dW.nd rfl (by first | exact F6 rfl | exact F4 rfl) h))
  (aO (jW (mY hu (aK (pv 8)) (aK (pv 7))) (bB (Ku (Bk (pv 6)) (bL tD (hr.mono (by decide)) rfl (aF (aK (pv 5)) (aF (aK (pv 8)) (aF (aK (pv 4)) aU)))) (λa b=>pG (Rx O9 O4 O5 mL a (gA b mJ))))) gD)
  (bB (pN (Bk (pv 7)) (aK (pv 8)) (XN.r (yJ)) (λa b c=>pI hu a b c rfl))))))
  (aO (Ra (t:=4) (i:=9) (fr:=[4]) ["key", "worths"] rfl (.at (aH Hu) ["script", "first", "cells", "many", "worths", "cell", "parts", "met", "key", "rows", "due", "given", "told"] (by decide +kernel)) (pv 4) (wF (by decide +kernel) rfl rfl) (λ_ _ _ _ _=>qZ (cC (XR.n (aK (pv 0))) (cC (XR.n (Qe hu (aK (pv 1)) (aK (pv 0)) (λ_ _=>rfl))) kO))) rfl rfl gJ K7 dW.nd rfl (by first | exact F6 rfl | exact F4 rfl))
  (aO (Qn (i:=10) ["pair", "met"] [7] rfl (.at (aH Hu) ["script", "first", "cells", "many", "worths", "cell", "parts", "met", "key", "rows", "due", "given", "told"] (by decide +kernel)) dW.nd rfl (by first | exact F6 rfl | exact F4 rfl) (kW (aK (pv 9))) (wF (by decide +kernel) rfl rfl) (λ_ _ _ _ _=>Eh (mY hu (dZ (aK (pv 0)) (XN.r (aL)) (λ_ _=>rfl)) (aK (pv 1)))) (λ_ _ _ _ _=>XR.n (aK (pv 0))))
  (aO (cJ (i:=10) (uV zA (zB rfl) rfl gJ K7 (aF (XN.r (gC (aK (pv 10)) (XN.r (Qj ["part"] [] rfl (.at (aH Hu) ["script", "first", "cells", "many", "worths", "cell", "parts", "met", "key", "rows", "due", "given", "told"] (by decide +kernel)) (kW (aK (pv 6))) (wF (by decide +kernel) rfl rfl) (λ_ _ _ _ _=>Eh (kJ (or_eq gU rfl) Dv (dZ (aK (pv 0)) (XN.r (aL)) (λ_ _=>rfl)) (XN.r (Aw)) (eQ _))) (λ_ _ _ _ _=>qZ (cC (XR.n (dZ (aK (pv 0)) (XN.r (aL)) (λ_ _=>rfl))) (cC (XR.n (dZ (aK (pv 0)) (XN.r (aL)) (λ_ _=>rfl))) kO))))))) aU)) (λh=>cF dW.nd rfl (by first | exact F6 rfl | exact F4 rfl) h))
  (aO (cJ (i:=11) (Kf (cC (Kh Dz (Ea rfl) rfl sZ L3 (aF (aK (pv 9)) aU)) (cC (Kh Dz (Ea rfl) rfl sZ L3 (aF (aK (pv 6)) aU)) kO))) (λh=>cF dW.nd rfl (by first | exact F6 rfl | exact F4 rfl) h))
  (aO (cJ (i:=12) (bL jB (hr.mono (by decide)) rfl (aF (dZ (aK (pv 11)) (XN.r (aL)) (λ_ _=>rfl)) (aF (dZ (aK (pv 11)) (XN.r (aL)) (λ_ _=>rfl)) aU))) (λh=>cF dW.nd rfl (by first | exact F6 rfl | exact F4 rfl) h))
  (aO (jW (XW.xt (yM (nA (iH (XN.r (bL jC (hr.mono (by decide)) rfl (aF (aK (pv 12)) (aF (aK (pv 10)) aU)))))) (Bb (kJ (Wz gU rfl) (Lk false) (aK (pv 11)) (qY (aF (aK (pv 9)) (aF (aK (pv 6)) aU))) (eQ _))))) (bB (cL (yJ))) gD)
  (aO (Ku (Bk (pv 12)) (qZ (cC aL (cC aL kO))) (λa b=>pG (Rx O9 O4 O5 mL a (gA b mJ))))
  (bB (cL (Bd (XN.r (Az (Wy gU rfl) (Lk true) (aK (pv 11)) (qY (aF (aK (pv 9)) (aF (aK (pv 6)) aU))) (eQ _))) (Bd (XN.r (bL jC (hr.mono (by decide)) rfl (aF (XN.r (bL jB (hr.mono (by decide)) rfl (aF (aK (pv 9)) (aF (aK (pv 6)) aU)))) (aF (aK (pv 10)) aU)))) (Dy (bL jC (hr.mono (by decide)) rfl (aF (XN.r (bL jB (hr.mono (by decide)) rfl (aF (aK (pv 9)) (aF (qY aU) aU)))) (aF (aK (pv 9)) aU))))))))))))))))))))))⟩
end
end Rs

namespace Rs
open PySem L2
local macro_rules | `(tactic| walk_at "lt")=>`(tactic| exact Q3 rfl)
local macro_rules | `(tactic| walk_at "sc")=>`(tactic| first | omega | with_reducible assumption | exact Int.pow_pos (by decide) | exact cm_l (by omega) (by omega) | exact Rb (by omega) (by omega))
local macro_rules | `(tactic| walk_at "op")=>`(tactic| first | with_reducible assumption | with_reducible exact cO _ _ | with_reducible exact lZ _ _ | with_reducible exact xM _ _ | with_reducible exact pP _ _ | with_reducible exact xK _ _ | with_reducible exact dGt_int _ _ | with_reducible exact dGe_int _ _ | with_reducible exact dLe_int _ _ | with_reducible exact nJ _ | with_reducible exact mD _ | with_reducible exact sE _ | ((with_reducible apply iU);walk_at "sc") | ((with_reducible apply bY);walk_at "sc") | ((with_reducible apply iV);(walk_at "sc");walk_at "sc") | ((with_reducible apply fX);exact⟨by decide,by decide,by omega⟩) | ((with_reducible apply rZ);(walk_at "sc");walk_at "sc"))
local macro_rules | `(tactic| walk_at "ea")=>`(tactic| first | with_reducible exact Lz | ((with_reducible apply aB);(walk_at "ev");walk_at "ea"))
local macro_rules | `(tactic| walk_at "ev")=>`(tactic| first | ((with_reducible apply Rc);exact rfl) | with_reducible exact fC_ok | with_reducible assumption | ((with_reducible apply aM);(walk_at "ev");(walk_at "ev");walk_at "op") | ((with_reducible apply jZ);(walk_at "ea");walk_at "op") | ((with_reducible apply aW);(walk_at "ea");exact rfl;with_reducible assumption) | ((with_reducible apply cH);(walk_at "ev");exact rfl) | ((with_reducible apply fNeg_ok);walk_at "ev") | ((with_reducible apply jK);(walk_at "ea");walk_at "lt") | ((with_reducible apply eN);(walk_at "ea");walk_at "lt"))
local macro_rules | `(tactic| walk_at "et")=>`(tactic| first | ((with_reducible apply gG);walk_at "et") | ((with_reducible apply fOr_ok);(walk_at "et");walk_at "et") | ((with_reducible apply pR);(walk_at "et");walk_at "et") | ((with_reducible apply cD);walk_at "ev"))
local macro_rules | `(tactic| walk_at "set")=>`(tactic| (apply sq_set;(walk_at "ev");(walk_at "lt")))
local macro_rules | `(tactic| walk_at "q")=>`(tactic| (apply cZ;(walk_at "ev");(walk_at "lt")))
local macro_rules | `(tactic| walk_at "op")=>`(tactic| first | with_reducible assumption | with_reducible exact cO _ _ | with_reducible exact lZ _ _ | with_reducible exact xM _ _ | with_reducible exact pP _ _ | with_reducible exact xK _ _ | with_reducible exact dGt_int _ _ | with_reducible exact dGe_int _ _ | with_reducible exact dLe_int _ _ | with_reducible exact nJ _ | with_reducible exact len_chs _ | with_reducible exact xO _ _ _ | with_reducible exact dMin2_int _ _ | with_reducible exact dMax2_int _ _ | with_reducible exact dIntB_bl _ | with_reducible exact ix_pane _ | with_reducible exact ix_place _ | with_reducible exact ix_thing _ | with_reducible exact ix_needs _ | ((with_reducible apply ix_chs);omega) | with_reducible exact mD _ | with_reducible exact sE _ | ((with_reducible apply iU);walk_at "sc") | ((with_reducible apply nM);(walk_at "sc");walk_at "sc") | ((with_reducible apply bY);walk_at "sc") | ((with_reducible apply iV);(walk_at "sc");walk_at "sc") | ((with_reducible apply fX);exact⟨by decide,by decide,by omega⟩) | ((with_reducible apply rZ);(walk_at "sc");walk_at "sc"))
theorem Mp(a b:Str):Gv (.str a) (.str b)=some (.bl (decide (a=b))):=by
 show (if Gd (V.str a) (V.str b)=true then some (D.bl (decide (V.str a=V.str b)))else none)=_
 rw[if_pos (show Gd (V.str a) (V.str b)=true from rfl)]
 by_cases c:a=b
 ·rw[decide_eq_true c,decide_eq_true (by rw[c])]
 ·rw[decide_eq_false c,decide_eq_false λz=>c (V.str.inj z)]
structure Pt where
 put:Bool
 key:Int
 am:Int
def oK(p:Pt):D:=if p.put=true then .tup [.str "put", .int p.key,.int p.am]else .tup [.str "take", .int p.key]
def jD(ps:List Pt):D:=.lst (ps.map oK)
theorem Xu(p:Pt):(oK p).cX=true:=by unfold oK;split<;>rfl
theorem zX:∀ps:List Pt,D.bM (ps.map oK)=true
 | []=>rfl
 | p::ps=>by
  rw[B3]
  unfold D.bM
  rw[Xu,zX ps]
  rfl
theorem Mq(p:Pt):nZ (oK p) (.int 0)=some (.str (if p.put=true then "put" else "take")):=by
 unfold oK
 split<;>exact jJ (by decide) rfl
theorem Mr(p:Pt):nZ (oK p) (.int 1)=some (.int p.key):=by
 unfold oK
 split<;>exact jJ (by decide) rfl
theorem Ms{p:Pt}(h:p.put=true):nZ (oK p) (.int 2)=some (.int p.am):=by
 unfold oK
 rw[if_pos h]
 exact jJ (by decide) rfl
theorem Fe(p:Pt):Gv (.str (if p.put=true then "put" else "take")) (.str "put")=some (.bl p.put):=by
 rw[Mp]
 cases p.put with
 | true=>rw[if_pos rfl,decide_eq_true rfl]
 | false=>rw[if_neg C6,decide_eq_false (by decide)]
theorem tE(p:Pt):lC [oK p]=some (.int p.key):=fW rfl (eG (cH (aM rfl rfl (Mr p)) rfl))
theorem tG(p:Pt):dO [oK p]=some (.bl p.put):=fW rfl (eG (aM (aM rfl rfl (Mq p)) rfl (Fe p)))
theorem Ff{p:Pt}(h:p.put=true):cV [oK p]=some (.int p.am):=fW rfl (eG (cH (aM rfl rfl (Ms h)) rfl))
abbrev cM(m:List (Int×Int)):List Int:=m.map (·.1)
def dM(m:List (Int×Int)):D:=.dk ((cM m).map B5) (m.map λp=>.int p.2)
def tH(m:List (Int×Int))(k v:Int):List (Int×Int):=if k∈cM m then m.map λp=>if p.1=k then(k,v)else p else m++[(k,v)]
def xR(m:List (Int×Int))(k:Int):List (Int×Int):=m.filter λp=>decide (p.1≠k)
theorem Mt(neg:Bool)(i:Int)(m:List (Int×Int)):lW neg (.int i) (dM m)=some (.bl (if neg then !decide (i∈cM m)else decide (i∈cM m))):=by
 show some (D.bl (if neg then !(posK ((cM m).map (B5:Int→Key)) (B5 i)).isSome else(posK ((cM m).map (B5:Int→Key)) (B5 i)).isSome))=_
 rw[sI]
theorem Fg(m:List (Int×Int))(k v:Int):cM (tH m k v)=iW (cM m) k:=by
 unfold tH iW
 by_cases c:k∈cM m
 ·rw[if_pos c,if_pos c]
  unfold cM
  rw[I0]
  refine R1 λp _=>?_
  show (if p.1=k then(k,v)else p).1=p.1
  split
  ·rename_i h;exact h.symm
  ·rfl
 ·rw[if_neg c,if_neg c]
  unfold cM
  rw[E6]
  rfl
theorem Th(k v:Int):∀m:List (Int×Int),M4 (λ(k':Key) (d':D)=>if k'=B5 k then D.int v else d') ((cM m).map B5) (m.map λp=>D.int p.2)=(m.map λp=>if p.1=k then(k,v)else p).map λp=>D.int p.2
 | []=>rfl
 | p::m=>by
  show (if(B5 p.1:Key)=B5 k then D.int v else D.int p.2)::_=D.int (if p.1=k then(k,v)else p).2::_
  have ih:=Th k v m
  congr 1
  by_cases c:p.1=k
  ·rw[if_pos c,if_pos (by rw[c])]
  ·rw[if_neg c,if_neg λz=>c (M9 z)]
theorem Ti{i:Nat}{f f':FE}{env:EN}{m:List (Int×Int)}{k v:Int}(h1:env[i]?=some (.own (dM m)))(h2:f (rE env)=some (.int k))(h3:f' (rE env)=some (.int v))(hl:m.length<1000):iR i iQ f f' env=.next (env.set i (.own (dM (tH m k v)))):=by
 unfold iR iQ
 rw[h1,h2,h3]
 dsimp only[lX,dM]
 show (if D.cX (.int v)=true∧((cM m).map (B5:Int→Key)).length<100000 then _ else _)=_
 rw[if_pos ⟨rfl,by rw[B4,B4];omega⟩]
 have e1:qX ((cM m).map (B5:Int→Key)) (B5 k)=(cM (tH m k v)).map B5:=by
  rw[Fg]
  unfold qX iW
  rw[sI]
  by_cases c:k∈cM m
  ·rw[decide_eq_true c,if_pos rfl,if_pos c]
  ·rw[decide_eq_false c,if_neg (by decide),if_neg c,E6]
   rfl
 have e2:putD ((cM m).map (B5:Int→Key)) (m.map λp=>D.int p.2) (B5 k) (.int v)=(tH m k v).map λp=>D.int p.2:=by
  unfold putD tH
  rw[sI]
  by_cases c:k∈cM m
  ·rw[decide_eq_true c,if_pos rfl,if_pos c,Th]
  ·rw[decide_eq_false c,if_neg (by decide),if_neg c,E6]
   rfl
 rw[e1,e2]
 rfl
theorem Cu(k:Int):∀m:List (Int×Int),Bx ((cM m).map B5) (B5 k)=(cM (xR m k)).map B5∧lA ((cM m).map B5) (m.map λp=>D.int p.2) (B5 k)=(xR m k).map λp=>D.int p.2
 | []=>⟨rfl,rfl⟩
 | p::m=>by
  obtain⟨h1,h2⟩:=Cu k m
  unfold Bx at h1 ⊢
  unfold xR at h1 h2 ⊢
  show ((B5 p.1:Key)::(cM m).map B5).filter _=_∧(if(B5 p.1:Key)=B5 k then lA ((cM m).map B5) (m.map λp=>D.int p.2) (B5 k)else D.int p.2::lA ((cM m).map B5) (m.map λp=>D.int p.2) (B5 k))=_
  rw[G7,G7]
  by_cases c:p.1=k
  ·rw[if_neg (by simp[c]),if_neg (by simp[c]),if_pos (by rw[c])]
   exact⟨h1,h2⟩
  ·rw[if_pos (by simpa using λz=>c z),if_pos (by simpa using c),if_neg λz=>c (M9 z),h1,h2]
   exact⟨rfl,rfl⟩
theorem DN{i:Nat}{g:FE}{env:EN}{m:List (Int×Int)}{k:Int}(h1:env[i]?=some (.own (dM m)))(h2:g (rE env)=some (.int k))(hk:k∈cM m):uZ i iQ g env=.next (env.set i (.own (dM (xR m k)))):=by
 unfold uZ iQ
 rw[h1,h2]
 dsimp only[lX,dM]
 show (if(posK ((cM m).map (B5:Int→Key)) (B5 k)).isSome=true then _ else _)=_
 rw[if_pos (by rw[sI];exact decide_eq_true hk),(Cu k m).1,(Cu k m).2]
 rfl
theorem tK{m:List (Int×Int)}{k v:Int}(h:(cM m).Nodup):(cM (tH m k v)).Nodup:=by rw[Fg];exact Ce h
theorem zY(m:List (Int×Int))(k v:Int):(tH m k v).length≤m.length+1:=by
 unfold tH
 split
 ·rw[B4];omega
 ·rw[D7];exact B6 _
theorem Mu{m:List (Int×Int)}{k v a b:Int}:(a,b)∈tH m k v↔(a=k∧b=v)∨(a≠k∧(a,b)∈m):=by
  unfold tH
  by_cases c:k∈cM m
  · rw[if_pos c,D8]
    constructor
    · rintro⟨p,hp,e⟩
      by_cases z:p.1=k
      · rw[if_pos z]at e
        cases e
        exact .inl ⟨rfl,rfl⟩
      · rw[if_neg z]at e
        subst e
        exact .inr ⟨z,hp⟩
    · rintro(⟨rfl,rfl⟩ | ⟨z,hp⟩)
      · obtain⟨p,hp,e⟩:=D8.mp c
        exact⟨p,hp,by rw[if_pos e]⟩
      · exact⟨(a,b),hp,by rw[if_neg z]⟩
  · rw[if_neg c,E4,D5]
    constructor
    · rintro(z | z)
      · exact .inr ⟨λe=>c (D8.mpr ⟨(a,b),z,e⟩),z⟩
      · cases z
        exact .inl ⟨rfl,rfl⟩
    · rintro(⟨rfl,rfl⟩ | ⟨_,z⟩)
      · exact .inr rfl
      · exact .inl z
theorem Mv{m:List (Int×Int)}{k a b:Int}:(a,b)∈xR m k↔a≠k∧(a,b)∈m:=by
 unfold xR
 rw[J5,decide_eq_true_iff]
 exact⟨λz=>⟨z.2,z.1⟩,λz=>⟨z.2,z.1⟩⟩
theorem Cv{m:List (Int×Int)}{k:Int}(h:(cM m).Nodup):(cM (xR m k)).Nodup:=by
 unfold cM xR at *
 exact(L6 _ M7).nodup h
structure GR(m:List (Int×Int))(ps:List Pt):Prop where
 nd:(ps.map Pt.key).Nodup
 am:∀p∈ps,p.put=true→0≤p.am
 tk:∀p∈ps,p.put=false→p.key∈cM m
theorem jE{α:Type}{l:List α}{n:Nat}{x:α}(h:l[n]?=some x):l.take (n+1)=l.take n++[x]:=by rw[List.take_add_one,h];rfl
theorem Fi{ps:List Pt}(h:(ps.map Pt.key).Nodup){n:Nat}{p:Pt}(hp:ps[n]?=some p):p.key∉(ps.take n).map Pt.key:=λz=>by
 have e:(ps.take (n+1)).map Pt.key=(ps.take n).map Pt.key++[p.key]:=by rw[jE hp,E6];rfl
 have hs:((ps.take (n+1)).map Pt.key).Nodup:=(L6 _ (S1 _ _)).nodup h
 rw[e,L0]at hs
 exact hs.2.2 _ z _ (D5.mpr rfl) rfl
theorem Rh{n m:Nat}{g:GS}{ds:List D}(hl:ds.length=m)(h:Qs (λr=>∃e,r=.next e) (g (ds.map SD.fro++E2 (n-m) SD.no))):fO n m g ds=some .non:=by
 obtain⟨e,h⟩:=h
 unfold fO
 rw[if_pos hl,h]
theorem vH{Pr:SR→Prop}{g1:GS}{env env':EN}(h:g1 env=.next env')(k:Pr (.next env')):Qs Pr (g1 env):=by
 unfold Qs
 rw[h]
 exact k
theorem Mw{m:List (Int×Int)}{ps:List Pt}(h:GR m ps)(hl:ps.length≤100):eO [dM m,jD ps]=some .non:=by
 refine Rh rfl ?_
 unfold oJ
 refine cZ (d:=Hr []) rfl (by exact Nat.le_of_ble_eq_true rfl) ?_
 refine Xh (xs:=ps.map oK) (λn env=>∃(ks:List Int)(v3 v4:SD),env=[.fro (dM m),.fro (jD ps),.own (Hr ks),v3,v4]∧(∀k,k∈ks↔k∈(ps.take n).map Pt.key)∧ks.length≤n) rfl (dJ rfl) ⟨[],_,_,rfl,λk=>(by simp),B6 _⟩ ?_ ?_
 ·rintro n x env hx ⟨ks,v3,v4,rfl,hm,hll⟩
  refine⟨by walk_at "lt", ?_⟩
  rw[C4]at hx
  obtain⟨p,hp,rfl⟩:=cR hx
  have hn:=(B9.mp hp).1
  have hin:=E8 hp
  have hk:p.key∉ks:=λz=>Fi h.nd hp ((hm _).mp z)
  refine cZ (aW (aB rfl rfl) rfl (tE p)) (by exact Nat.le_of_ble_eq_true rfl) ?_
  refine zN (b:=false) ((cD (aM rfl rfl (xO false p.key ks))).trans (by rw[if_neg (by decide),decide_eq_false hk])) rfl (Cd ?_)
  have t2:oZ (fB (bI 1 dO (aC (aG 3) aN))) (fB (f2 Zq (bI 1 cV (aC (aG 3) aN)) (fC (.int 0)))) (rE [.fro (dM m),.fro (jD ps),.own (Hr ks),.fro (oK p),.own (.int p.key)])=some false:=by
   have a1:fB (bI 1 dO (aC (aG 3) aN)) (rE [.fro (dM m),.fro (jD ps),.own (Hr ks),.fro (oK p),.own (.int p.key)])=some p.put:=cD (aW (aB rfl rfl) rfl (tG p))
   cases c:p.put with
   | false=>rw[c]at a1;exact Lw a1
   | true=>
    rw[c]at a1
    have hm:=h.am p hin c
    exact(pR a1 (cD (aM (aW (aB rfl rfl) rfl (Ff c)) rfl (xK _ _)))).trans (by rw[decide_eq_false (by omega)];rfl)
  refine zN (b:=false) t2 rfl (Cd ?_)
  have t3:oZ (mZ (fB (bI 1 dO (aC (aG 3) aN)))) (fB (f2 (lW true) (aG 4) (aG 0))) (rE [.fro (dM m),.fro (jD ps),.own (Hr ks),.fro (oK p),.own (.int p.key)])=some false:=by
   have a1:mZ (fB (bI 1 dO (aC (aG 3) aN))) (rE [.fro (dM m),.fro (jD ps),.own (Hr ks),.fro (oK p),.own (.int p.key)])=some (!p.put):=gG (cD (aW (aB rfl rfl) rfl (tG p)))
   cases c:p.put with
   | true=>rw[c]at a1;exact Lw a1
   | false=>
    rw[c]at a1
    have hm:=h.tk p hin c
    exact(pR a1 (cD (aM rfl rfl (Mt true p.key m)))).trans (by rw[if_pos rfl,decide_eq_true hm];rfl)
  refine zN (b:=false) t3 rfl (Cd ?_)
  refine vH (Mf (ks:=ks) (k:=p.key) rfl rfl rfl (by omega)) ⟨_,rfl,iW ks p.key,_,_,rfl,λk=>?_,?_⟩
  ·rw[sJ,hm,jE hp,E6,E4]
   exact or_congr_right D5.symm
  ·have:=zO ks p.key
   omega
 ·rintro env ⟨ks,v3,v4,rfl,_,_⟩
  exact⟨_,rfl⟩
theorem nR:∀ps:List (Int×Int),jY (ps.map pD)=some ps
 | []=>rfl
 | p::ps=>by
  rw[B3]
  show (jY (ps.map pD)).map ((p.1,p.2)::·)=_
  rw[nR ps]
  rfl
theorem Fj:∀m:List (Int×Int),pC ((cM m).map B5) (m.map λp=>.int p.2)=some m
 | []=>rfl
 | p::m=>by
  show (pC ((cM m).map B5) (m.map λp=>.int p.2)).map ((p.1,p.2)::·)=_
  rw[Fj m]
  rfl
theorem Mx{rs:List (Int×Int)}(hn:(cM rs).Nodup)(hl:rs.length≤1000):xH [.lst (rs.map pD)]=some (dM rs):=by
 show (jY (rs.map pD)).bind _=_
 rw[nR,C7,if_pos ⟨hl,hn⟩]
 unfold dM cM
 rw[I0]
 rfl
theorem Hx{m:List (Int×Int)}(hn:(cM m).Nodup)(hl:m.length<64):xG (dM m)=some (.lst ((bA m).map pD)):=by
 show (pC ((cM m).map B5) (m.map λp=>.int p.2)).bind _=_
 rw[Fj,C7,if_pos ⟨hl,hn⟩]
theorem vI{m:List (Int×Int)}(hn:(cM m).Nodup)(hl:m.length<64):rU [.lst (m.map pD)]=some (.lst ((bA m).map pD)):=by
 show (jY (m.map pD)).bind _=_
 rw[nR,C7,if_pos ⟨hl,hn⟩]
def Made(rs:List (Int×Int))(ps:List Pt)(m:List (Int×Int)):Prop:=(cM m).Nodup∧∀a b,(a,b)∈m↔(a∉ps.map Pt.key∧(a,b)∈rs)∨∃p∈ps,p.put=true∧p.key=a∧p.am=b
theorem tL{rs:List (Int×Int)}{ps:List Pt}(hn:(cM rs).Nodup)(h:GR rs ps)(hl:rs.length+ps.length<64):∃m,dR [.lst (rs.map pD),jD ps]=some (.lst ((bA m).map pD))∧Made rs ps m:=by
  suffices hh:∃d,dR [.lst (rs.map pD),jD ps]=some d∧∃m,d=.lst ((bA m).map pD)∧Made rs ps m by
    obtain⟨d,h1,m,rfl,h2⟩:=hh
    exact⟨m,h1,h2⟩
  refine sH rfl ?_
  unfold zQ
  refine cZ (jZ (aB rfl rfl) (Mx hn (by omega))) (by exact Nat.le_of_ble_eq_true rfl) ?_
  refine Xl (aW (aB rfl (aB rfl rfl)) rfl (Mw h (by omega))) ?_
  refine Ez (xs:=ps.map oK) (λn env=>∃(m:List (Int×Int))(v3:SD),env=[.fro (.lst (rs.map pD)),.fro (jD ps),.own (dM m),v3]∧Made rs (ps.take n) m∧m.length≤rs.length+n) rfl (dJ rfl) ⟨rs,_,rfl,⟨hn,λa b=>⟨λz=>.inl ⟨by simp,z⟩,λz=>z.elim (λz=>z.2) λ⟨p,hp,_⟩=>(by simp at hp)⟩⟩,B6 _⟩ ?_ ?_
  · rintro n x env hx ⟨m,v3,rfl,⟨hm1,hm2⟩,hml⟩
    refine⟨by walk_at "lt", ?_⟩
    rw[C4]at hx
    obtain⟨p,hp,rfl⟩:=cR hx
    have hpn:=(B9.mp hp).1
    have hnew:=Fi h.nd hp
    have hin:=E8 hp
    have mem_cons:∀a,a∈((ps.take (n+1)).map Pt.key)↔a∈(ps.take n).map Pt.key∨a=p.key:=λa=>by
      rw[jE hp,E6,E4]
      exact or_congr_right D5
    refine Tf (cD (aW (aB rfl rfl) rfl (tG p))) (λMy=>?_) λMy=>?_
    · refine vH (Ti (m:=m) (k:=p.key) (v:=p.am) rfl (aW (aB rfl rfl) rfl (tE p)) (aW (aB rfl rfl) rfl (Ff My)) (by omega)) ⟨_,rfl,_,_,rfl,⟨tK hm1,λa b=>?_⟩,?_⟩
      · rw[Mu,hm2,mem_cons,jE hp]
        constructor
        · rintro(⟨rfl,rfl⟩ | ⟨ne,⟨z1,z2⟩ | ⟨q,hq,r⟩⟩)
          · exact .inr ⟨p,C8 _ (D5.mpr rfl),My,rfl,rfl⟩
          · exact .inl ⟨λz=>z.elim z1 ne,z2⟩
          · exact .inr ⟨q,G5 _ hq,r⟩
        · rintro(⟨z1,z2⟩ | ⟨q,hq,q1,q2,q3⟩)
          · exact .inr ⟨λz=>z1 (.inr z),.inl ⟨λz=>z1 (.inl z),z2⟩⟩
          · rcases E4.mp hq with w | w
            · refine .inr ⟨λz=>hnew ?_,.inr ⟨q,w,q1,q2,q3⟩⟩
              rw[←z,←q2]
              exact D8.mpr ⟨q,w,rfl⟩
            · rw[D5.mp w]at q2 q3
              exact .inl ⟨q2.symm,q3.symm⟩
      · have:=zY m p.key p.am
        omega
    · have hk:=h.tk p hin My
      have hkm:p.key∈cM m:=by
        obtain⟨⟨a,b⟩,ha,e⟩:=D8.mp hk
        have e:a=p.key:=e
        subst e
        exact D8.mpr ⟨(p.key,b),(hm2 _ _).mpr (.inl ⟨hnew,ha⟩),rfl⟩
      refine vH (DN (m:=m) (k:=p.key) rfl (aW (aB rfl rfl) rfl (tE p)) hkm) ⟨_,rfl,_,_,rfl,⟨Cv hm1,λa b=>?_⟩,?_⟩
      · rw[Mv,hm2,mem_cons,jE hp]
        constructor
        · rintro⟨ne,⟨z1,z2⟩ | ⟨q,hq,r⟩⟩
          · exact .inl ⟨λz=>z.elim z1 ne,z2⟩
          · exact .inr ⟨q,G5 _ hq,r⟩
        · rintro(⟨z1,z2⟩ | ⟨q,hq,q1,q2,q3⟩)
          · exact⟨λz=>z1 (.inr z),.inl ⟨λz=>z1 (.inl z),z2⟩⟩
          · rcases E4.mp hq with w | w
            · refine⟨λz=>hnew ?_,.inr ⟨q,w,q1,q2,q3⟩⟩
              rw[←z,←q2]
              exact D8.mpr ⟨q,w,rfl⟩
            · rw[D5.mp w,My]at q1
              cases q1
      · unfold xR
        have:=J8 (λp':Int×Int=>decide (p'.1≠p.key)) m
        omega
  · rintro env ⟨m,v3,rfl,hm,hml⟩
    rw[B4,List.take_length]at hm
    rw[B4]at hml
    exact sG (Xi rfl (Hx hm.1 (by omega))) ⟨_,rfl,m,rfl,hm⟩
theorem Ri{c:Int}{N:Nat}(h:Builtin.Int.intBits c≤N):c.natAbs<2 ^ N:=by
 unfold Builtin.Int.intBits at h
 split at h
 ·rename_i z
  have z:c=0:=by simpa using z
  rw[z]
  exact Nat.pow_pos (by decide)
 ·rename_i z
  have hz:c.natAbs≠0:=λw=>z (by rw[R9.mp w];rfl)
  exact(Nat.log2_lt hz).mp (by omega)
theorem bits_le{c:Int}{N:Nat}(h:c.natAbs<2 ^ N):Builtin.Int.intBits c≤N:=by
 unfold Builtin.Int.intBits
 split
 ·exact F9 _
 ·rename_i z
  have hz:c.natAbs≠0:=λw=>z (by rw[R9.mp w];rfl)
  have:=(Nat.log2_lt hz).mpr h
  omega
theorem bits_add{c:Int}{N:Nat}(h:Builtin.Int.intBits c≤N)(hN:4≤N){j:Int}(h0:0≤j)(h1:j≤16):Builtin.Int.intBits (c+j)≤N+1:=by
 have a:=Ri h
 have b:2 ^ 4≤2 ^ N:=Nat.pow_le_pow_right (by decide) hN
 refine bits_le ?_
 rw[Nat.pow_succ]
 generalize 2 ^ N=M at *
 omega
theorem jO{c:Int}(h:Small c){j:Int}(h0:0≤j)(h1:j≤16):Builtin.Int.intBits (c+j)≤4000000:=by
 have h:Builtin.Int.intBits c≤1048576:=h
 have:=bits_add h (by decide) h0 h1
 omega
theorem zZ{fi:FA}{fr:List Nat}{fc:FT}{fe:FE}{e:DE}{α:Type}{ms:List α}{ψ φ:α→D}(p:α→Bool)(h1:fi e=some (ms.map ψ))(hn:ms.length≤1000)(hc:∀m∈ms,fc (some (ψ m)::dC e fr)=some (p m))(he:∀m∈ms,p m=true→fe (some (ψ m)::dC e fr)=some (φ m)) :
  fK fi fr fc fe e=some (.lst ((ms.filter p).map φ)):=by
 refine zM h1 (by rw[B4];omega) ?_
 clear h1 hn
 induction ms with
 | nil=>rw[D4];unfold eE;rfl
 | cons m ms ih=>
  have ih:=ih (λy hy=>hc y (C5 _ hy)) λy hy=>he y (C5 _ hy)
  rw[B3]
  unfold eE
  rw[hc m C9,C7,G7]
  cases q:p m with
  | true=>rw[if_pos rfl,if_pos rfl,he m C9 q,C7,ih];rfl
  | false=>rw[if_neg (by decide),if_neg (by decide)];exact ih
theorem Xv{m:List (Int×Int)}(hn:(cM m).Nodup){p:Int×Int}(hp:p∈m):Gx (dM m) (.int p.1)=some (.int p.2):=by
 obtain⟨i,hi⟩:=List.mem_iff_getElem?.mp hp
 have e:posK ((cM m).map (B5:Int→Key)) (B5 p.1)=some i:=by
  refine wZ ?_ ?_
  ·rw[J1,J2]
   exact(J1.mp hn).imp λh z=>h (M9 z)
  ·unfold cM
   rw[C4,C4,hi]
   rfl
 show (posK ((cM m).map (B5:Int→Key)) (B5 p.1)).bind (λj=>(m.map λp=>D.int p.2)[j]?)=_
 rw[e,C7,C4,hi]
 rfl
theorem Aa:∀m:List (Int×Int),intsOf (m.map λp=>D.int p.2)=some (m.map (·.2))
 | []=>rfl
 | p::m=>by
  show (intsOf (m.map λp=>D.int p.2)).map (p.2::·)=_
  rw[Aa m]
  rfl
theorem Xw{Pr:SR→Prop}{t i:Nat}{env:EN}{g:GS}{m:List (Int×Int)}(h1:env[t]?=some (.own (dM m)))(ht:i<env.length)(hn:(cM m).Nodup)(hl:m.length<64)(hv:dC (rE (env.set t (.fro (dM m)))) [t]=[some (dM m)]) (k:Qs Pr (g ((env.set t (.fro (dM m))).set i (.own (.lst ((bA m).map pD)))))) :
  Qs Pr (aX (vA t i [t] (mU (aC (dI (aG 0)) (aC (dI (f2 Gx (aG 1) (aG 0))) aN)))) g env):=by
 refine KY (env':=(env.set t (.fro (dM m))).set i (.own (.lst ((bA m).map pD)))) ?_ k
 unfold vA
 rw[h1]
 show (match intsOf (m.map λp=>D.int p.2)with
  | some _=>dB i (xJ ((cM m).map B5) [t] (mU (aC (dI (aG 0)) (aC (dI (f2 Gx (aG 1) (aG 0))) aN)))) (env.set t (.fro (dM m)))
  | none=>.bad)=_
 rw[Aa]
 refine Eu ?_ (by rw[T3];exact ht)
 unfold xJ
 refine jZ (aB (Hq (xs:=m) (ψ:=λp=>.int p.1) (φ:=pD) ?_ (by omega) λp hp=>?_) rfl) (vI hn hl)
 ·unfold cM
  rw[I0,I0]
  rfl
 ·rw[hv]
  exact jK (aB (cH rfl rfl) (aB (cH (aM rfl rfl (Xv hn hp)) rfl) rfl)) (by exact Nat.le_of_ble_eq_true rfl)
theorem Fo{α:Type}:∀{l m:List α},l.Nodup→m.Nodup→(∀x,x∈l↔x∈m)→l.Perm m
  | [],m,_,_,h=>by
    cases m with
    | nil=>exact Q2 _
    | cons a m=>exact absurd ((h a).mpr C9) (by simp)
  | a::l,m,h1,h2,h=>by
    obtain⟨s,t,rfl⟩:=List.append_of_mem ((h a).mp C9)
    rw[G1]at h1
    have h3:(a::(s++t)).Nodup:=(S8.nodup_iff).mp h2
    rw[G1]at h3
    refine((Fo h1.2 h3.2 λx=>?_).cons a).trans S8.symm
    constructor
    · intro z
      have:=(h x).mp (C5 _ z)
      rcases E4.mp this with w | w
      · exact G5 _ w
      · rcases E3.mp w with w | w
        · rw[w]at z;exact absurd z h1.1
        · exact C8 _ w
    · intro z
      have hx:x∈a::l:=(h x).mpr (by
        rcases E4.mp z with w | w
        · exact G5 _ w
        · exact C8 _ (C5 _ w))
      rcases E3.mp hx with w | w
      · rw[w]at z;exact absurd z h3.1
      · exact w
theorem vJ{m:List (Int×Int)}(h:(cM m).Nodup):m.Nodup:=by
 rw[J1]at h ⊢
 unfold cM at h
 rw[J2]at h
 exact h.imp λh z=>h (by rw[z])
theorem Ab{l m:List (Int×Int)}(h1:(cM l).Nodup)(h2:(cM m).Nodup)(h:∀a b,(a,b)∈l↔(a,b)∈m):bA l=bA m:=by
 have p:l.Perm m:=Fo (vJ h1) (vJ h2) λx=>h x.1 x.2
 exact rP h2 ((cU l).trans p) (rO l)
theorem Cw{m:List (Int×Int)}(h:(cM m).Nodup):bA (bA m)=bA m:=(rP (oG h) (Q2 _) (rO m)).symm
theorem Fq(n:Nat):∀l:List (Int×Int),gR (l.map pD) (n+1)=true
 | []=>by rw[D4];unfold gR;rfl
 | p::l=>by
  rw[B3]
  unfold gR
  rw[Fq n l]
  unfold Ii
  rfl
theorem Xx(n:Nat)(p:Pt):Ii (oK p) (n+1)=true:=by
 unfold oK
 split<;>(unfold Ii;rfl)
theorem Ft(n:Nat):∀l:List Pt,gR (l.map oK) (n+1)=true
 | []=>by rw[D4];unfold gR;rfl
 | p::l=>by
  rw[B3]
  unfold gR
  rw[Ft n l,Xx]
  rfl
theorem tO(c:Bool)(l:List (Int×Int))(ps:List Pt):Hj c (.lst [.lst (l.map pD),jD ps]) (.lst [.lst (l.map pD),jD ps])=some (.bl c):=by
 unfold Hj
 dsimp only
 rw[if_pos]
 refine⟨rfl,?_⟩
 unfold gR
 unfold gR
 unfold gR jD
 unfold Ii
 rw[Fq,Ft]
 rfl
theorem Cy{c k:Int}{m:List (Int×Int)}(hs:Small c):∃p:Pt,iZ [.int c,.int k,dM m]=some (oK p)∧p.key=k∧(p.put=true→0≤p.am)∧(p.put=false→k∈cM m):=by
 suffices hh:∃d,iZ [.int c,.int k,dM m]=some d∧∃p:Pt,d=oK p∧p.key=k∧(p.put=true→0≤p.am)∧(p.put=false→k∈cM m) by
  obtain⟨d,h1,p,rfl,h2⟩:=hh
  exact⟨p,h1,h2⟩
 refine sH rfl ?_
 unfold zT
 have Yk:oY (.int 10) (.int 58)=some (.int (10 ^ 58)):=fX ⟨by decide,by decide,by decide⟩
 refine Xe (pR (cD (aM rfl rfl (Mt false k m))) (cD (aM (aM (aM rfl rfl (iV (by decide) (by decide))) rfl (bY (by decide))) rfl (xM _ _)))) (λhb=>?_) λ_=>Cd ?_
 ·rw[G8,if_neg (by decide),decide_eq_true_iff]at hb
  exact CW (jK (aB rfl (aB (cH rfl rfl) rfl)) (by exact Nat.le_of_ble_eq_true rfl)) ⟨_,rfl,⟨false,k,0⟩,rfl,rfl,λz=>(by cases z),λ_=>hb.1⟩
 ·have h5:=jO hs (show (0:Int)≤5 by decide) (by decide)
  have h11:=jO hs (show (0:Int)≤11 by decide) (by decide)
  refine sG (jK (aB rfl (aB (cH rfl rfl) (aB (aM (aM (aM rfl rfl (cO _ _)) (aM rfl rfl (cO _ _)) (nM h5 h11)) (aM rfl rfl Yk) (bY (by decide))) rfl))) (by exact Nat.le_of_ble_eq_true rfl)) ⟨_,rfl,⟨true,k,(c+5)*(c+11)%10 ^ 58⟩,rfl,rfl,λ_=>K6 _ (by decide),λz=>(by cases z)⟩
theorem Mz{ds:List D}{xs:List DV}(h:cT ds=some xs)(hd:(DV.lst xs).depth≤32):Gv (.lst ds) (.lst ds)=some (.bl true):=by
 have e:bR (.lst ds)=some (.lst xs):=by unfold bR;rw[h];rfl
 unfold Gv toV
 dsimp only
 rw[e]
 dsimp only
 rw[if_pos hd,fD]
theorem Hy(ns:List Int)(k:Nat):gH [fU ns,.int k]=some (.int (ns.getD k 0)):=by
 refine fW rfl ?_
 unfold sS
 by_cases c:k<ns.length
 ·apply Xd
  ·walk_at "et"
  ·exact decide_eq_true (by omega)
  have hx:=rZ (ns:=ns) (i:=k) (by omega) (by omega)
  rw[S2]at hx
  apply CT
  ·walk_at "ev"
  ·rfl
 ·apply Xc
  ·walk_at "et"
  ·exact decide_eq_false (by omega)
  apply CQ
  rw[B7,F7 (by omega)]
  exact eG rfl
theorem Tj(a b c:Int){i:Int}(h0:0≤i)(h1:i<3):∃s,nZ (.lst [.int a,.int b,.int c]) (.int i)=some (.int s):=by
 have:i=0∨i=1∨i=2:=by omega
 rcases this with rfl | rfl | rfl
 ·exact⟨a,mC (by decide) rfl⟩
 ·exact⟨b,mC (by decide) rfl⟩
 ·exact⟨c,mC (by decide) rfl⟩
theorem vK(first n:Int):∃k,jM [.int first,.int n]=some (.int k):=by
 suffices hh:∃d,jM [.int first,.int n]=some d∧∃k,d=.int k by
  obtain⟨d,h1,k,rfl⟩:=hh
  exact⟨k,h1⟩
 refine sH rfl ?_
 unfold Fd
 have Yk:oY (.int 10) (.int 58)=some (.int (10 ^ 58)):=fX ⟨by decide,by decide,by decide⟩
 have VM:oY (.int 10) (.int 30)=some (.int (10 ^ 30)):=fX ⟨by decide,by decide,by decide⟩
 obtain⟨s,hs⟩:=Tj 1 3 (10 ^ 30) (K6 first (show (3:Int)≠0 by decide)) (K8 first (by decide))
 obtain⟨l,hl⟩:=Tj 0 (first%10 ^ 58) (0-first%10 ^ 58) (K6 (first/3) (show (3:Int)≠0 by decide)) (K8 (first/3) (by decide))
 refine cZ (cH (aM (eN (aB rfl (aB rfl (aB (aM rfl rfl VM) rfl))) (by exact Nat.le_of_ble_eq_true rfl)) (aM rfl rfl (bY (by decide))) hs) rfl) (by exact Nat.le_of_ble_eq_true rfl) ?_
 refine cZ (cH (aM (eN (aB rfl (aB (aM rfl (aM rfl rfl Yk) (bY (by decide))) (aB (aM rfl (aM rfl (aM rfl rfl Yk) (bY (by decide))) (lZ _ _)) rfl))) (by exact Nat.le_of_ble_eq_true rfl)) (aM (aM rfl rfl (iV (by decide) (by decide))) rfl (bY (by decide))) hl) rfl) (by exact Nat.le_of_ble_eq_true rfl) ?_
 have m0:=K6 (n%2147483647) (show (41:Int)≠0 by decide)
 have m1:=K8 (n%2147483647) (show (0:Int)<41 by decide)
 exact sG (aM rfl (aM rfl (aM (aM (aM rfl rfl (bY (by decide))) rfl (bY (by decide))) rfl (lZ _ _)) (iU (Rb (by omega) (by omega)))) (cO _ _)) ⟨_,rfl,_,rfl⟩
theorem Ac(n:Int):fY [.int n]=some (.bl true):=fW rfl (eG (xN (pQ rfl rfl) (Lx (b:=false) (pQ rfl rfl))))
theorem Ad:∀l:List (Int×Int),cT (l.map pD)=some (l.map λp=>DV.tup [.int p.1,.int p.2])∧bF (l.map λp=>DV.tup [.int p.1,.int p.2])≤1
 | []=>⟨by rw[D4];unfold cT;rfl,by rw[D4];unfold bF;decide⟩
 | p::l=>by
  obtain⟨h1,h2⟩:=Ad l
  have e:bR (pD p)=some (DV.tup [.int p.1,.int p.2]):=Mh [p.1,p.2]
  have e2:(DV.tup [.int p.1,.int p.2]).depth=1:=by
   have:=qL [p.1,p.2]
   rw[B3,B3,D4]at this
   unfold DV.depth
   rw[this]
  refine⟨by rw[B3];unfold cT;rw[e,C7,h1];rfl,?_⟩
  rw[B3]
  unfold bF
  omega
theorem lG{l:List (Int×Int)}:dU [.lst (l.map pD),.lst (l.map pD)]=some (.bl true):=by
 suffices hh:∃d,dU [.lst (l.map pD),.lst (l.map pD)]=some d∧d=.bl true by
  obtain⟨d,h1,rfl⟩:=hh
  exact h1
 refine sH rfl ?_
 unfold zR
 refine zN (b:=false) ((zL (gG (b:=true) (cD (pQ rfl rfl)))).trans ((cD (aM (jZ (aB rfl rfl) (mD _)) (jZ (aB rfl rfl) (mD _)) (pP _ _))).trans (by rw[decide_eq_true rfl];rfl))) rfl (Cd ?_)
 refine Ez (xs:=l.map pD) (λn env=>∃v2,env=[.fro (.lst (l.map pD)),.fro (.lst (l.map pD)),v2]) rfl (dJ rfl) ⟨_,rfl⟩ ?_ ?_
 ·rintro n x env hx ⟨v2,rfl⟩
  refine⟨by walk_at "lt", ?_⟩
  rw[C4]at hx
  obtain⟨p,hp,rfl⟩:=cR hx
  refine Xf (b:=false) ((zL (gG (b:=true) (cD (pQ rfl rfl)))).trans ((zL ((cD (aM (jZ (aB rfl rfl) (sE _)) rfl (pP _ _))).trans (by rw[show (([D.int p.1,D.int p.2].length:Nat):Int)=2 from rfl,decide_eq_true rfl];rfl))).trans ((zL (gG (b:=true) (cD (aW (aB (aM rfl rfl (jJ (by decide) rfl)) rfl) rfl (Ac p.1))))).trans (gG (b:=true) (cD (aW (aB (aM rfl rfl (jJ (by decide) rfl)) rfl) rfl (Ac p.2))))))) rfl (CV ⟨_,rfl,_,rfl⟩)
 ·rintro env ⟨v2,rfl⟩
  obtain⟨h1,h2⟩:=Ad l
  exact sG (aM rfl rfl (Mz h1 (by unfold DV.depth;omega))) ⟨_,rfl,rfl⟩
theorem Nb(ns:List Int)(hl:ns.length≤63)(hs:∀k∈ns,Small k):Xo [.lst (ns.map D.int)]=some (.bl true):=by
  suffices h:∃d,Xo [fU ns]=some d∧d=.bl true by
    obtain⟨d,h1,rfl⟩:=h
    exact h1
  refine sH rfl ?_
  unfold DK
  have hc0:=Hy ns 0
  rw[show ((0:Nat):Int)=0 from rfl]at hc0
  have Yk:oY (.int 10) (.int 58)=some (.int (10 ^ 58)):=fX ⟨by decide,by decide,by decide⟩
  refine cZ (aW (aB rfl (aB rfl rfl)) rfl hc0) (by exact Nat.le_of_ble_eq_true rfl) ?_
  generalize ns.getD 0 0=first
  refine cZ (d:=fU ((ns.drop 1).take 60)) ((sO rfl (jL rfl) (jL rfl)).trans (by rw[show (1:Int)=((1:Nat):Int)from rfl,show (61:Int)=((61:Nat):Int)from rfl,Mg])) (by exact Nat.le_of_ble_eq_true rfl) ?_
  have hcl:((ns.drop 1).take 60).length≤60:=by rw[J9];omega
  have hcs:∀c∈(ns.drop 1).take 60,Small c:=λc hc=>hs c (Q5 (Q6 hc))
  generalize (ns.drop 1).take 60=cells at *
  have cp:(0:Int)<(cells.length:Int)+1:=by omega
  refine cZ (aM (aM rfl rfl (iV (by decide) (by decide))) (aM (jZ (aB rfl rfl) (nJ _)) rfl (cO _ _)) (bY cp)) (by exact Nat.le_of_ble_eq_true rfl) ?_
  have q0:=K6 (first/9) (show (cells.length:Int)+1≠0 by omega)
  have q1:=K8 (first/9) cp
  obtain⟨mn,em⟩:∃mn:Nat,first/9%((cells.length:Int)+1)=mn:=⟨(first/9%((cells.length:Int)+1)).toNat,by omega⟩
  rw[em]at q1 ⊢
  refine cZ (d:=dM []) rfl (by exact Nat.le_of_ble_eq_true rfl) ?_
  refine Ez (xs:=(cells.take mn).map D.int) (λn env=>∃(m:List (Int×Int))(v5:SD),env=[.fro (fU ns),.own (.int first),.fro (fU cells),.fro (.int mn),.own (dM m),v5,.no,.no,.no,.no,.no,.no,.no]∧(cM m).Nodup∧m.length≤n) rfl (dJ ((sO rfl rfl (jL rfl)).trans (by rw[Xk]))) ⟨[],_,rfl,M8,B6 _⟩ ?_ ?_
  · rintro n x env hx ⟨m,v5,rfl,hm1,hm2⟩
    refine⟨by walk_at "lt", ?_⟩
    rw[C4]at hx
    obtain⟨c,hc,rfl⟩:=cR hx
    have hn:=(B9.mp hc).1
    rw[J9]at hn
    have sc:=hcs c (Q6 (E8 hc))
    obtain⟨k,hk⟩:=vK first (c*16807)
    have h5:=jO sc (show (0:Int)≤5 by decide) (by decide)
    have h7:=jO sc (show (0:Int)≤7 by decide) (by decide)
    refine vH (Ti (m:=m) (k:=k) (v:=(c+5)*(c+7)%10 ^ 58) rfl (aW (aB rfl (aB (aM rfl rfl (iU (Rb (by decide) (by decide)))) rfl)) rfl hk) (aM (aM (aM rfl rfl (cO _ _)) (aM rfl rfl (cO _ _)) (nM h5 h7)) (aM rfl rfl Yk) (bY (by decide))) (by omega)) ⟨_,rfl,_,_,rfl,tK hm1,?_⟩
    have:=zY m k ((c+5)*(c+7)%10 ^ 58)
    omega
  rintro env ⟨m,v5,rfl,hm1,hm2⟩
  rw[B4,J9]at hm2
  refine cZ (d:=jD []) (eN rfl (by decide)) (by exact Nat.le_of_ble_eq_true rfl) ?_
  refine cZ (d:=Hr []) rfl (by exact Nat.le_of_ble_eq_true rfl) ?_
  refine Ez (xs:=(cells.drop mn).map D.int) (λn env=>∃(ps:List Pt)(ks:List Int)(v5 v8:SD),env=[.fro (fU ns),.own (.int first),.fro (fU cells),.fro (.int mn),.own (dM m),v5,.own (jD ps),.own (Hr ks),v8,.no,.no,.no,.no]∧(∀k,k∈ks↔k∈ps.map Pt.key)∧GR m ps∧ps.length≤n∧ks.length≤n) rfl (dJ ((sO rfl (jL rfl) rfl).trans (by rw[Xj (by omega)]))) ⟨[],[],_,_,rfl,λk=>(by simp),⟨M8,λp hp=>(by cases hp),λp hp=>(by cases hp)⟩,B6 _,B6 _⟩ ?_ ?_
  · rintro n x env hx ⟨ps,ks,v5,v8,rfl,hk,hf,hl1,hl2⟩
    refine⟨by walk_at "lt", ?_⟩
    rw[C4]at hx
    obtain⟨c,hc,rfl⟩:=cR hx
    have hn:=(B9.mp hc).1
    rw[L4]at hn
    have sc:=hcs c (Q5 (E8 hc))
    obtain⟨k,hkk⟩:=vK first (c*48271)
    obtain⟨p,hp,rfl,p1,p2⟩:=Cy (k:=k) (m:=m) sc
    refine cZ (aW (aB rfl (aB (aM rfl rfl (iU (Rb (by decide) (by decide)))) rfl)) rfl hkk) (by exact Nat.le_of_ble_eq_true rfl) ?_
    have ha:=zO ks p.key
    refine Xe (cD (aM rfl rfl (xO true p.key ks))) (λhb=>?_) λhb=>Cd ?_
    · have hnew:p.key∉ks:=by simpa using hb
      refine Tg (ds:=ps.map oK) rfl (aW (aB rfl (aB rfl (aB rfl rfl))) rfl hp) (by rw[B4];omega) ?_
      refine vH (Mf (ks:=ks) (k:=p.key) rfl rfl rfl (by omega)) ⟨_,rfl,ps++[p],iW ks p.key,.fro (.int c),.own (.int p.key),?_,λj=>?_,⟨?_,λq hq=>?_,λq hq=>?_⟩,by rw[D7];exact Nat.succ_le_succ hl1,by omega⟩
      · unfold jD
        rw[E6]
        rfl
      · rw[sJ,hk,E6,E4]
        exact or_congr_right D5.symm
      · rw[E6,L0]
        refine⟨hf.nd,G1.mpr ⟨List.not_mem_nil,M8⟩,λa ha b hb z=>hnew ((hk _).mpr ?_)⟩
        rw[D5.mp hb]at z
        rw[←z]
        exact ha
      · rcases E4.mp hq with z | z
        · exact hf.am q z
        · rw[D5.mp z];exact p1
      · rcases E4.mp hq with z | z
        · exact hf.tk q z
        · rw[D5.mp z];exact p2
    · have hold:p.key∈ks:=by simpa using hb
      refine vH (Mf (ks:=ks) (k:=p.key) rfl rfl rfl (by omega)) ⟨_,rfl,ps,iW ks p.key,.fro (.int c),.own (.int p.key),rfl,λj=>?_,hf,by omega,by omega⟩
      rw[sJ,hk]
      exact⟨λz=>z.elim id λz=>by rw[z];exact(hk _).mp hold,.inl⟩
  rintro env ⟨ps,ks,v5,v8,rfl,hk,hf,hl1,hl2⟩
  rw[B4,L4]at hl1 hl2
  refine Xw (m:=m) rfl (by exact Nat.le_of_ble_eq_true rfl) hm1 (by omega) rfl ?_
  have hrn:(cM (bA m)).Nodup:=oG hm1
  have hrl:(bA m).length=m.length:=(cU m).length_eq
  have hrk:∀k,k∈cM (bA m)↔k∈cM m:=λk=>((cU m).map _).mem_iff
  have hf':GR (bA m) ps:=⟨hf.nd,hf.am,λp hp z=>(hrk _).mpr (hf.tk p hp z)⟩
  refine cZ (zZ (ms:=bA m) (ψ:=pD) (φ:=pD) (λp=>!decide (p.1∈ks)) (dJ rfl) (by omega) (λp _=>cD (aM (aM rfl rfl (jJ (by decide) rfl)) rfl (xO true p.1 ks))) λp _ _=>cH rfl rfl) (by exact Nat.le_of_ble_eq_true rfl) ?_
  generalize hd0:(bA m).filter (λp=>!decide (p.1∈ks))=due0
  generalize GX:(ps.filter Pt.put).map (λp=>(p.key,p.am))=rM
  have hdl:due0.length≤m.length:=by
    rw[←hd0,←hrl]
    exact J8 _ _
  have hpl:rM.length≤ps.length:=by
    rw[←GX,B4]
    exact J8 _ _
  have Tn:∀a b,(a,b)∈due0↔a∉ps.map Pt.key∧(a,b)∈bA m:=λa b=>by
    rw[←hd0,J5]
    constructor
    · rintro⟨z1,z2⟩
      exact⟨λz=>absurd ((hk a).mpr z) (by simpa using z2),z1⟩
    · rintro⟨z1,z2⟩
      exact⟨z2,by simpa using λz=>z1 ((hk a).mp z)⟩
  have Tp:∀a b,(a,b)∈rM↔∃p∈ps,p.put=true∧p.key=a∧p.am=b:=λa b=>by
    rw[←GX,D8]
    constructor
    · rintro⟨p,hp,e⟩
      rw[J5]at hp
      cases e
      exact⟨p,hp.1,hp.2,rfl,rfl⟩
    · rintro⟨p,hp,z1,rfl,rfl⟩
      exact⟨p,J5.mpr ⟨hp,z1⟩,rfl⟩
  have hdn:(cM (due0++rM)).Nodup:=by
    unfold cM
    rw[E6,L0]
    refine⟨?_,?_,λa ha b hb z=>?_⟩
    · rw[←hd0]
      exact(L6 _ M7).nodup hrn
    · rw[←GX,I0]
      exact(L6 _ M7).nodup hf.nd
    · obtain⟨⟨a1,a2⟩,h1,e1⟩:=D8.mp ha
      obtain⟨⟨b1,b2⟩,h2,e2⟩:=D8.mp hb
      have e1:a1=a:=e1
      have e2:b1=b:=e2
      subst e1 e2 z
      obtain⟨p,hp,_,e,_⟩:=(Tp _ _).mp h2
      exact((Tn _ _).mp h1).1 (D8.mpr ⟨p,hp,e⟩)
  have Tq:=zZ (fi:=pA (aG 6)) (fr:=[]) (fc:=fB (f2 Gv (f2 nZ (aG 0) (fC (.int 0))) (fC (.str "put")))) (fe:=mU (aC (dI (f2 nZ (aG 0) (fC (.int 1)))) (aC (dI (f2 nZ (aG 0) (fC (.int 2)))) aN))) (e:=rE [.fro (fU ns),.own (.int first),.fro (fU cells),.fro (.int mn),.fro (dM m),v5,.own (jD ps),.own (Hr ks),v8,.own (.lst ((bA m).map pD)),.own (.lst (due0.map pD)),.no,.no]) (ms:=ps) (ψ:=oK) (φ:=λp=>pD (p.key,p.am)) Pt.put (dJ rfl) (by omega) (λp _=>cD (aM (aM rfl rfl (Mq p)) rfl (Fe p))) λp _ hp=>jK (aB (cH (aM rfl rfl (Mr p)) rfl) (aB (cH (aM rfl rfl (Ms hp)) rfl) rfl)) (by exact Nat.le_of_ble_eq_true rfl)
  have hpm:(ps.filter Pt.put).map (λp=>pD (p.key,p.am))=rM.map pD:=by rw[←GX,I0];rfl
  rw[hpm]at Tq
  refine cZ (d:=.lst ((bA (due0++rM)).map pD)) (jZ (aB (a:=.lst ((due0++rM).map pD)) ((aM rfl Tq (Ho (a:=due0.map pD) (b:=rM.map pD) (by rw[Ly,fQ,fQ];rfl) (by rw[B4,B4];omega))).trans (by rw[E6])) rfl) (vI hdn (by rw[D7];omega))) (by exact Nat.le_of_ble_eq_true rfl) ?_
  have Rj:∀mF,Made (bA m) ps mF→bA mF=bA (due0++rM):=λmF h=>by
    refine Ab h.1 hdn λa b=>?_
    rw[h.2,E4,Tn,Tp]
  refine cZ (d:=.lst [.lst ((bA m).map pD),jD ps]) (eN (aB (jZ (aB rfl rfl) (vC (fQ _))) (aB (jZ (aB rfl rfl) (vC (zX _))) rfl)) (by exact Nat.le_of_ble_eq_true rfl)) (by exact Nat.le_of_ble_eq_true rfl) ?_
  obtain⟨mF,Xy,hmd⟩:=tL hrn hf' (by omega)
  rw[Rj mF hmd]at Xy
  refine cZ (aW (aB (aM rfl rfl (mC (by decide) rfl)) (aB (aM rfl rfl (mC (by decide) rfl)) rfl)) rfl Xy) (by exact Nat.le_of_ble_eq_true rfl) ?_
  refine zN (b:=false) ((zL (gG (b:=true) (cD (aW (aB rfl (aB rfl rfl)) rfl lG)))).trans (cD (aM rfl (eN (aB rfl (aB rfl rfl)) (by exact Nat.le_of_ble_eq_true rfl)) (tO false (bA m) ps)))) rfl (Cd ?_)
  refine Tg (ds:=(bA (due0++rM)).map pD) rfl (jK (aB rfl (aB rfl rfl)) (by exact Nat.le_of_ble_eq_true rfl)) (by rw[B4,(cU _).length_eq,D7];omega) ?_
  obtain⟨m0,DP,hm0⟩:=tL (ps:=[]) hrn ⟨M8,λp hp=>(by cases hp),λp hp=>(by cases hp)⟩ (by rw[T2];omega)
  have e0:bA m0=bA m:=by
    rw[←Cw hm1]
    refine Ab hm0.1 hrn λa b=>?_
    rw[hm0.2]
    exact⟨λz=>z.elim (λz=>z.2) λ⟨p,hp,_⟩=>(by cases hp),λz=>.inl ⟨by simp,z⟩⟩
  rw[e0]at DP
  exact sG (d:=.bl true) (xN (aM rfl (eN (aB rfl (aB rfl rfl)) (by exact Nat.le_of_ble_eq_true rfl)) (tO true (bA m) ps)) (xN (aW (aB (aW (aB rfl (aB rfl rfl)) rfl Xy) (aB rfl rfl)) rfl lG) (aW (aB (aW (aB rfl (aB (eN rfl (by decide)) rfl)) rfl DP) (aB rfl rfl)) rfl lG))) ⟨_,rfl,rfl⟩
end Rs

def PySem.W.Fast.tw14919780091656985885:Unit:=()
def PySem.W.Fast.tw6987592585099129827:Unit:=()
def PySem.W.Fast.tw7502735673918498407:Unit:=()
def PySem.W.Fast.tw506332781788146846:Unit:=()
def PySem.W.Fast.tw3830857906522433943:Unit:=()
def PySem.W.Fast.tw16515373285148660297:Unit:=()
def PySem.W.Fast.tw2350361033022732585:Unit:=()
def PySem.W.Fast.tw15883195245544150407:Unit:=()
def PySem.W.Fast.tw15745548806637531978:Unit:=()
def PySem.W.Fast.tw17348736942570396434:Unit:=()
def PySem.W.Fast.tw6284408315713137568:Unit:=()
def PySem.W.Fast.tw12077108849141183580:Unit:=()
def PySem.W.Fast.tw12601874494991251156:Unit:=()
def PySem.W.Fast.tw1283936759664698230:Unit:=()
def PySem.W.Fast.tw4178741331338002222:Unit:=()
def PySem.W.Fast.tw1949774900331718518:Unit:=()
def PySem.W.Fast.tw16418124963475907380:Unit:=()
def PySem.W.Fast.tw5050547462258085690:Unit:=()
def PySem.W.Fast.tw6117913190566094430:Unit:=()
def PySem.W.Fast.tw9895949242980319586:Unit:=()
namespace Rs
open PySem L2
theorem Rk{K:aA}{f:Addr}{oc:Value}{od:Option Addr}{fd:FuncData}{sl:Array (Option Value)}(l:K.lookup f=some ⟨oc,od,.func fd,sl⟩):G0 K (.ref f)=true:=by
 unfold G0
 dsimp only
 rw[l]
theorem KZ{K:aA}{h:Heap}{mg:Str→Option Value}{x:Str}{st:Stmt}{f:Addr}{oc:Value}{od an:Option Addr}{osl:Array (Option Value)}{kV doc pm cdv ct:Value}(X:K.In h)(G:h.Ns mainGlobals mg)(a:R6 K mainGlobals x=some (some (.ref f)))(l:K.lookup f=some ⟨oc,od,.func (E9 x x (cB st) (bK st) (aH st) .none kV doc pm an cdv ct),osl⟩)(c:J7 K cdv x=true):Raw K mg x st:=Vu X G a l c (Rk l)
theorem walk{l:T6}{q:Program}{loose:List Str}{XP:(Str→Option Value)→Heap→Prop}{YP:World→Heap→Prop}{d:DefRec}{K:Params→aA}(hn:l.most=some 63)(hdf:d.params.defaults=[])(hdn:d.name = "law")
  (hY:∀(w:World)(h:Heap),YP w h→(K w.params).In h)
  (F:∀(w:World)(mg:Str→Option Value)(h:Heap),(K w.params).In h→h.Ns mainGlobals mg→Raw (K w.params) mg "_law_cell_at" lB∧Raw (K w.params) mg "key_of" Cg∧Raw (K w.params) mg "is_put" Ci∧Raw (K w.params) mg "amount_of" nO∧Raw (K w.params) mg "check_parts" iY∧Raw (K w.params) mg "plainly" sU∧Raw (K w.params) mg "_law_key" xP∧Raw (K w.params) mg "_law_whole" nP∧Raw (K w.params) mg "_law_rows" sV∧Raw (K w.params) mg "_law_part" sW∧Raw (K w.params) mg "law" Hu∧mg "len" = none∧mg "dict" = none∧mg "sorted" = none∧mg "isinstance" = none∧mg "bool" = none∧mg "int" = none∧mg "list" = none∧mg "tuple" = none∧Ek mg "PUT" "put") :
  U1 q loose XP YP l.row.toRowW d [] (λf vs=>T5 f vs):=by
 refine L2.Hf (n:=63) (k:=4) (x := "script") (CX:=λ_=>Ie) (sp:=λw=>JT (K w.params)) hn (by decide) hdf ⟨rfl,by decide,by decide⟩ hY ?_ (λ_ _ a ns hl hb _ hS=>⟨a,ns,rfl,hS,hl,hb,λ_=>rfl⟩) λ_ _ _ _ _ z=>z
 intro w mg fa h KX G hmg
 obtain⟨Cz,Xz,Yb,Hz,Ae,Nf,Rm,Ib,Ng,Nh,LC,sX,zdict,gJ,bT,Mm,Xq,sZ,Cq,Xp⟩:=F w mg h KX G
 obtain⟨f,fd,FL,m⟩:=LC.ex
 rw[hdn]at hmg
 have e:=hmg.symm.trans m
 cases e
 refine⟨fd,Bl FL (λ_ _ _ _ _ _ u=>rfl),λbase _ _=>?_⟩
 have lF:=xQ (P:=l.prog) (w:=w) (mg:=mg) (base:=base) Cz  sX
 have lD:=Mj (P:=l.prog) (w:=w) (mg:=mg) (base:=base) Xz
 have lE:=Ml (P:=l.prog) (w:=w) (mg:=mg) (base:=base) Yb  Xp
 have dG:=zV (P:=l.prog) (w:=w) (mg:=mg) (base:=base) Hz
 have jA:=uD (P:=l.prog) (w:=w) (mg:=mg) (base:=base) Ae lD dG lE
 have jB:=Ck (P:=l.prog) (w:=w) (mg:=mg) (base:=base) Nf jA lE lD dG  zdict gJ
 have pU:=Hv (P:=l.prog) (w:=w) (mg:=mg) (base:=base) Rm
 have jN:=zW (P:=l.prog) (w:=w) (mg:=mg) (base:=base) Ib  bT Mm Xq
 have jC:=Cp (P:=l.prog) (w:=w) (mg:=mg) (base:=base) Ng jN  sX bT sZ Cq
 have tD:=Cr (P:=l.prog) (w:=w) (mg:=mg) (base:=base) Nh
 exact Xr FL lF pU tD jB jC  sX gJ sZ Nb
end Rs
open PySem PySem.W PyProof.Rows
set_option maxRecDepth 100000 in
set_option maxHeartbeats 0 in
theorem PySem.Challenge.cw_ripestone_k33_plainly_holds : PySem.Challenge.rw_ripestone_k33_plainly.Holds := by
 w_on;o_law;k_head;(case hw=>w_witness2)
 k_fill
 refine Rs.walk (l:=PySem.Challenge.rw_ripestone_k33_plainly) rfl rfl rfl (λw h Y=>PySem.W.kIn_of Y) ?F
 case F=>
  intro w mg h KX G
  refine⟨?_,?_,?_,?_,?_,?_,?_,?_,?_,?_,?_,F8 KX G ?_,F8 KX G ?_,F8 KX G ?_,F8 KX G ?_,F8 KX G ?_,F8 KX G ?_,F8 KX G ?_,F8 KX G ?_,?_⟩
  iterate 11
   ·refine' Rs.KZ KX G ?a ?l ?c
    (case a=>k_is);(case l=>k_is);(case c=>k_is)
  iterate 8
   ·k_is
  ·refine' L2.Kw KX G ?a
   (case a=>k_is)
#print axioms PySem.Challenge.cw_ripestone_k33_plainly_holds
