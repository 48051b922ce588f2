import PyProof.Rows.All
import Wide.All
import OpenK.AllK
import Wide.FinOn
import Lean
import PyProof.EqAt
import PyProof.EqKinds
import PyProof.TupleCall
import PySem.Challenge.RW_ripestone_k34_plainly_refused
open Array renaming getD_eq_getD_getElem?→G8,length_toList→N7,getElem?_toList→O6,toList→X0
open Array.Perm renaming refl→R7
open Bool renaming false_ne_true→C6,and_eq_true→J6,eq_iff_iff→M5,false_eq_true→O1,not_eq_true→V8
open Int renaming emod_lt_of_pos→G9,emod_nonneg→J1,natAbs_eq_zero→U7,toNat_natCast→U9,le_refl→V1
open List renaming getElem?_eq_getElem→B0,length_map→B3,size_toArray→B4,map_cons→B5,getD_eq_getElem?_getD→B6,getElem?_eq_some_iff→B8,getElem?_map→C5,mem_append_right→C8,mem_cons_of_mem→C9,mem_cons_self→D4,mem_cons→D6,range→D7,replicate→D9,length_append→F1,length_cons→F3,map_nil→F5,mem_append_left→F6,mem_singleton→F7,mem_of_getElem?→F9,mem_map→G0,map_append→G6,zip_cons_cons→G7,getElem?_eq_none→J5,filterMap_cons→J8,zipWith_cons_cons→K1,length_take→K2,mem_append→K3,length_range→K4,mem_range→K5,nodup_cons→K8,find?_cons→K9,drop_eq_getElem_cons→L6,length_drop→L9,filter_cons→M3,getElem?_set_self→M6,pairwise_map→M7,map_map→N1,getElem?_set_ne→N2,cons_append→N3,nodup_iff_pairwise_ne→N5,getElem?_append_left→N9,pairwise_iff_getElem→O0,take_of_length_le→O3,lookup_cons→O5,zipWith→P0,getElem?_drop→P6,getElem?_append_right→P7,any_cons→P8,map_take→Q0,ext_getElem?→Q3,drop_length→Q6,toArray→Q8,getElem?_replicate→R0,mem_filter→R4,append_nil→R5,of_mem_zip→R6,length_replicate→S1,length_filter_le→S2,zipWith_nil_left→S4,getElem?_toArray→S7,mem_of_mem_drop→S9,mem_of_mem_take→T0,map_drop→T2,take_succ_cons→T5,replicate_succ→T6,getElem?_range→T7,map_congr_left→T8,mem_filterMap→U0,pairwise_cons→U5,getElem?_take→U6,take_sublist→U8,nodup_append→V0,all_eq_true→V4,ext_getElem→V5,length_nil→W2,length_set→W3,nil_append→W4,filterMap→W7,nodup_nil→W8
open List.Sublist renaming map→V7
open Nat renaming le_refl→B9,lt_of_lt_of_le→C3,ne_of_lt→C4,le_trans→F8,lt_irrefl→G1,le_of_ble_eq_true→G5,lt_succ_of_lt→J0,zero_le→K0,lt_or_ge→K6,le_of_lt→L7,zero_add→N0,le_succ→N6,ne_of_gt→O7,lt_trans→O9,lt_trichotomy→Q4,add_le_add_left→T4,lt_of_le_of_lt→U2,min_self→U3,lt_succ_self→V3,le_add_right→V6
open Option renaming bind_some→C7,isSome_iff_exists→L8,isSome_map→Q2,getD_none→V2,none→X2
open Option.some renaming inj→F2
open Or renaming inr→D8,inl→F0
open PyProof.Rows renaming boot_isinstance→M9,callWith_builtin1→O8,boot_sorted→Q9,boot_dict→R9,boot_list→S0
open PySem renaming mem_of_lookup→J9,boot_len→P4,call→W5
open PySem.F renaming excBase_ValueError→N4,plainAttrs_dict→R1,slot_dict_items→R3,slot_dict_pop→S3
open PySem.W renaming exmOne→A9,findIn→D5,fnOf→F4,mg_of→G2,excIn→G3,nsIn→G4,Looks→I0,keepIn→J7,mg_none_of→K7,specialIn→L5,mroIn→M4,codeIn→M8,takesIn→N8,kitCls→O2,clsIn→O4,exm_one→P1,looks_findIn→P2,subIn→P9,methodObj→Q1,cellsFrom_some→R8,kitOne→S5,kitAny→S6,hideAll_none→S8,hideAll_get→T3,of_hideAll→T9,callWith_K→U1,instObj→V9,hideAll→W0,OpenLaw→W6,WalkO→W9,isFn→X1
open PySem.W.KF renaming slot_gs→U4
open PySem.W.Looks renaming ld→Q7
open Sum renaming inl→B7,inr→Q5
open Sum.inl renaming inj→P5
abbrev aA:=PySem.W.Frag
theorem aX{α:Type u_1}{b:α}{β:Type u_2}{x:Option β}{f:β→Option α}(h:x.bind f=some b):∃a,x=some a∧f a=some b:=Option.bind_eq_some_iff.mp h
theorem fJ{α:Type u_1}{b:α}{β:Type u_2}{x:Option β}{f:β→α}(h:x.map f=some b):∃a,x=some a∧f a=b:=Option.map_eq_some_iff.mp h

set_option Elab.async false
set_option linter.all false
set_option maxRecDepth 100000
namespace L2
open PySem PySem.Spec PyProof.Rows
abbrev Key:=Sum Int Str
def xQ:Key→Value→Bool
 | .inl k,v=>Value.isInt k v
 | .inr x,v=>Value.isStrOf x v
def bc(w:World):Key→Int
 | .inl k=>hashInt k
 | .inr x=>hashStr w x
theorem bV:∀{k:Key} {v:Value},xQ k v=true→(∃i t,k=B7 i∧v=Value.int i t)∨(∃x t,k=Q5 x∧v=Value.str x t)
 | .inl i,v,h=>by
  obtain⟨t,e⟩:=Value.isInt_shape (k:=i) (v:=v) h
  exact .inl ⟨i,t,rfl,e⟩
 | .inr x,v,h=>by
  obtain⟨t,e⟩:=Value.isStrOf_shape (x:=x) (v:=v) h
  exact .inr ⟨x,t,rfl,e⟩
theorem Kh(i:Int)(t:Tok):xQ (.inl i) (.int i t)=true:=by simp[xQ,Value.isInt]
theorem Kl(x:Str)(t:Tok):xQ (.inr x) (.str x t)=true:=by simp[xQ,Value.isStrOf]
theorem BR(a b:Int):decide ((B7 a:Key)=B7 b)=(a==b):=by
 by_cases e:a=b
 ·subst e;simp
 ·have h:¬(B7 a:Key)=B7 b:=λq=>e (P5 q)
  rw[decide_eq_false h]
  exact(beq_eq_false_iff_ne.mpr e).symm
theorem BV(a b:Str):decide ((Q5 a:Key)=Q5 b)=decide (a=b):=by
 by_cases e:a=b
 ·subst e;simp
 ·have h:¬(Q5 a:Key)=Q5 b:=λq=>e (Sum.inr.inj q)
  rw[decide_eq_false h,decide_eq_false e]
theorem BW(a:Int)(b:Str):decide ((B7 a:Key)=Q5 b)=false:=decide_eq_false (λq=>nomatch q)
theorem BX(a:Str)(b:Int):decide ((Q5 a:Key)=B7 b)=false:=decide_eq_false (λq=>nomatch q)
def aY(prog:Program)(w:World):PySem.KeyKind prog w Key where
  is:=xQ
  hash:=bc w
  inj:=λv a b ha hb=>by
    rcases bV ha with ⟨i,t,rfl,rfl⟩ | ⟨x,t,rfl,rfl⟩
    · rcases bV hb with ⟨j,u,rfl,e⟩ | ⟨y,u,rfl,e⟩
      · injection e with e1 _;rw[e1]
      · exact nomatch e
    · rcases bV hb with ⟨j,u,rfl,e⟩ | ⟨y,u,rfl,e⟩
      · exact nomatch e
      · injection e with e1 _;rw[e1]
  byValue:=λk v h=>by
    rcases bV h with ⟨i,t,rfl,rfl⟩ | ⟨x,t,rfl,rfl⟩<;>rfl
  pyHash:=λhv h=>by
    rcases bV hv with ⟨i,t,rfl,rfl⟩ | ⟨x,t,rfl,rfl⟩
    · exact wpAny_pyHash_int h
    · exact wpAny_pyHash_str h
  eqBool:=λhu hv h=>by
    rcases bV hu with ⟨i,t,rfl,rfl⟩ | ⟨x,t,rfl,rfl⟩
    · rcases bV hv with ⟨j,u,rfl,rfl⟩ | ⟨y,u,rfl,rfl⟩
      · rw[BR]at h;exact wpAny_eqBool_int h
      · rw[BW]at h;exact SeqAt.EqAt.int_str i t y u _ _ _ _ h
    · rcases bV hv with ⟨j,u,rfl,rfl⟩ | ⟨y,u,rfl,rfl⟩
      · rw[BX]at h;exact SeqAt.EqAt.str_int x t j u _ _ _ _ h
      · rw[BV]at h;exact wpAny_eqBool_str h
  «strs»:=λk x t v h=>by
    rcases bV h with ⟨i,u,rfl,e⟩ | ⟨y,u,rfl,e⟩
    · exact nomatch e
    · injection e with e1 _
      subst e1
      cases v<;>rfl
theorem sX(prog:Program)(w:World)(i:Int)(t:Tok):(aY prog w).is (.inl i) (.int i t)=true:=Kh i t
theorem Ce(prog:Program)(w:World)(x:Str)(t:Tok):(aY prog w).is (.inr x) (.str x t)=true:=Kl x t
end L2
namespace L2
open PySem PySem.Spec PyProof.Rows
inductive V where
  | non | bl (b:Bool) | int (i:Int) | str (x:Str) | byt (b:Array UInt8) | flt (b:UInt64) | ref (a:Addr) | ty (n:String)
  deriving DecidableEq
def RelV:V→Value→Prop
 | .non,u=>u=Value.none
 | .bl b,u=>u=Value.bool b
 | .int i,u=>∃t,u=Value.int i t
 | .str x,u=>∃t,u=Value.str x t
 | .byt b,u=>∃t,u=Value.bytes b t
 | .flt b,u=>∃t,u=Value.float b t
 | .ref a,u=>u=Value.ref a
 | .ty n,u=>u=Value.type n
abbrev Vals:List V→List Value→Prop:=Paired RelV
theorem Vals.length{xs:List V}{us:List Value}(r:Vals xs us):xs.length=us.length:=Paired.length r
theorem Vals.get:∀{xs:List V} {us:List Value} {i:Nat} {x:V},Vals xs us→xs[i]?=some x→∃u,us[i]?=some u∧RelV x u
 | _,_,_,_,.nil,e=>by simp at e
 | _,_,0,_,.cons r _,e=>by simp at e;subst e;exact⟨_,rfl,r⟩
 | _,_,i+1,x,.cons _ t,e=>by
  obtain⟨u,h1,h2⟩:=Vals.get (i:=i) (x:=x) t (by simpa using e)
  exact⟨u,by simpa using h1,h2⟩
theorem Vals.append:∀{xs ys:List V} {us ws:List Value},Vals xs us→Vals ys ws→Vals (xs++ys) (us++ws)
 | _,_,_,_,.nil,s=>s
 | _,_,_,_,.cons r t,s=>.cons r (Vals.append t s)
theorem Vals.take:∀{xs:List V} {us:List Value} (n:Nat),Vals xs us→Vals (xs.take n) (us.take n)
 | _,_,0,_=>.nil
 | _,_,_+1,.nil=>.nil
 | _,_,n+1,.cons r t=>.cons r (Vals.take n t)
theorem Vals.drop:∀{xs:List V} {us:List Value} (n:Nat),Vals xs us→Vals (xs.drop n) (us.drop n)
 | _,_,0,r=>r
 | _,_,_+1,.nil=>.nil
 | _,_,n+1,.cons _ t=>Vals.drop n t
def uE:Option V→Option Value→Prop
 | some v,some u=>RelV v u
 | none,none=>True
 | _,_=>False
def KV{κ:Type}:List (κ×V)→List (κ×Value)→Prop:=Paired λ(p:κ×V) (q:κ×Value)=>p.1=q.1∧RelV p.2 q.2
def kV:Key→V
 | .inl i=>.int i
 | .inr x=>.str x
inductive HO where
  | lst (xs:List V)
  | tup (xs:List V)
  | dK (kvs:List (Key×V)) | dT (kvs:List (List Key×V))
  | set (S:Int→Bool) (n:Nat)
  | ins (C dx:Addr) (fs:List (Str×V))
  | own (x:Addr)
  | xd (fs:List (Str×V))
  | met (f x:Addr)
  | rng (lo hi:Int)
  | gW (o:Obj) (u:HO)
  | tbl (ps:Array Value)
  | ext (φ:Heap→Prop)
abbrev Hp:=Addr→Option HO
def upd(H:Hp)(a:Addr)(o:HO):Hp:=λb=>if b=a then some o else H b
theorem bB{H:Hp}{a:Addr}{o:HO}:upd H a o a=some o:=by unfold upd;rw[if_pos rfl]
theorem aR{H:Hp}{a b:Addr}{o:HO}(h:b≠a):upd H a o b=H b:=by unfold upd;rw[if_neg h]
theorem RQ{H:Hp}{a b:Addr}{o u:HO}(h:H a=some o)(h':H b=some u)(d:o≠u):a≠b:=by
 intro e;subst e;rw[h]at h';exact d (F2 h')
theorem cP{H:Hp}{a b:Addr}{o:HO}(h:H a=some o)(h':H b=none):a≠b:=by
 intro e;subst e;rw[h]at h';cases h'
section
variable(P:Program)(w:World)
def cX(H:Hp)(h:Heap)(a:Addr):HO→Prop
 | .lst xs=>xs.length≤sizeLine∧∃(its:List Value)(n:Nat),Vals xs its∧h.get? a=some {cls:=.type "list", data:=.seq its.toArray n}
 | .tup xs=>xs.length≤sizeLine∧∃its:List Value,Vals xs its∧IsTup h a its.toArray
 | .dK kvs=>kvs.length≤sizeLine∧(a==sysModules)=false∧∃vs,KV kvs vs∧h.DictOf (aY P w) a vs
 | .dT kvs=>kvs.length≤sizeLine∧(a==sysModules)=false∧∃xs:List (List Key×Addr×Value),
   Paired (λ(p:List Key×V) (q:List Key×Addr×Value)=>p.1=q.1∧H q.2.1=some (.tup (p.1.map kV))∧RelV p.2 q.2.2) kvs xs ∧
   ∃o es ep,h.get? a=some o∧o.ExactDict∧o.data=.dict es ep∧es.toList=xs.map (entryOfKey (tupleKind (aY P w)))∧(xs.map (·.1)).Nodup
 | .set S n=>h.SetOf (intKind P w) a S n
 | .ins C dx fs=>H dx=some (.own a)∧fs.length≤1000∧dx≠a∧h.get? a=some (V9 C dx) ∧
   ∃mA,h.Ns1 dx mA∧(∀f,uE (fs.lookup f) (mA f))∧PySem.Within mA (fs.map (·.1))
 | .own _=>∃o,h.get? a=some o
 | .xd fs=>∃mA,h.Ns1 a mA∧∀f,uE (fs.lookup f) (mA f)
 | .rng lo hi=>∃t u v,h.get? a=some {cls:=.type "range", data:=.fields #[.int lo t,.int hi u,.int 1 v]}
 | .gW o u=>h.get? a=some o∧cX H h a u
 | .tbl ps=>h.get? a=some {cls:=.none,data:=.fields ps}
 | .met f x=>h.get? a=some (Q1 (.ref f) (.ref x))
 | .ext φ=>φ h∧(∃o,h.get? a=some o)∧∀h1 h2:Heap,φ h1→(∀o,h1.get? a=some o→h2.get? a=some o)→φ h2
def kZ(H:Hp)(h:Heap):Prop:=∀a o,H a=some o→cX P w H h a o
end
section
variable{P:Program}{w:World}{H H':Hp}{h h':Heap}{a:Addr}{o:HO}
theorem cX.lt(x:cX P w H h a o):a<h.objs.size:=by
 cases o with
 | lst xs=>obtain⟨_,_,_,_,e⟩:=x;exact Heap.lt_size e
 | tup xs=>obtain⟨_,_,_,p⟩:=x;exact p.lt
 | dK kvs=>obtain⟨_,_,_,_,o,_,_,e,_⟩:=x;exact Heap.lt_size e
 | dT kvs=>obtain⟨_,_,_,_,o,_,_,e,_⟩:=x;exact Heap.lt_size e
 | set S n=>obtain⟨o,_,_,_,e,_⟩:=x;exact Heap.lt_size e
 | ins C dx fs=>obtain⟨_,_,_,e,_⟩:=x;exact Heap.lt_size e
 | own y=>obtain⟨_,e⟩:=x;exact Heap.lt_size e
 | xd fs=>obtain⟨_,⟨_,_,_,e,_⟩,_⟩:=x;exact Heap.lt_size e
 | rng lo hi=>obtain⟨_,_,_,e⟩:=x;exact Heap.lt_size e
 | gW ob u=>obtain⟨e,_⟩:=x;exact Heap.lt_size e
 | tbl ps=>exact Heap.lt_size (show h.get? a=some _ from x)
 | met f y=>exact Heap.lt_size (show h.get? a=some _ from x)
 | ext φ=>obtain⟨_,⟨_,e⟩,_⟩:=x;exact Heap.lt_size e
theorem Paired.BZ{α β:Type}{F G:α→β→Prop}:∀{l₁:List α} {l₂:List β},Paired F l₁ l₂→(∀a b,F a b→G a b)→Paired G l₁ l₂
 | _,_,.nil,_=>.nil
 | _,_,.cons r t,f=>.cons (f _ _ r) (Paired.BZ t f)
theorem cX.stay(x:cX P w H h a o)(k:∀b u,(b=a∨H b=some (.own a))→h.get? b=some u→h'.get? b=some u)
  (ho:∀b,H b=some (.own a)→H' b=some (.own a)) (ht:∀b xs,H b=some (.tup xs)→H' b=some (.tup xs)):cX P w H' h' a o:=by
 induction o with
 | lst xs=>obtain⟨z,its,n,r,e⟩:=x;exact⟨z,its,n,r,k _ _ (.inl rfl) e⟩
 | tup xs=>obtain⟨z,its,r,ob,e,c⟩:=x;exact⟨z,its,r,ob,k _ _ (.inl rfl) e,c⟩
 | dK kvs=>obtain⟨z,y,vs,r,ob,es,ep,e,c⟩:=x;exact⟨z,y,vs,r,ob,es,ep,k _ _ (.inl rfl) e,c⟩
 | dT kvs=>
  obtain⟨z,y,xs,r,ob,es,ep,e,c⟩:=x
  exact⟨z,y,xs,Paired.BZ r λp q z=>⟨z.1,ht _ _ z.2.1,z.2.2⟩,ob,es,ep,k _ _ (.inl rfl) e,c⟩
 | set S n=>obtain⟨ob,es,ep,t,e,c⟩:=x;exact⟨ob,es,ep,t,k _ _ (.inl rfl) e,c⟩
 | ins C dx fs=>
  obtain⟨d,z,ne,e,mA,⟨od,es,ep,e2,c⟩,r⟩:=x
  exact⟨ho _ d,z,ne,k _ _ (.inl rfl) e,mA,⟨od,es,ep,k _ _ (.inr d) e2,c⟩,r⟩
 | own y=>obtain⟨ob,e⟩:=x;exact⟨ob,k _ _ (.inl rfl) e⟩
 | xd fs=>obtain⟨mA,⟨od,es,ep,e,c⟩,r⟩:=x;exact⟨mA,⟨od,es,ep,k _ _ (.inl rfl) e,c⟩,r⟩
 | rng lo hi=>obtain⟨t,u,v,e⟩:=x;exact⟨t,u,v,k _ _ (.inl rfl) e⟩
 | gW ob u ih=>obtain⟨e,q⟩:=x;exact⟨k _ _ (.inl rfl) e,ih q⟩
 | tbl ps=>
  have e:h.get? a=some {cls:=.none,data:=.fields ps}:=x
  show h'.get? a=some {cls:=.none,data:=.fields ps}
  exact k a _ (.inl rfl) e
 | met f y=>
  have e:h.get? a=some (Q1 (.ref f) (.ref y)):=x
  show h'.get? a=some (Q1 (.ref f) (.ref y))
  exact k a _ (.inl rfl) e
 | ext φ=>obtain⟨p,⟨o,e⟩,st⟩:=x;exact⟨st _ _ p λo q=>k _ _ (.inl rfl) q,⟨o,k _ _ (.inl rfl) e⟩,st⟩
theorem kZ.lt(x:kZ P w H h)(e:H a=some o):a<h.objs.size:=(x a o e).lt
theorem kZ.fresh(x:kZ P w H h)(e:h.objs.size≤a):H a=none:=by
 cases q:H a with
 | none=>rfl
 | some u=>exact absurd (C3 (x.lt q) e) (G1 _)
theorem kZ.kept(x:kZ P w H h)(k:∀b u,h.get? b=some u→h'.get? b=some u):kZ P w H h':=λa o e=>
 (x a o e).stay (λb u _ q=>k b u q) (λ_ q=>q) λ_ _ q=>q
theorem kZ.laid(x:kZ P w H h)(k:∀b u,h.get? b=some u→h'.get? b=some u)(hp:h.objs.size≤a)(new:cX P w (upd H a o) h' a o):kZ P w (upd H a o) h':=λb u e=>by
 have hn:=x.fresh hp
 by_cases hb:b=a
 ·subst hb;rw[bB]at e;cases e;exact new
 ·rw[aR hb]at e
  exact(x b u e).stay (λc v _ q=>k c v q) (λc q=>by rw[aR (cP q hn)];exact q) λc xs q=>by rw[aR (cP q hn)];exact q
end
def Rd(H:Hp)(a:Addr)(u:HO):Prop:=H a=some u∨∃o,H a=some (.gW o u)
theorem Rd.of{H:Hp}{a:Addr}{u:HO}(h:H a=some u):Rd H a u:=.inl h
theorem Rd.ok{P:Program}{w:World}{H:Hp}{h:Heap}{a:Addr}{u:HO}(r:Rd H a u)(x:kZ P w H h):cX P w H h a u:=by
 rcases r with r | ⟨o,r⟩
 ·exact x a u r
 ·obtain⟨_,q⟩:=x a _ r
  exact q
def RC:Option HO→Prop
 | some (.lst _)=>True
 | some (.dK _)=>True
 | some (.dT _)=>True
 | some (.set _ _)=>True
 | some (.ins _ _ _)=>True
 | some (.ext _)=>True
 | _=>False
section
variable{P:Program}{w:World}{H:Hp}{h h':Heap}{x e:Addr}{o':HO}
theorem kZ.write(ok:kZ P w H h)(mu:RC (H x))(he:e=x∨H e=some (.own x))(k:∀b u,b≠e→h.get? b=some u→h'.get? b=some u)(heo:∃u,h'.get? e=some u)
  (new:cX P w (upd H x o') h' x o'):kZ P w (upd H x o') h':=λb u q=>by
 have Nh:∀c y,H c=some (.own y)→c≠x:=λc y r z=>by subst z;rw[r]at mu;exact mu
 have Vb:∀c xs,H c=some (.tup xs)→c≠x:=λc xs r z=>by subst z;rw[r]at mu;exact mu
 by_cases hb:b=x
 ·subst hb;rw[bB]at q;cases q;exact new
 ·rw[aR hb]at q
  by_cases hbe:b=e
  ·have q':H b=some (.own x):=by
    rcases he with z | z
    ·exact absurd (hbe.trans z) hb
    ·rw[hbe];exact z
   rw[q]at q';cases q'
   obtain⟨v,hv⟩:=heo
   exact⟨v,by rw[hbe];exact hv⟩
  ·refine(ok b u q).stay (λc v hc r=>k c v ?_ r) (λc r=>by rw[aR (Nh c b r)];exact r) λc xs r=>by rw[aR (Vb c xs r)];exact r
   rcases hc with rfl | hc
   ·exact hbe
   ·rintro rfl
    rcases he with z | z
    ·exact Nh c b hc z
    ·rw[hc]at z;cases z;exact hb rfl
end
structure Un(fs ex:List Addr)(H H':Hp)(h h':Heap):Prop where
 keep:∀b o,h.get? b=some o→H b=none→b∉fs→b∉ex→h'.get? b=some o
 slot:∀b o,h.get? b=some o→H b=none→b∈fs→b∉ex→∃sl,h'.get? b=some {o with slots:=sl}
 free:∀b o,h.get? b=some o→H b=none→b∉ex→H' b=none
 there:∀b o,h.get? b=some o→b∉ex→∃o',h'.get? b=some o'
 tups:∀b xs,H b=some (.tup xs)→H' b=some (.tup xs)
 qR:∀b o u,H b=some (.gW o u)→H' b=some (.gW o u)
 tL:∀b ps,H b=some (.tbl ps)→∃more,H' b=some (.tbl (ps++more))
section
variable{fs fs' ex ex':List Addr}{H H1 H2:Hp}{h h1 h2 h':Heap}{a x e:Addr}{o:HO}
theorem Un.any(u:Un fs ex H H1 h h1){b:Addr}{ob:Obj}(q:h.get? b=some ob)(n:H b=none)(hx:b∉ex):∃sl,h1.get? b=some {ob with slots:=sl}:=by
 by_cases hb:b∈fs
 ·exact u.slot b ob q n hb hx
 ·exact⟨ob.slots,u.keep b ob q n hb hx⟩
theorem Un.kept(k:∀b u,h.get? b=some u→h'.get? b=some u):Un fs ex H H h h':=
 ⟨λb ob q _ _ _=>k b ob q,λb ob q _ _ _=>⟨ob.slots,k b ob q⟩,λ_ _ _ n _=>n,λb ob q _=>⟨ob,k b ob q⟩,λ_ _ q=>q,λ_ _ _ q=>q,λ_ ps q=>⟨#[],by rw[q];simp⟩⟩
theorem Un.refl:Un fs ex H H h h:=Un.kept λ_ _ q=>q
theorem Un.laid(k:∀b u,h.get? b=some u→h'.get? b=some u)(hp:h.objs.size≤a)(hn:H a=none):Un fs ex H (upd H a o) h h' where
 keep:=λb u q _ _ _=>k b u q
 slot:=λb u q _ _ _=>⟨u.slots,k b u q⟩
 free:=λb u q n _=>by rw[aR (C4 (C3 (Heap.lt_size q) hp))];exact n
 there:=λb u q _=>⟨u,k b u q⟩
 tups:=λb xs q=>by rw[aR (cP q hn)];exact q
 qR:=λb u xs q=>by rw[aR (cP q hn)];exact q
 tL:=λb ps q=>⟨#[],by rw[aR (cP q hn),q];simp⟩
theorem Un.write(mu:RC (H x))(he:e=x∨H e=some (.own x))(k:∀b u,b≠e→h.get? b=some u→h'.get? b=some u)(heo:∃u,h'.get? e=some u):Un fs ex H (upd H x o) h h':=by
 have hx:∀b,H b=none→b≠x:=λb n z=>by subst z;rw[n]at mu;exact mu
 have hb:∀b,H b=none→b≠e:=λb n z=>by
  subst z
  rcases he with r | r
  ·exact hx b n r
  ·rw[n]at r;cases r
 have hm:∀b u,H b=some u→¬RC (some u)→b≠x:=λb u q nm z=>by subst z;rw[q]at mu;exact nm mu
 refine⟨λb u q n _ _=>k b u (hb b n) q,λb u q n _ _=>⟨u.slots,k b u (hb b n) q⟩,λb u q n _=>by rw[aR (hx b n)];exact n,λb u q _=>?_,
  λb xs q=>by rw[aR (hm b _ q λz=>z)];exact q,λb u xs q=>by rw[aR (hm b _ q λz=>z)];exact q,λb ps q=>⟨#[],by rw[aR (hm b _ q λz=>z),q];simp⟩⟩
 by_cases hbe:b=e
 ·subst hbe;exact heo
 ·exact⟨u,k b u hbe q⟩
end
def ZD(h:Heap)(H:Hp):List Addr:=(D7 h.objs.size).filter λa=>(H a).isSome
def zB(h:Heap)(H:Hp):Heap:=W0 h (ZD h H)
theorem Km(h:Heap)(H:Hp):(zB h H).objs.size=h.objs.size:=PySem.W.hideAll_size _ _
theorem Ni{h:Heap}{H:Hp}{b:Addr}{o:Obj}(e:h.get? b=some o)(n:H b=none):(zB h H).get? b=some o:=
 T3 _ e λhm=>by
  have q:(H b).isSome=true:=(R4.mp hm).2
  rw[n]at q;simp at q
theorem Vc{h:Heap}{H:Hp}{b:Addr}{o:Obj}(e:(zB h H).get? b=some o):h.get? b=some o∧H b=none:=by
 have e':h.get? b=some o:=T9 (ZD h H) e
 refine⟨e',?_⟩
 cases q:H b with
 | none=>rfl
 | some x=>
  have hm:b∈ZD h H:=R4.mpr ⟨K5.mpr (Heap.lt_size e'),by simp[q]⟩
  have z:(zB h H).get? b=none:=S8 (ZD h H) hm
  rw[z]at e;cases e
def Vd(g h:Heap)(L:Addr):List (Addr×Obj):=(D7 h.objs.size).filterMap λa=>if a=L∨(g.get? a).isSome=true then none else(h.get? a).map λo=>(a,o)
def rest(g h:Heap)(L d:Addr):List (Addr×Obj):=(Vd g h L).filter λp=>decide (p.1≠d)
end L2
namespace L2
open PySem PySem.Spec PyProof.Rows
structure Mod(K:aA)(mg:Str→Option Value)(base:Heap):Prop where
 RT:K.In base
 glob:base.Ns mainGlobals mg
 blt:∃mb,base.Ns builtinsNs mb∧∀x:Str,x ≠ "__name__" → mb x=bootBuiltins x
 nolimit:base.NoLimit
structure Cx where
 prog:Program
 w:World
 K:aA
 mg:Str→Option Value
 base:Heap
 A:Around
 N:List Str
 s₀:Shared
 H₀:Hp
 env:Env
 outer:List Env
 stack:List Env
 ex:List Addr
 fn:Str→Bool
 calm:Bool
 pn:List (Addr×Obj)
 xe:Value→Shared→Prop
def frs(l:List Env):List Addr:=l.filterMap (·.frame)
abbrev Cx.fs(X:Cx):List Addr:=frs X.outer
def ZF(sc:Scope)(x:Str):Prop:=sc.names.lookup x=some .local∨sc.names.lookup x=some .cell∨sc.names.lookup x=some .free
def Loc(sc:Scope)(x:Str):Prop:=sc.names.lookup x=some .local∨sc.names.lookup x=some .cell
def Look(env:Env)(h:Heap)(m:Str→Option Value)(x:Str)(u:Value):Prop:=
 (env.kindOf x=some .local∧m x=some u)∨((env.kindOf x=some .cell∨env.kindOf x=some .free)∧∃c,env.cells.lookup x=some c∧h.IsCell c (some u))
structure Cx.Ok(X:Cx):Prop where
 mod:Mod X.K X.mg X.base
 kind:X.env.scope.kind=.function
 glob:X.env.globals=mainGlobals
 blt:X.env.builtins=builtinsNs
 above:X.s₀.heap.objs.size≤X.env.locals
 inj:∀x y c,X.env.cells.lookup x=some c→X.env.cells.lookup y=some c→x=y
 has:∀x,(X.env.kindOf x=some .cell∨X.env.kindOf x=some .free)→∃c,X.env.cells.lookup x=some c
 cab:∀x c,X.fn x=true→X.env.cells.lookup x=some c→X.s₀.heap.objs.size≤c
 hd:X.calm=true→X.A.handled=none
 frames:X.A.frames=some X.stack
 Yx:X.stack=X.outer∨(X.stack=X.env::X.outer∧X.env.frame=some X.env.locals)
 RD:∀b∈X.ex,b≠X.env.locals∧∀x c,X.env.cells.lookup x=some c→c≠b
 bs:∀b o,X.base.get? b=some o→X.s₀.heap.get? b=some o∧X.H₀ b=none
 Mx:X.base.objs.size≤X.s₀.heap.objs.size
 zF:∀b o,X.base.get? b=some o→b∉X.ex
 Cg:∀b∈X.ex,b∉X.fs
 nM:X.s₀.heap.FunFrames X.base X.outer
 Uu:∀b∈X.fs,X.H₀ b=none
structure Inv(X:Cx)(pins:List (Addr×Obj))(σ:List (Option V))(H:Hp)(s:Shared):Prop where
 ok:X.Ok
 os:s.os=X.s₀.os
 bare:AllBare s.gens
 base:Un X.fs X.ex X.H₀ H X.s₀.heap s.heap
 loc:∃m,s.heap.Ns X.env.locals m∧∀(i:Nat)(x:Str)(v:V),X.N[i]?=some x→σ[i]?=some (some v)→ZF X.env.scope x→∃u,RelV v u∧Look X.env s.heap m x u
 cell:∀x c,X.env.cells.lookup x=some c→∃v,s.heap.IsCell c v
 free:H X.env.locals=none
 gC:∀x c,X.env.cells.lookup x=some c→H c=none
 pin:∀p∈X.pn++pins,s.heap.get? p.1=some p.2∧H p.1=none∧p.1≠X.env.locals∧p.1∉X.fs∧∀v,p.2.data≠.cell v
 hok:kZ X.prog X.w H s.heap
 len:σ.length=X.N.length
section
variable{X:Cx}{pins:List (Addr×Obj)}{σ:List (Option V)}{H H':Hp}{s:Shared}{h':Heap}
theorem Cx.Ok.bf(ok:X.Ok){b:Addr}{o:Obj}(e:X.base.get? b=some o):b∉X.fs:=λhb=>by
 have:=(ok.nM.mem hb).1
 rw[e]at this;cases this
theorem Inv.bs(I:Inv X pins σ H s):∀b o,X.base.get? b=some o→s.heap.get? b=some o∧H b=none:=λb o e=>
 ⟨I.base.keep b o (I.ok.bs b o e).1 (I.ok.bs b o e).2 (I.ok.bf e) (I.ok.zF b o e),I.base.free b o (I.ok.bs b o e).1 (I.ok.bs b o e).2 (I.ok.zF b o e)⟩
theorem Inv.bk(I:Inv X pins σ H s):∀b o,X.base.get? b=some o→s.heap.get? b=some o:=λb o e=>(I.bs b o e).1
theorem Inv.mod(I:Inv X pins σ H s):Mod X.K X.mg X.base:=I.ok.mod
theorem Inv.Fe(I:Inv X pins σ H s):X.K.In s.heap:=I.ok.mod.RT.keeps I.bk
theorem Inv.lt(I:Inv X pins σ H s):X.env.locals<s.heap.objs.size:=let ⟨_,hn,_⟩:=I.loc;hn.lt
theorem Inv.sz(I:Inv X pins σ H s):X.s₀.heap.objs.size≤s.heap.objs.size:=F8 I.ok.above (L7 I.lt)
theorem Inv.bh(I:Inv X pins σ H s){a:Addr}(h:s.heap.objs.size≤a):a∉X.fs:=λhb=>by
 obtain⟨_,o,ho,_⟩:=I.ok.nM.mem hb
 exact absurd (C3 (Heap.lt_size ho) (F8 I.sz h)) (G1 _)
theorem Inv.Nj(I:Inv X pins σ H s):∀x c,X.env.cells.lookup x=some c→c≠X.env.locals:=λx c e z=>by
 obtain⟨v,o,ho,hd⟩:=I.cell x c e
 obtain⟨m,⟨o',es,ep,ho',hd',_⟩,_⟩:=I.loc
 rw[z,ho']at ho;cases ho;rw[hd']at hd;cases hd
theorem Inv.nM(I:Inv X pins σ H s):s.heap.FunFrames X.base X.outer:=by
 have all:∀(l:List Env),(∀b∈frs l,b∈X.fs)→X.s₀.heap.FunFrames X.base l→s.heap.FunFrames X.base l:=by
  intro l
  induction l with
  | nil=>intro _ _;trivial
  | cons env r ih=>
   intro hs hl
   obtain⟨hk,⟨L,o,hf,hn,ho,hd⟩,hr⟩:=hl
   have hL:L∈X.fs:=hs L (by unfold frs;rw[J8,hf];exact D4)
   obtain⟨sl,e⟩:=I.base.slot L o ho (I.ok.Uu L hL) hL λz=>I.ok.Cg L z hL
   exact⟨hk,⟨L,_,hf,hn,e,hd⟩,ih (λb hb=>hs b (by unfold frs;rw[J8,hf];exact C9 _ hb)) hr⟩
 exact all X.outer (λ_ hb=>hb) I.ok.nM
theorem Inv.stack(I:Inv X pins σ H s):s.heap.FunFrames X.base X.stack:=by
 rcases I.ok.Yx with e | ⟨e,hf⟩
 ·rw[e];exact I.nM
 ·rw[e]
  obtain⟨m,hn,_⟩:=I.loc
  refine .cons (by rw[I.ok.kind];decide) hf hn ?_ I.nM
  exact Heap.get?_none_of_le (F8 I.ok.Mx I.ok.above)
theorem Inv.zG(I:Inv X pins σ H s):∀b∈frs X.stack,b∈X.env.locals::X.fs:=λb hb=>by
 rcases I.ok.Yx with e | ⟨e,hf⟩
 ·rw[e]at hb;exact C9 _ hb
 ·rw[e]at hb
  unfold frs at hb
  rw[J8,hf]at hb
  exact hb
theorem Inv.zH(I:Inv X pins σ H s):∀b∈frs X.stack,H b=none:=λb hb=>by
 rcases D6.mp (I.zG b hb)with e | hb
 ·rw[e];exact I.free
 ·obtain⟨_,o,ho,_⟩:=I.ok.nM.mem hb
  exact I.base.free b o ho (I.ok.Uu b hb) λz=>I.ok.Cg b z hb
theorem Inv.step{g':Array GenState}{t':Nat}{d':Drawn}{ch:List Addr}(I:Inv X pins σ H s)
  (hch:∀b∈ch,(b∈X.ex∨X.s₀.heap.objs.size≤b)∧b≠X.env.locals∧(∀x c,X.env.cells.lookup x=some c→c≠b)∧∀p∈X.pn++pins,p.1≠b)
  (keep:∀b o,b≠X.env.locals→b∉X.fs→b∉ch→s.heap.get? b=some o→H b=none→h'.get? b=some o)
  (slot:∀b o,b≠X.env.locals→b∈X.fs→b∉ch→s.heap.get? b=some o→H b=none→∃sl,h'.get? b=some {o with slots:=sl}) (free:∀b o,b∉ch→s.heap.get? b=some o→H b=none→H' b=none)
  (there:∀b o,b∉ch→s.heap.get? b=some o→∃o',h'.get? b=some o')
  (tups:∀b xs,H b=some (.tup xs)→H' b=some (.tup xs)) (qR:∀b o u,H b=some (.gW o u)→H' b=some (.gW o u)) (tL:∀b ps,H b=some (.tbl ps)→∃more,H' b=some (.tbl (ps++more)))
  (ns:∀m,s.heap.Ns X.env.locals m→h'.Ns X.env.locals m) (hok:kZ X.prog X.w H' h') (hg:AllBare g') :
  Inv X pins σ H' {s with heap:=h',gens:=g',drawn:=d',toks:=t'}:=by
 have ZG:∀b o,X.s₀.heap.get? b=some o→b≠X.env.locals:=λb o e=>C4 (C3 (Heap.lt_size e) I.ok.above)
 have RG:∀b o,X.s₀.heap.get? b=some o→b∉X.ex→b∉ch:=λb o e hx hb=>by
  rcases(hch b hb).1 with z | z
  ·exact hx z
  ·exact absurd (C3 (Heap.lt_size e) z) (G1 _)
 have cellK:∀x c,X.env.cells.lookup x=some c→∀v,s.heap.IsCell c v→h'.IsCell c v:=λx c e v ⟨o,ho,hd⟩=>by
  have RV:c∉ch:=λz=>(hch c z).2.2.1 x c e rfl
  by_cases hc:c∈X.fs
  ·obtain⟨sl,q⟩:=slot c o (I.Nj x c e) hc RV ho (I.gC x c e)
   exact⟨_,q,hd⟩
  ·exact⟨o,keep c o (I.Nj x c e) hc RV ho (I.gC x c e),hd⟩
 refine⟨I.ok,I.os,hg,⟨λb o e n hb hx=>?_,λb o e n hb hx=>?_,λb o e n hx=>?_,λb o e hx=>?_,λb xs e=>tups b xs (I.base.tups b xs e),λb o xs e=>qR b o xs (I.base.qR b o xs e),λb ps e=>?_⟩,?_,λx c e=>?_,?_,λx c e=>?_,λp hp=>?_,hok,I.len⟩
 ·exact keep b o (ZG b o e) hb (RG b o e hx) (I.base.keep b o e n hb hx) (I.base.free b o e n hx)
 ·obtain⟨sl,e1⟩:=I.base.slot b o e n hb hx
  obtain⟨sl',e2⟩:=slot b _ (ZG b o e) hb (RG b o e hx) e1 (I.base.free b o e n hx)
  exact⟨sl',e2⟩
 ·obtain⟨o',e1⟩:=I.base.there b o e hx
  exact free b o' (RG b o e hx) e1 (I.base.free b o e n hx)
 ·obtain⟨o',e1⟩:=I.base.there b o e hx
  exact there b o' (RG b o e hx) e1
 ·obtain⟨m1,e1⟩:=I.base.tL b ps e
  obtain⟨m2,e2⟩:=tL b _ e1
  exact⟨m1++m2,by rw[e2,Array.append_assoc]⟩
 ·obtain⟨m,hn,hl⟩:=I.loc
  refine⟨m,ns m hn,λi x v e1 e2 e3=>?_⟩
  obtain⟨u,r,l⟩:=hl i x v e1 e2 e3
  refine⟨u,r,?_⟩
  rcases l with l | ⟨k,c,e,z⟩
  ·exact .inl l
  ·exact .inr ⟨k,c,e,cellK x c e _ z⟩
 ·obtain⟨v,z⟩:=I.cell x c e
  exact⟨v,cellK x c e v z⟩
 ·obtain⟨m,⟨o,_,_,ho,_⟩,_⟩:=I.loc
  exact free _ o (λz=>(hch _ z).2.1 rfl) ho I.free
 ·obtain⟨v,o,ho,hd⟩:=I.cell x c e
  exact free c o (λz=>(hch c z).2.2.1 x c e rfl) ho (I.gC x c e)
 ·obtain⟨e,n,ne,nf,d⟩:=I.pin p hp
  have RV:p.1∉ch:=λz=>(hch p.1 z).2.2.2 p hp rfl
  exact⟨keep p.1 p.2 ne nf RV e n,free p.1 p.2 RV e n,ne,nf,d⟩
theorem Inv.un{t':Nat}(I:Inv X pins σ H s)(u:Un X.fs [] H H' s.heap h')(hok:kZ X.prog X.w H' h'):Inv X pins σ H' {s with heap:=h',toks:=t'}:=by
 obtain⟨m,⟨o,es,ep,ho,r⟩,_⟩:=id I.loc
 obtain⟨sl,hL⟩:=u.any ho I.free (by simp)
 exact I.step (g':=s.gens) (d':=s.drawn) (ch:=[]) (λ_ z=>nomatch z) (λb o _ hb _ e n=>u.keep b o e n hb (by simp)) (λb o _ hb _ e n=>u.slot b o e n hb (by simp)) (λb o _ e n=>u.free b o e n (by simp)) (λb o _ e=>u.there b o e (by simp)) u.tups u.qR u.tL (λm' hm=>by
  obtain⟨o',es',ep',ho',r'⟩:=hm
  rw[ho]at ho';cases ho'
  exact⟨_,es',ep',hL,r'⟩) hok I.bare
theorem Inv.call{g':Array GenState}{t':Nat}{d':Drawn}{ch:List Addr}(I:Inv X pins σ H s)(u:Un (frs X.stack) ch H H' s.heap h')(hok:kZ X.prog X.w H' h')(hg:AllBare g')
  (hch:∀b∈ch,(b∈X.ex∨X.s₀.heap.objs.size≤b)∧b≠X.env.locals∧(∀x c,X.env.cells.lookup x=some c→c≠b)∧∀p∈X.pn++pins,p.1≠b) :
  Inv X pins σ H' {s with heap:=h',gens:=g',drawn:=d',toks:=t'}:=by
 obtain⟨m,⟨o,es,ep,ho,r⟩,_⟩:=id I.loc
 obtain⟨sl,hL⟩:=u.any ho I.free λz=>(hch _ z).2.1 rfl
 exact I.step (ch:=ch) hch (λb o hL hb hc e n=>u.keep b o e n (λz=>(D6.mp (I.zG b z)).elim hL hb) hc) (λb o _ _ hc e n=>u.any e n hc) (λb o hc e n=>u.free b o e n hc) (λb o hc e=>u.there b o e hc) u.tups u.qR u.tL (λm' hm=>by
  obtain⟨o',es',ep',ho',r'⟩:=hm
  rw[ho]at ho';cases ho'
  exact⟨_,es',ep',hL,r'⟩) hok hg
theorem Inv.turned{t':Nat}{it:Addr}(I:Inv X pins σ H s)(k:∀b o,b≠it→s.heap.get? b=some o→h'.get? b=some o)(hn:H it=none)(hL:it≠X.env.locals)
  (h1:it∈X.ex∨X.s₀.heap.objs.size≤it) (h2:∀x c,X.env.cells.lookup x=some c→c≠it) (h3:∀p∈X.pn++pins,p.1≠it):Inv X pins σ H {s with heap:=h',toks:=t'}:=by
 have ji:∀b u,H b=some u→b≠it:=λb u e z=>by rw[z,hn]at e;cases e
 refine I.step (g':=s.gens) (d':=s.drawn) (ch:=[it]) (λb hb=>?_) (λb o _ _ hc e _=>k b o (λz=>hc (by simp[z])) e) (λb o _ _ hc e _=>⟨o.slots,k b o (λz=>hc (by simp[z])) e⟩) (λ_ _ _ _ n=>n)
  (λb o hc e=>⟨o,k b o (λz=>hc (by simp[z])) e⟩) (λ_ _ e=>e) (λ_ _ _ e=>e) (λb ps e=>⟨#[],by rw[e];simp⟩) (λm hm=>?_) (λb u e=>?_) I.bare
 ·have e:b=it:=by simpa using hb
  subst e
  exact⟨h1,hL,h2,h3⟩
 ·obtain⟨o,es,ep,ho,r⟩:=hm
  exact⟨o,es,ep,k _ o (Ne.symm hL) ho,r⟩
 ·refine(I.hok b u e).stay (λc v hc q=>k c v ?_ q) (λ_ q=>q) λ_ _ q=>q
  rcases hc with z | z
  ·rw[z];exact ji b u e
  ·exact ji c _ z
theorem Inv.tok(I:Inv X pins σ H s)(t:Nat):Inv X pins σ H {s with toks:=t}:=I.un (h':=s.heap) (t':=t) Un.refl I.hok
theorem Inv.kept{t':Nat}(I:Inv X pins σ H s)(k:∀b u,s.heap.get? b=some u→h'.get? b=some u):Inv X pins σ H {s with heap:=h',toks:=t'}:=I.un (Un.kept k) (I.hok.kept k)
theorem Inv.laid{a:Addr}{o:HO}{t':Nat}(I:Inv X pins σ H s)(k:∀b u,s.heap.get? b=some u→h'.get? b=some u)(hp:s.heap.objs.size≤a)(new:cX X.prog X.w (upd H a o) h' a o) :
  Inv X pins σ (upd H a o) {s with heap:=h',toks:=t'}:=I.un (Un.laid k hp (I.hok.fresh hp)) (I.hok.laid k hp new)
theorem Inv.write{x e:Addr}{o:HO}{t':Nat}(I:Inv X pins σ H s)(mu:RC (H x))(he:e=x∨H e=some (.own x))(k:∀b u,b≠e→s.heap.get? b=some u→h'.get? b=some u)(heo:∃u,h'.get? e=some u)
  (new:cX X.prog X.w (upd H x o) h' x o):Inv X pins σ (upd H x o) {s with heap:=h',toks:=t'}:=I.un (Un.write mu he k heo) (I.hok.write mu he k heo new)
theorem Inv.weak{σ':List (Option V)}(I:Inv X pins σ H s)(hl:σ'.length=σ.length)(w:∀(i:Nat) v,σ'[i]?=some (some v)→σ[i]?=some (some v)):Inv X pins σ' H s:=
 ⟨I.ok,I.os,I.bare,I.base,let ⟨m,hn,hl'⟩:=I.loc;⟨m,hn,λi x v e1 e2 e3=>hl' i x v e1 (w i v e2) e3⟩,I.cell,I.free,I.gC,I.pin,I.hok,hl.trans I.len⟩
theorem Inv.tX{uF:List (Addr×Obj)}(I:Inv X pins σ H s)(h:∀p∈uF,s.heap.get? p.1=some p.2∧H p.1=none∧p.1≠X.env.locals∧p.1∉X.fs∧∀v,p.2.data≠.cell v):Inv X uF σ H s:=
 ⟨I.ok,I.os,I.bare,I.base,I.loc,I.cell,I.free,I.gC,λp hp=>(K3.mp hp).elim (λz=>I.pin p (F6 _ z)) (h p),I.hok,I.len⟩
theorem uG{N:List Str}(hN:N.Nodup){i j:Nat}{x:Str}(a:N[i]?=some x)(b:N[j]?=some x):i=j:=by
 obtain⟨h1,e1⟩:=B8.mp a
 obtain⟨h2,e2⟩:=B8.mp b
 exact(List.getElem_inj hN).mp (e1.trans e2.symm)
theorem Ko{M:Model}{A:Around}{E:Value→Shared→Prop}{i:Nat}{x:Str}{v:V}{u:Value}{Q:Unit→Shared→Prop}(I:Inv X pins σ H s)(hN:X.N.Nodup)(hi:X.N[i]?=some x)(hx:Loc X.env.scope x)(r:RelV v u)
  (h:∀s',Inv X pins (σ.set i (some v)) H s'→(∃a,Heap.SameBut a s.heap s'.heap∧(a=X.env.locals∨X.env.cells.lookup x=some a))→Q () s') (hf:X.fn x=true∨X.env.scope.names.lookup x=some .local:=by first | exact .inl rfl | exact .inr rfl | assumption):wpAny M A (storeName X.env x u) Q E s:=by
 obtain⟨m,hn,hl⟩:=id I.loc
 have hcls:(X.env.scope.kind==.class||(X.env.scope.kind==.module&&X.env.locals != X.env.globals))=false:=by rw[I.ok.kind];rfl
 have ZJ:i<σ.length:=by rw[I.len];exact(B8.mp hi).1
 have Nj:=I.Nj
 have tracked:∀{a:Addr} {h':Heap},(∃o,s.heap.get? a=some o∧H a=none)→Heap.SameBut a s.heap h'→kZ X.prog X.w H h':=λ{a h'} ha hs b ob e=>by
  obtain⟨_,_,hfree⟩:=ha
  refine(I.hok b ob e).stay (λc w' hc q=>(hs.2 c ?_).trans q) (λ_ q=>q) λ_ _ q=>q
  rintro rfl
  rcases hc with rfl | hc
  ·rw[hfree]at e;cases e
  ·rw[hfree]at hc;cases hc
 rcases hx with hk | hk
 ·refine wpAny_storeName_local hk hn (λh' hn' hs=>?_) hcls
  obtain⟨oL,_,_,hoL,_⟩:=id hn
  refine h _ ⟨I.ok,I.os,I.bare,⟨λb o e n hb hx=>?_,λb o e n hb hx=>?_,I.base.free,λb o e hx=>?_,I.base.tups,I.base.qR,I.base.tL⟩,⟨_,hn',λj y v' e1 e2 e3=>?_⟩,λy c e=>?_,I.free,I.gC,λp hp=>?_,tracked ⟨oL,hoL,I.free⟩ hs,by simpa using I.len⟩ ⟨_,hs,.inl rfl⟩
  ·exact(hs.2 b (C4 (C3 (Heap.lt_size e) I.ok.above))).trans (I.base.keep b o e n hb hx)
  ·obtain⟨sl,e1⟩:=I.base.slot b o e n hb hx
   exact⟨sl,(hs.2 b (C4 (C3 (Heap.lt_size e) I.ok.above))).trans e1⟩
  ·obtain⟨o',e1⟩:=I.base.there b o e hx
   exact⟨o',(hs.2 b (C4 (C3 (Heap.lt_size e) I.ok.above))).trans e1⟩
  ·by_cases hj:j=i
   ·subst hj
    rw[hi]at e1;cases e1
    rw[M6 ZJ]at e2
    cases e2
    exact⟨u,r,.inl ⟨hk,by simp⟩⟩
   ·rw[N2 (Ne.symm hj)]at e2
    obtain⟨u',r',q⟩:=hl j y v' e1 e2 e3
    refine⟨u',r',?_⟩
    rcases q with ⟨k,e⟩ | ⟨k,c,e,z⟩
    ·refine .inl ⟨k,?_⟩
     have:y≠x:=λe=>hj (uG hN e1 (e▸hi))
     simp[this,e]
    ·exact .inr ⟨k,c,e,z.sameBut hs (Nj y c e)⟩
  ·obtain⟨w',z⟩:=I.cell y c e
   exact⟨w',z.sameBut hs (Nj y c e)⟩
  ·obtain⟨e,n,ne,nf,d⟩:=I.pin p hp
   exact⟨(hs.2 p.1 ne).trans e,n,ne,nf,d⟩
 ·have hfn:X.fn x=true:=by
   rcases hf with z | z
   ·exact z
   ·rw[z]at hk;cases hk
  obtain⟨c,hc⟩:=I.ok.has x (.inl hk)
  obtain⟨w',z⟩:=I.cell x c hc
  refine wpAny_storeName_cell I.ok.kind hk hc z (λh' hc' hs=>?_)
  obtain⟨oc,hoc,bj⟩:=id z
  refine h {s with heap:=h'} ⟨I.ok,I.os,I.bare,⟨λb o e n hb hx=>?_,λb o e n hb hx=>?_,I.base.free,λb o e hx=>?_,I.base.tups,I.base.qR,I.base.tL⟩,⟨m,hn.sameBut hs (Ne.symm (Nj x c hc)),λj y v' e1 e2 e3=>?_⟩,λy c' e=>?_,I.free,I.gC,λp hp=>?_,tracked ⟨oc,hoc,I.gC x c hc⟩ hs,by simpa using I.len⟩ ⟨c,hs,.inr hc⟩
  ·exact(hs.2 b (C4 (C3 (Heap.lt_size e) (I.ok.cab x c hfn hc)))).trans (I.base.keep b o e n hb hx)
  ·obtain⟨sl,e1⟩:=I.base.slot b o e n hb hx
   exact⟨sl,(hs.2 b (C4 (C3 (Heap.lt_size e) (I.ok.cab x c hfn hc)))).trans e1⟩
  ·obtain⟨o',e1⟩:=I.base.there b o e hx
   exact⟨o',(hs.2 b (C4 (C3 (Heap.lt_size e) (I.ok.cab x c hfn hc)))).trans e1⟩
  ·by_cases hj:j=i
   ·subst hj
    rw[hi]at e1;cases e1
    rw[M6 ZJ]at e2
    cases e2
    exact⟨u,r,.inr ⟨.inl hk,c,hc,hc'⟩⟩
   ·rw[N2 (Ne.symm hj)]at e2
    obtain⟨u',r',q⟩:=hl j y v' e1 e2 e3
    refine⟨u',r',?_⟩
    rcases q with q | ⟨k,c',e,z'⟩
    ·exact .inl q
    ·refine .inr ⟨k,c',e,z'.sameBut hs ?_⟩
     rintro rfl
     exact hj (uG hN e1 (I.ok.inj _ _ _ e hc▸hi))
  ·by_cases hcc:c'=c
   ·subst hcc;exact⟨_,hc'⟩
   ·obtain⟨w2,z2⟩:=I.cell y c' e
    exact⟨w2,z2.sameBut hs hcc⟩
  ·obtain⟨e,n,ne,nf,d⟩:=I.pin p hp
   refine⟨(hs.2 p.1 ?_).trans e,n,ne,nf,d⟩
   intro q
   rw[q,hoc]at e
   have q':oc=p.2:=F2 e
   exact d w' (by rw[←q'];exact bj)
theorem uH{M:Model}{A:Around}{E:Value→Shared→Prop}{i:Nat}{x:Str}{v:V}{u:Value}{Q:Unit→Shared→Prop}(I:Inv X pins σ H s)(hN:X.N.Nodup)(hi:X.N[i]?=some x)(hx:Loc X.env.scope x)(r:RelV v u)
  (h:∀s',Inv X pins (σ.set i (some v)) H s'→Q () s') (hf:X.fn x=true∨X.env.scope.names.lookup x=some .local:=by first | exact .inl rfl | exact .inr rfl | assumption):wpAny M A (storeName X.env x u) Q E s:=
 Ko I hN hi hx r (λs' I' _=>h s' I') hf
theorem Inv.call'{s':Shared}{ch:List Addr}(I:Inv X pins σ H s)(ho:s'.os=s.os)(u:Un (frs X.stack) ch H H' s.heap s'.heap)(hok:kZ X.prog X.w H' s'.heap)(hg:AllBare s'.gens)
  (hch:∀b∈ch,(b∈X.ex∨X.s₀.heap.objs.size≤b)∧b≠X.env.locals∧(∀x c,X.env.cells.lookup x=some c→c≠b)∧∀p∈X.pn++pins,p.1≠b):Inv X pins σ H' s':=by
 obtain⟨h',g',d',t',o'⟩:=s'
 have e:o'=s.os:=ho
 subst e
 exact I.call (g':=g') (t':=t') (d':=d') u hok hg hch
end
abbrev XK:=Value→Option Addr→Hp→Prop
abbrev St:=List (Option V)
abbrev VK:=V→Hp→Prop
abbrev TE:=St→Hp→VK→Prop
abbrev TT:=St→Hp→(Bool→Hp→Prop)→Prop
abbrev TA:=St→Hp→(List V→Hp→Prop)→Prop
structure Ends where
 nx:St→Hp→Prop
 rt:VK
 bk:St→Hp→Prop:=λ_ _=>False
 ct:St→Hp→Prop:=λ_ _=>False
abbrev TS:=Ends→St→Hp→Prop
def EP(X:Cx)(pins:List (Addr×Obj))(σ:St)(Q:VK)(u:Value)(s':Shared):Prop:=∃v H',Inv X pins σ H' s'∧RelV v u∧Q v H'
def TP(X:Cx)(pins:List (Addr×Obj))(σ:St)(Q:Bool→Hp→Prop)(b:Bool)(s':Shared):Prop:=∃H',Inv X pins σ H' s'∧Q b H'
def AP(X:Cx)(pins:List (Addr×Obj))(σ:St)(Q:List V→Hp→Prop)(us:List Value)(s':Shared):Prop:=∃vs H',Inv X pins σ H' s'∧Vals vs us∧Q vs H'
def SP(X:Cx)(pins:List (Addr×Obj))(D:Ends)(f:Flow)(s':Shared):Prop:=
 match f with
 | .next=>∃σ' H',Inv X pins σ' H' s'∧D.nx σ' H'
 | .brk=>∃σ' H',Inv X pins σ' H' s'∧D.bk σ' H'
 | .cont=>∃σ' H',Inv X pins σ' H' s'∧D.ct σ' H'
 | .ret u=>∃v σ' H',Inv X pins σ' H' s'∧RelV v u∧D.rt v H'
def PE(X:Cx)(e:Expr)(t:TE):Prop:=
 ∀(pins:List (Addr×Obj))(s:Shared)(σ:St)(H:Hp)(Q:VK),Inv X pins σ H s→t σ H Q→wpAny (model X.prog X.w) X.A (eval e X.env) (EP X pins σ Q) X.xe s
def PT(X:Cx)(e:Expr)(t:TT):Prop:=
 ∀(pins:List (Addr×Obj))(s:Shared)(σ:St)(H:Hp)(Q:Bool→Hp→Prop),Inv X pins σ H s→t σ H Q→wpAny (model X.prog X.w) X.A (isTrue e X.env (eval e X.env)) (TP X pins σ Q) X.xe s
def PW(X:Cx)(e:Expr)(t:TT):Prop:=
 ∀(whole:Sem Value)(pins:List (Addr×Obj))(s:Shared)(σ:St)(H:Hp)(Q:Bool→Hp→Prop),Inv X pins σ H s→t σ H Q→wpAny (model X.prog X.w) X.A (isTrue e X.env whole) (TP X pins σ Q) X.xe s
theorem PW.pt{X:Cx}{e:Expr}{t:TT}(h:PW X e t):PT X e t:=h _
def PA(X:Cx)(es:List Expr)(t:TA):Prop:=
 ∀(pos:Pos)(pins:List (Addr×Obj))(s:Shared)(σ:St)(H:Hp)(Q:List V→Hp→Prop),Inv X pins σ H s→t σ H Q→wpAny (model X.prog X.w) X.A (spliced (backTo pos (starEach es X.env))) (AP X pins σ Q) X.xe s
def PS(X:Cx)(st:Stmt)(t:TS):Prop:=
 ∀(pins:List (Addr×Obj))(s:Shared)(σ:St)(H:Hp)(D:Ends),Inv X pins σ H s→t D σ H→wpAny (model X.prog X.w) X.A (exec st X.env) (SP X pins D) X.xe s
def xR(X:Cx)(st:List Stmt)(t:TS):Prop:=
 ∀(pins:List (Addr×Obj))(s:Shared)(σ:St)(H:Hp)(D:Ends),Inv X pins σ H s→t D σ H→wpAny (model X.prog X.w) X.A (execs st X.env) (SP X pins D) X.xe s
theorem dF{α:Type}{t:Sem α}{Q Q':α→Shared→Prop}{M:Model}{A:Around}{E:Value→Shared→Prop}{s:Shared}(h:wpAny M A t Q E s)(hQ:∀a s,Q a s→Q' a s):wpAny M A t Q' E s:=wpAny_mono h hQ λ_ _ x=>x
end L2
namespace L2
open PySem PySem.Spec PyProof.Rows
section
variable{X:Cx}
def iW(i:Nat):TE:=λσ H Q=>∃v,σ[i]?=some (some v)∧Q v H
def tC(v:V):TE:=λ_ H Q=>Q v H
theorem CG{i:Nat}{x:Str}{pos:Pos}(hN:X.N[i]?=some x)(hv:ZF X.env.scope x)(hd:(x==("__debug__" : Str))=false:=by decide) (hcd:(x==("__classdict__" : Str))=false:=by decide):PE X (.Name x pos) (iW i):=by
  intro pins s σ H Q I h
  obtain⟨v,e,h⟩:=h
  obtain⟨m,hn,hl⟩:=I.loc
  obtain⟨u,r,l⟩:=hl i x v hN e hv
  have fin:EP X pins σ Q u s:=⟨v,H,I,r,h⟩
  rcases l with ⟨hk,hm⟩ | ⟨hk,c,hc,hcell⟩
  · exact wpAny_Name (wpAny_loadName_local I.ok.kind hk hn hm fin) hd
  · rcases hk with hk | hk
    · exact wpAny_Name (wpAny_loadName_cell I.ok.kind hk hc hcell fin) hd
    · exact wpAny_Name (wpAny_loadName_free I.ok.kind hk hc hcell fin hcd) hd
theorem CJ{i j pos}:PE X (.Constant (.int i) j pos) (tC (.int i)):=λ_ _ _ H _ I h=>wpAny_Constant_int ⟨.int i,H,I.tok _,⟨_,rfl⟩,h⟩
theorem RW{b j pos}:PE X (.Constant (.bool b) j pos) (tC (.bl b)):=λ_ _ _ H _ I h=>Constant_bool ⟨.bl b,H,I,rfl,h⟩
theorem CK{x j pos}:PE X (.Constant (.str x) j pos) (tC (.str x)):=λ_ _ _ H _ I h=>Calls.Constant_str ⟨.str x,H,I.tok _,⟨_,rfl⟩,h⟩
def Gl(X:Cx)(x:Str):Prop:=X.env.kindOf x=some .globalImplicit
theorem mV{E:Value→Shared→Prop}{pins:List (Addr×Obj)}{s:Shared}{σ:St}{H:Hp}{x:Str}{u:Value}{pos:Pos}{Q:Value→Shared→Prop}(I:Inv X pins σ H s)(hg:Gl X x)(hm:X.mg x=some u)(h:Q u s)
  (hd:(x==("__debug__" : Str))=false:=by decide):wpAny (model X.prog X.w) X.A (eval (.Name x pos) X.env) Q E s:=
 Calls.Name_function_global I.ok.kind hg (Calls.loadGlobal_global (by rw[I.ok.glob];exact I.mod.glob.keeps I.bk) hm h) hd
theorem zJ{E:Value→Shared→Prop}{pins:List (Addr×Obj)}{s:Shared}{σ:St}{H:Hp}{x:Str}{u:Value}{pos:Pos}{Q:Value→Shared→Prop}(I:Inv X pins σ H s)(hg:Gl X x)(hm:X.mg x=none)(hv:bootBuiltins x=some u)(h:Q u s)
  (hn:x ≠ "__name__" := by decide) (hd:(x==("__debug__" : Str))=false:=by decide):wpAny (model X.prog X.w) X.A (eval (.Name x pos) X.env) Q E s:=by
 obtain⟨mb,h1,h2⟩:=I.mod.blt
 exact Calls.Name_function_global I.ok.kind hg (Calls.loadGlobal_builtin (by rw[I.ok.glob];exact I.mod.glob.keeps I.bk) hm (by rw[I.ok.blt];exact h1.keeps I.bk) ((h2 x hn).trans hv) h) hd
theorem eG{x:Str}{v:V}{u:Value}{pos:Pos}(hg:Gl X x)(hm:X.mg x=some u)(r:RelV v u)(hd:(x==("__debug__" : Str))=false:=by decide):PE X (.Name x pos) (tC v):=
 λ_ _ _ H _ I h=>mV I hg hm ⟨v,H,I,r,h⟩ hd
theorem Ve{x:Str}{v:V}{u:Value}{pos:Pos}(hg:Gl X x)(hm:X.mg x=none)(hv:bootBuiltins x=some u)(r:RelV v u)(hn:x ≠ "__name__" := by decide) (hd:(x==("__debug__" : Str))=false:=by decide):PE X (.Name x pos) (tC v):=
 λ_ _ _ H _ I h=>zJ I hg hm hv ⟨v,H,I,r,h⟩ hn hd
variable{a b:Expr}{ta tb:TE}{pos:Pos}
def PC(X:Cx)(op:CmpOp)(a b:Expr)(t:TE):Prop:=
 ∀(pins:List (Addr×Obj))(s:Shared)(σ:St)(H:Hp)(Q:VK),Inv X pins σ H s→t σ H Q →
  wpAny (model X.prog X.w) X.A (eval a X.env) (λv s₁=>wpAny (model X.prog X.w) X.A (eval b X.env) (λu s₂=>wpAny (model X.prog X.w) X.A (compareOp op v u) (EP X pins σ Q) X.xe s₂) X.xe s₁) X.xe s
def tB(t:TE):TT:=λσ H Q=>t σ H λx H1=>∃c,x=.bl c∧Q c H1
theorem Nk{op:CmpOp}{t:TE}(h:PC X op a b t)(h1:behindInMarks op b=false:=by first | exact nobehind _ (by decide) (by decide) | rfl):PE X (.Compare a [op] [b] pos) t:=λpins s σ H Q I hw=>wpAny_Compare1 (h pins s σ H Q I hw) h1
theorem CN{op:CmpOp}{t:TE}(h:PC X op a b t)(h1:behindInMarks op b=false:=by first | exact nobehind _ (by decide) (by decide) | rfl):PT X (.Compare a [op] [b] pos) (tB t):=by
 intro pins s σ H Q I hw
 refine wpAny_isTrue_Compare1 (dF (h pins s σ H _ I hw) λv s1 h1=>dF h1 λu s2 h2=>dF h2 λc s3 ⟨x,H1,I1,r1,q1⟩=>?_) h1
 obtain⟨d,rfl,q⟩:=q1
 cases r1
 exact wpAny_truthy_bool ⟨H1,I1,q⟩
theorem CP{e:Expr}{t:TE}(h:PE X e t)(he:∀whole,isTrue e X.env whole=(do let v ←whole;standAt e.pos;holding [v] (truthy v)):=by intro _;rfl):PT X e (tB t):=by
 intro pins s σ H Q I hw
 refine isTrue_plain (dF (h pins s σ H _ I hw) λv s1 ⟨x,H1,I1,r1,q1⟩=>?_) (he _)
 obtain⟨d,rfl,q⟩:=q1
 cases r1
 exact wpAny_truthy_bool ⟨H1,I1,q⟩
variable{tA jj:TT}{rest:List Expr}
def CQ(t u:TT):TT:=λσ H Q=>t σ H λc H1=>if c=true then u σ H1 Q else Q false H1
def CT(t:TT):TT:=λσ H Q=>t σ H λc H1=>Q (!c) H1
theorem Vf(ha:PT X a tA):PW X (.BoolOp .And [a] pos) tA:=by
 intro wh pins s σ H Q I h
 refine isTrue_and (dF (ha pins s σ H Q I h) λc s1 e=>?_)
 cases c with
 | true=>exact isTrue_and_nil e
 | false=>exact e
theorem CV(ha:PT X a tA)(hb:PW X (.BoolOp .And (b::rest) pos) jj):PW X (.BoolOp .And (a::b::rest) pos) (CQ tA jj):=by
 intro wh pins s σ H Q I h
 refine isTrue_and (dF (ha pins s σ H _ I h) λc s1 ⟨H1,I1,q1⟩=>?_)
 cases c with
 | true=>exact hb wh pins s1 σ H1 Q I1 q1
 | false=>exact⟨H1,I1,q1⟩
theorem CW(ha:PT X a tA):PT X (.UnaryOp .Not a pos) (CT tA):=by
 intro pins s σ H Q I h
 exact isTrue_not (ha pins s σ H (λc H1=>Q (!c) H1) I h)
def Yy(ta tb:TE):TE:=λσ H Q=>ta σ H λx H1=>∃c,x=.bl c∧if c=true then tb σ H1 Q else Q (.bl false) H1
theorem CZ{op}{t:TE}(h:PE X a t):PE X (.BoolOp op [a] pos) t:=λpins s σ H Q I hw=>BoolOp_one (h pins s σ H Q I hw)
theorem DG(ha:PE X a ta)(hb:PE X (.BoolOp .And (b::rest) pos) tb):PE X (.BoolOp .And (a::b::rest) pos) (Yy ta tb):=by
 intro pins s σ H Q I h
 refine BoolOp_and (dF (ha pins s σ H _ I h) λv s1 ⟨x,H1,I1,r1,q1⟩=>?_)
 obtain⟨c,rfl,q1⟩:=q1
 cases r1
 refine wpAny_truthy_bool ?_
 cases c with
 | true=>exact hb pins s1 σ H1 Q I1 q1
 | false=>exact⟨.bl false,H1,I1,rfl,q1⟩
end
end L2
namespace L2
open PySem PySem.Spec PyProof.Rows
def iY(K:aA)(H:Hp)(a:Addr)(xs:List V):Prop:=
 Rd H a (.lst xs) ∨
  ∃(o:Obj)(its:Array Value)(n:Nat),K.lookup a=some o∧o.cls=.type "list" ∧ o.dict=none∧o.data=.seq its n∧its.size≤sizeLine∧Vals xs its.toList
def lB(K:aA)(H:Hp)(a:Addr)(xs:List V):Prop:=
 Rd H a (.tup xs) ∨
  ∃(o:Obj)(its:Array Value)(n:Nat),K.lookup a=some o∧o.cls=.type "tuple" ∧ o.data=.seq its n∧its.size≤sizeLine∧Vals xs its.toList
def bu:Value→Option V
 | .none=>some .non
 | .bool b=>some (.bl b)
 | .int i _=>some (.int i)
 | .str x _=>some (.str x)
 | .bytes b _=>some (.byt b)
 | .float b _=>some (.flt b)
 | .ref a=>some (.ref a)
 | .type n=>some (.ty n)
 | _=>none
theorem RelV.abs{x:V}{u:Value}(r:RelV x u):bu u=some x:=by
 cases x with
 | non=>cases r;rfl
 | bl _=>cases r;rfl
 | int _=>obtain⟨t,rfl⟩:=r;rfl
 | str _=>obtain⟨t,rfl⟩:=r;rfl
 | byt _=>obtain⟨t,rfl⟩:=r;rfl
 | flt _=>obtain⟨t,rfl⟩:=r;rfl
 | ref _=>cases r;rfl
 | ty _=>cases r;rfl
theorem RelV.inj{x y:V}{u:Value}(r:RelV x u)(q:RelV y u):x=y:=F2 (r.abs.symm.trans q.abs)
theorem Vals.inj:∀{xs ys:List V} {us:List Value},Vals xs us→Vals ys us→xs=ys
 | _,_,_,.nil,.nil=>rfl
 | _,_,_,.cons r t,.cons r' t'=>by rw[r.inj r',Vals.inj t t']
section
variable{X:Cx}{pins:List (Addr×Obj)}{σ:St}{H:Hp}{s:Shared}{a:Addr}{xs ys:List V}
theorem iY.of{K:aA}(h:H a=some (.lst xs)):iY K H a xs:=.inl (.inl h)
theorem lB.of{K:aA}(h:H a=some (.tup xs)):lB K H a xs:=.inl (.inl h)
theorem Inv.list(I:Inv X pins σ H s)(h:iY X.K H a xs):∃its:List Value,Vals xs its∧PlainL s.heap a its.toArray∧xs.length≤sizeLine:=by
 rcases h with h | ⟨o,its,n,hk,hc,hd,hs,hz,r⟩
 ·obtain⟨z,its,n,r,e⟩:=h.ok I.hok
  exact⟨its,r,⟨_,n,e,rfl,rfl,rfl⟩,z⟩
 ·refine⟨its.toList,r,⟨o,n,I.Fe a o hk,hc,hd,by simpa using hs⟩,?_⟩
  have e:=r.length
  simp only[N7]at e
  omega
theorem Inv.tuple(I:Inv X pins σ H s)(h:lB X.K H a xs):∃its:List Value,Vals xs its∧IsTup s.heap a its.toArray∧xs.length≤sizeLine:=by
 rcases h with h | ⟨o,its,n,hk,hc,hs,hz,r⟩
 ·obtain⟨z,its,r,p⟩:=h.ok I.hok
  exact⟨its,r,p,z⟩
 ·refine⟨its.toList,r,⟨o,I.Fe a o hk,hc,n,by simpa using hs⟩,?_⟩
  have e:=r.length
  simp only[N7]at e
  omega
theorem Inv.Ci(I:Inv X pins σ H s)(h:iY X.K H a xs)(h':iY X.K H a ys):xs=ys:=by
 obtain⟨its,r,⟨o,n,e,_,_,d⟩,_⟩:=I.list h
 obtain⟨its',r',⟨o',n',e',_,_,d'⟩,_⟩:=I.list h'
 rw[e]at e';cases e'
 rw[d]at d'
 injection d' with d1 _
 have:its=its':=by simpa using congrArg X0 d1
 subst this
 exact r.inj r'
theorem Inv.xT(I:Inv X pins σ H s)(h:lB X.K H a xs)(h':lB X.K H a ys):xs=ys:=by
 obtain⟨its,r,⟨o,e,_,n,d⟩,_⟩:=I.tuple h
 obtain⟨its',r',⟨o',e',_,n',d'⟩,_⟩:=I.tuple h'
 rw[e]at e';cases e'
 rw[d]at d'
 injection d' with d1 _
 have:its=its':=by simpa using congrArg X0 d1
 subst this
 exact r.inj r'
end
abbrev Cx.wish(X:Cx)(E:Value→Shared→Prop):Cx:={X with xe:=E}
abbrev Cx.Yz(X:Cx):Cx:=X.wish λ_ _=>False
theorem Cx.Ok.wish{X:Cx}(ok:X.Ok)(E:Value→Shared→Prop):(X.wish E).Ok:=
 ⟨ok.mod,ok.kind,ok.glob,ok.blt,ok.above,ok.inj,ok.has,ok.cab,ok.hd,ok.frames,ok.Yx,ok.RD,ok.bs,ok.Mx,ok.zF,ok.Cg,ok.nM,ok.Uu⟩
theorem Cx.Ok.lC{X:Cx}{E:Value→Shared→Prop}(ok:(X.wish E).Ok):X.Ok:=
 ⟨ok.mod,ok.kind,ok.glob,ok.blt,ok.above,ok.inj,ok.has,ok.cab,ok.hd,ok.frames,ok.Yx,ok.RD,ok.bs,ok.Mx,ok.zF,ok.Cg,ok.nM,ok.Uu⟩
section
variable{X:Cx}{pins:List (Addr×Obj)}{σ:St}{H:Hp}{s:Shared}{E:Value→Shared→Prop}
theorem Inv.wish(I:Inv X pins σ H s)(E:Value→Shared→Prop):Inv (X.wish E) pins σ H s:=⟨I.ok.wish E,I.os,I.bare,I.base,I.loc,I.cell,I.free,I.gC,I.pin,I.hok,I.len⟩
theorem Inv.lC(I:Inv (X.wish E) pins σ H s):Inv X pins σ H s:=⟨I.ok.lC,I.os,I.bare,I.base,I.loc,I.cell,I.free,I.gC,I.pin,I.hok,I.len⟩
theorem SP.lC{D:Ends}{f:Flow}{s':Shared}(h:SP (X.wish E) pins D f s'):SP X pins D f s':=by
 cases f with
 | next=>obtain⟨σ',H',I,q⟩:=h;exact⟨σ',H',I.lC,q⟩
 | brk=>obtain⟨σ',H',I,q⟩:=h;exact⟨σ',H',I.lC,q⟩
 | cont=>obtain⟨σ',H',I,q⟩:=h;exact⟨σ',H',I.lC,q⟩
 | ret u=>obtain⟨v,σ',H',I,r,q⟩:=h;exact⟨v,σ',H',I.lC,r,q⟩
theorem xR.Yz{st:List Stmt}{t:TS}(h:xR X.Yz st t):xR X st t:=λpins s σ H D I hw=>
 wpAny_mono (h pins s σ H D (I.wish _) hw) (λ_ _ q=>q.lC) λ_ _ z=>False.elim z
end
section
variable{X:Cx}{st:Stmt}{rest:List Stmt}{t u:TS}{e:Expr}{te:TE}{pos:Pos}
def Za:TS:=λD σ H=>D.nx σ H
def Ff(t u:TS):TS:=λD σ H=>t {D with nx:=u D} σ H
theorem Vg:xR X [] Za:=λ_ _ σ H _ I h=>wpAny_execs_nil ⟨σ,H,I,h⟩
theorem pA(h1:PS X st t)(h2:xR X rest u):xR X (st::rest) (Ff t u):=by
 intro pins s σ H D I h
 refine wpAny_execs_cons (dF (h1 pins s σ H {D with nx:=u D} I h) λf s1 q=>?_)
 cases f with
 | next=>
  obtain⟨σ',H',I',q⟩:=q
  exact h2 pins s1 σ' H' D I' q
 | ret v=>exact q
 | brk=>exact q
 | cont=>exact q
theorem Hz(h1:PS X st t):xR X [st] t:=by
 intro pins s σ H D I h
 refine wpAny_execs_cons (dF (h1 pins s σ H D I h) λf s1 q=>?_)
 cases f with
 | next=>exact wpAny_execs_nil q
 | ret v=>exact q
 | brk=>exact q
 | cont=>exact q
theorem Inv.quiet{pins:List (Addr×Obj)}{σ:St}{H:Hp}{s:Shared}(I:Inv X pins σ H s):interactive X.env=false:=by simp[interactive,I.ok.kind]
def kI(te:TE):TS:=λD σ H=>te σ H λ_ H1=>D.nx σ H1
theorem zK(he:PE X e te)(hs:swapsWith e none pos.line X.env=pure false:=by rfl):PS X (.Expr e pos) (kI te):=by
 intro pins s σ H D I h
 exact wpAny_Expr_any (dF (he pins s σ H _ I h) λv s1 ⟨x,H1,I1,r1,q1⟩=>⟨σ,H1,I1,q1⟩) I.quiet hs
def Vh(te:TE):TS:=λD σ H=>te σ H D.rt
theorem Nm(he:PE X e te):PS X (.Return (some e) pos) (Vh te):=by
 intro pins s σ H D I h
 exact wpAny_Return_some (dF (he pins s σ H _ I h) λv s1 ⟨x,H1,I1,r1,q1⟩=>⟨x,σ,H1,I1,r1,q1⟩)
def DK(c:TT)(t u:TS):TS:=λD σ H=>c σ H λb H1=>if b=true then t D σ H1 else u D σ H1
theorem Zb{c:Expr}{a b:List Stmt}{tc:TT}(hc:PT X c tc)(ha:xR X a t)(hb:xR X b u):PS X (.If c a b pos) (DK tc t u):=by
 intro pins s σ H D I h
 refine wpAny_If (dF (hc pins s σ H _ I h) λd s1 ⟨H1,I1,q1⟩=>?_)
 cases d with
 | true=>exact ha pins s1 σ H1 D I1 q1
 | false=>exact hb pins s1 σ H1 D I1 q1
def uI:TS:=λ_ _ _=>False
theorem Np:PS X st uI:=λ_ _ _ _ _ _ h=>h.elim
theorem xU{sts:List Stmt}:xR X sts uI:=λ_ _ _ _ _ _ h=>h.elim
end
abbrev TG:=V→St→Hp→(St→Hp→Prop)→Prop
def PG(X:Cx)(target:Expr)(t:TG):Prop:=
 ∀(pins:List (Addr×Obj))(s:Shared)(σ:St)(H:Hp)(v:V)(u:Value)(Q:St→Hp→Prop),Inv X pins σ H s→RelV v u→t v σ H Q →
  wpAny (model X.prog X.w) X.A (assign target X.env u) (λ_ s'=>∃σ' H',Inv X pins σ' H' s'∧Q σ' H') X.xe s
section
variable{X:Cx}{pos:Pos}
def cO(i:Nat):TG:=λv σ H Q=>Q (σ.set i (some v)) H
theorem iM{i:Nat}{x:Str}(hN:X.N.Nodup)(hi:X.N[i]?=some x)(hx:Loc X.env.scope x)(hf:X.fn x=true∨X.env.scope.names.lookup x=some .local:=by first | exact .inl rfl | exact .inr rfl | assumption):PG X (.Name x pos) (cO i):=by
 intro pins s σ H v u Q I r h
 exact wpAny_assign_Name (uH I hN hi hx r (λs' I'=>⟨_,H,I',h⟩) hf)
def xJ(te:TE)(g:TG):TS:=λD σ H=>te σ H λx H1=>g x σ H1 D.nx
theorem bH{i:Nat}{x:Str}{e:Expr}{te:TE}{pos':Pos}(hN:X.N.Nodup)(hi:X.N[i]?=some x)(hx:Loc X.env.scope x)(he:PE X e te)(hs:swapsWith e (some (.Name x pos')) pos.line X.env=pure false:=by rfl)(hf:X.fn x=true∨X.env.scope.names.lookup x=some .local:=by first | exact .inl rfl | exact .inr rfl | assumption) :
  PS X (.Assign [.Name x pos'] e pos) (xJ te (cO i)):=by
 intro pins s σ H D I h
 refine wpAny_Assign_Name (dF (he pins s σ H _ I h) λv s1 ⟨y,H1,I1,r1,q1⟩=>?_) hs
 exact uH I1 hN hi hx r1 (λs2 I2=>⟨_,H1,I2,q1⟩) hf
end
section
variable{X:Cx}{pos:Pos}
end
structure It where
 go:Nat→Hp→Prop
 RX:Nat→Hp→V→Hp→Prop
 stop:Nat→Hp→Prop
def zL(X:Cx)(pins:List (Addr×Obj))(H:Hp)(b:Addr):Prop:=
 H b=none∧b≠X.env.locals∧b∉X.fs∧(b∈X.ex∨X.s₀.heap.objs.size≤b)∧(∀x c,X.env.cells.lookup x=some c→c≠b)∧∀p∈X.pn++pins,p.1≠b
theorem Inv.DN{X:Cx}{pins:List (Addr×Obj)}{σ:St}{H H':Hp}{s:Shared}{b:Addr}(I:Inv X pins σ H s)(hb:s.heap.objs.size≤b)(hn:H' b=none):zL X pins H' b:=by
 refine⟨hn,O7 (C3 I.lt hb),I.bh hb,.inr (F8 I.sz hb),λx c e z=>?_,λp hp z=>?_⟩
 ·obtain⟨v,q⟩:=I.cell x c e
  exact absurd (C3 q.lt (by rw[z];exact hb)) (G1 _)
 ·exact absurd (C3 (Heap.lt_size (I.pin p hp).1) (by rw[z];exact hb)) (G1 _)
structure Turn(P:Program)(w:World)(K:aA)(tg:Expr)(J:It)(fp:List Addr)(it:Addr)(tn:Nat→Heap→Prop):Prop where
 mem:it∈fp
 obj:∀i h,tn i h→∀b∈fp,∃o,h.get? b=some o∧∀v,o.data≠.cell v
 keep:∀i h h',tn i h→(∀b∈fp,∀o,h.get? b=some o→h'.get? b=some o)→tn i h'
 item:∀(X:Cx),X.prog=P→X.w=w→X.K=K→X.calm=true→∀(i:Nat)(pins:List (Addr×Obj))(s:Shared)(σ:St)(H:Hp)(E:Value→Shared→Prop),Inv X pins σ H s→(∀b∈fp,zL X pins H b)→tn i s.heap→J.go i H →
  wpAny (model P w) X.A (pyNext (.ref it)) (λr s1=>∃u,r=some u ∧
   wpAny (model P w) X.A (letOwnedTupleGo tg (.ref it) u) (λ_ s2=>∃x H',Inv X pins σ H' s2∧RelV x u∧J.RX i H x H'∧tn (i+1) s2.heap∧∀b∈fp,H' b=none) E s1) E s
 done:∀(X:Cx),X.prog=P→X.w=w→X.K=K→X.calm=true→∀(i:Nat)(pins:List (Addr×Obj))(s:Shared)(σ:St)(H:Hp)(E:Value→Shared→Prop),Inv X pins σ H s→(∀b∈fp,zL X pins H b)→tn i s.heap→J.stop i H →
  wpAny (model P w) X.A (pyNext (.ref it)) (λr s1=>r=none∧Inv X pins σ H s1) E s
 self:∀(A:Around)(i:Nat)(s:Shared)(Q:Value→Shared→Prop)(E:Value→Shared→Prop),tn i s.heap→Q (.ref it) s→wpAny (model P w) A (pyIter (.ref it)) Q E s
abbrev TI:=St→Hp→(It→Hp→Prop)→Prop
def PIE(X:Cx)(pins:List (Addr×Obj))(σ:St)(tg:Expr)(R:It→Hp→Prop)(itv:Value)(s2:Shared):Prop:=
 ∃(it:Addr)(fp:List Addr)(tn:Nat→Heap→Prop)(J:It)(H':Hp),itv=.ref it∧Inv X pins σ H' s2∧Turn X.prog X.w X.K tg J fp it tn∧tn 0 s2.heap∧(∀b∈fp,zL X pins H' b)∧R J H'
def PI(X:Cx)(tg iter:Expr)(wi:TI):Prop:=
 ∀(pins:List (Addr×Obj))(s:Shared)(σ:St)(H:Hp)(R:It→Hp→Prop),Inv X pins σ H s→wi σ H R →
  wpAny (model X.prog X.w) X.A (eval iter X.env) (λv s1=>wpAny (model X.prog X.w) X.A (pyIter v) (PIE X pins σ tg R) X.xe s1) X.xe s
theorem Nq{M:Model}{A:Around}{E:Value→Shared→Prop}{s:Shared}{tg:Expr}{it:Addr}{u:Value}{o:Obj}{n:String}{vs:Array Value}{Q:Unit→Shared→Prop}(ho:s.heap.get? it=some o)(hc:o.cls=.type n)(hd:o.data=.fields vs)
    (hn:["enumerate", "zip", "dict_itemiterator", "dict_reverseitemiterator", "odict_iterator", "itertools.zip_longest", "itertools.pairwise"].contains n=false) (hQ:Q () s):wpAny M A (letOwnedTupleGo tg (.ref it) u) Q E s:=by
  unfold letOwnedTupleGo
  cases tg<;>first
    | exact wpAny_pure hQ
    | (cases u<;>first
        | exact wpAny_pure hQ
        | (refine wpAny_bind (wpAny_load ho ?_)
           rw[hc,hd]
           show wpAny M A (if(["enumerate", "zip", "dict_itemiterator", "dict_reverseitemiterator", "odict_iterator", "itertools.zip_longest", "itertools.pairwise"].contains n&&vs[0]?==some (rawInt _))=true then _ else _) Q E s
           rw[if_neg (by intro h;rw[hn,Bool.false_and]at h;cases h)]
           exact wpAny_pure hQ))
def bw(K:aA)(a:Addr):It:=
 ⟨λi H=>∃xs x,iY K H a xs∧xs[i]?=some x,λi H x H'=>H'=H∧∀xs,iY K H a xs→xs[i]?=some x,λi H=>∃xs,iY K H a xs∧xs.length≤i⟩
def cg(K:aA)(a:Addr):It:=
 ⟨λi H=>∃xs x,lB K H a xs∧xs[i]?=some x,λi H x H'=>H'=H∧∀xs,lB K H a xs→xs[i]?=some x,λi H=>∃xs,lB K H a xs∧xs.length≤i⟩
theorem Kq{P:Program}{w:World}{K:aA}{tg:Expr}(a it:Addr):Turn P w K tg (bw K a) [it] it (λi h=>h.IsListIter it a i) where
 mem:=by simp
 obj:=λi h st b hb=>by
  have e:b=it:=by simpa using hb
  subst e
  obtain⟨o,e,c,d⟩:=st
  exact⟨o,e,λv z=>by rw[d]at z;cases z⟩
 keep:=λi h h' st k=>st.at λo e=>k it (by simp) o e
 item:=by
  intro X hP hw hK hc i pins s σ H E I hf st hg
  subst hP hw hK
  obtain⟨xs,x,hq,hx⟩:=hg
  obtain⟨its,rv,p,hz⟩:=I.list hq
  obtain⟨u,hu,ru⟩:=rv.get hx
  obtain⟨f0,f1,f2,f3,f4,f5⟩:=hf it (by simp)
  refine wpAny_pyNext_list_item st p.isList (x:=u) (by simpa using hu) λh' st' sb=>?_
  have I1:Inv X pins σ H {s with heap:=h'}:=I.turned (t':=s.toks) (λb o hb e=>(sb.2 b hb).trans e) f0 f1 f3 f4 f5
  obtain⟨o,e,c,d⟩:=id st'
  exact⟨u,rfl,Nq (s:={s with heap:=h'}) e c d (by decide) ⟨x,H,I1,ru,⟨rfl,λys hy=>by rw[I.Ci hy hq];exact hx⟩,st',λb hb=>(hf b hb).1⟩⟩
 done:=by
  intro X hP hw hK hc i pins s σ H E I hf st hg
  subst hP hw hK
  obtain⟨xs,hq,hx⟩:=hg
  obtain⟨its,rv,p,hz⟩:=I.list hq
  obtain⟨f0,f1,f2,f3,f4,f5⟩:=hf it (by simp)
  have hl:=rv.length
  exact wpAny_pyNext_list_end (I.ok.hd hc) st p.isList (by simp;omega) λh' eb=>⟨rfl,I.turned (t':=s.toks) (λb o hb e=>eb b o hb e) f0 f1 f3 f4 f5⟩
 self:=λ_ _ _ _ _ st h=>wpAny_pyIter_listiter st h
theorem Fg{P:Program}{w:World}{K:aA}{tg:Expr}(a it:Addr):Turn P w K tg (cg K a) [it] it (λi h=>h.IsTupleIter it a i) where
 mem:=by simp
 obj:=λi h st b hb=>by
  have e:b=it:=by simpa using hb
  subst e
  obtain⟨o,e,c,d⟩:=st
  exact⟨o,e,λv z=>by rw[d]at z;cases z⟩
 keep:=λi h h' st k=>st.at λo e=>k it (by simp) o e
 item:=by
  intro X hP hw hK hc i pins s σ H E I hf st hg
  subst hP hw hK
  obtain⟨xs,x,hq,hx⟩:=hg
  obtain⟨its,rv,p,hz⟩:=I.tuple hq
  obtain⟨u,hu,ru⟩:=rv.get hx
  obtain⟨f0,f1,f2,f3,f4,f5⟩:=hf it (by simp)
  refine wpAny_pyNext_tuple_item st (show s.heap.IsTuple a its.toArray from p) (x:=u) (by simpa using hu) λh' st' sb=>?_
  have I1:Inv X pins σ H {s with heap:=h'}:=I.turned (t':=s.toks) (λb o hb e=>(sb.2 b hb).trans e) f0 f1 f3 f4 f5
  obtain⟨o,e,c,d⟩:=id st'
  exact⟨u,rfl,Nq (s:={s with heap:=h'}) e c d (by decide) ⟨x,H,I1,ru,⟨rfl,λys hy=>by rw[I.xT hy hq];exact hx⟩,st',λb hb=>(hf b hb).1⟩⟩
 done:=by
  intro X hP hw hK hc i pins s σ H E I hf st hg
  subst hP hw hK
  obtain⟨xs,hq,hx⟩:=hg
  obtain⟨its,rv,p,hz⟩:=I.tuple hq
  obtain⟨f0,f1,f2,f3,f4,f5⟩:=hf it (by simp)
  have hl:=rv.length
  exact wpAny_pyNext_tuple_end (I.ok.hd hc) st (show s.heap.IsTuple a its.toArray from p) (by simp;omega) λh' eb=>⟨rfl,I.turned (t':=s.toks) (λb o hb e=>eb b o hb e) f0 f1 f3 f4 f5⟩
 self:=λ_ _ _ _ _ st h=>wpAny_pyIter_tupleiter st h
end L2
namespace L2
open PySem PySem.Spec PyProof.Rows
section
variable{X:Cx}{tg:Expr}
def Zc(K:aA)(tl:TE):TI:=λσ H R=>tl σ H λx H1=>∃a,x=.ref a∧(∃xs,iY K H1 a xs)∧R (bw K a) H1
def RZ(K:aA)(tl:TE):TI:=λσ H R=>tl σ H λx H1=>∃a,x=.ref a∧(∃xs,lB K H1 a xs)∧R (cg K a) H1
theorem Vi{l:Expr}{tl:TE}(hl:PE X l tl):PI X tg l (Zc X.K tl):=by
 intro pins s σ H R I h
 refine dF (hl pins s σ H _ I h) λv s1 ⟨x,H1,I1,r1,q1⟩=>?_
 obtain⟨a,e,⟨xs,hq⟩,q⟩:=q1
 subst e
 cases r1
 obtain⟨its,rv,p,hz⟩:=I1.list hq
 refine wpAny_pyIter_list p.isList ?_
 refine⟨s1.heap.objs.size,[s1.heap.objs.size],_,_,H1,rfl,I1.kept (t':=s1.toks) λb o e=>Heap.get?_push_of_some _ e,Kq a _,⟨_,Heap.get?_push_size _ rfl,rfl,rfl⟩,λb hb=>?_,q⟩
 have e:b=s1.heap.objs.size:=by simpa using hb
 subst e
 exact I1.DN (B9 _) (I1.hok.fresh (B9 _))
theorem DP{l:Expr}{tl:TE}(hl:PE X l tl):PI X tg l (RZ X.K tl):=by
 intro pins s σ H R I h
 refine dF (hl pins s σ H _ I h) λv s1 ⟨x,H1,I1,r1,q1⟩=>?_
 obtain⟨a,e,⟨xs,hq⟩,q⟩:=q1
 subst e
 cases r1
 obtain⟨its,rv,p,hz⟩:=I1.tuple hq
 refine wpAny_pyIter_tuple (show s1.heap.IsTuple a its.toArray from p) ?_
 refine⟨s1.heap.objs.size,[s1.heap.objs.size],_,_,H1,rfl,I1.kept (t':=s1.toks) λb o e=>Heap.get?_push_of_some _ e,Fg a _,⟨_,Heap.get?_push_size _ rfl,rfl,rfl⟩,λb hb=>?_,q⟩
 have e:b=s1.heap.objs.size:=by simpa using hb
 subst e
 exact I1.DN (B9 _) (I1.hok.fresh (B9 _))
def Kr(wi:TI)(g:TG)(tb:TS):TS:=λD σ H=>wi σ H λJ H1=>∃W:Nat→Nat→St→Hp→Prop,(∃m,W 0 m σ H1)∧∀i m σ H,W i m σ H →
 (J.stop i H∧D.nx σ H)∨(J.go i H∧∃N:St→Hp→Prop,(∀σ' H',N σ' H'→∃m',m'<m∧W (i+1) m' σ' H')∧∀x H',J.RX i H x H'→g x σ H' λσ2 H2=>tb {D with nx:=N,ct:=N,bk:=D.nx} σ2 H2)
def uJ(fp:List Addr)(h:Heap):List (Addr×Obj):=fp.filterMap λb=>(h.get? b).map λo=>(b,o)
theorem jR{fp:List Addr}{h:Heap}{b:Addr}{o:Obj}(hb:b∈fp)(e:h.get? b=some o):(b,o)∈uJ fp h:=U0.mpr ⟨b,hb,by rw[e];rfl⟩
theorem Ks{fp:List Addr}{h:Heap}{p:Addr×Obj}(hp:p∈uJ fp h):p.1∈fp∧h.get? p.1=some p.2:=by
 obtain⟨b,hb,e⟩:=U0.mp hp
 cases q:h.get? b with
 | none=>rw[q]at e;cases e
 | some o=>
  rw[q]at e
  have e':(b,o)=p:=F2 e
  subst e'
  exact⟨hb,q⟩
theorem Inv.pinned{pins:List (Addr×Obj)}{σ:St}{H:Hp}{s:Shared}{fp:List Addr}(I:Inv X pins σ H s)(hf:∀b∈fp,zL X pins H b)(ho:∀b∈fp,∃o,s.heap.get? b=some o∧∀v,o.data≠.cell v):Inv X (pins++uJ fp s.heap) σ H s:=
 I.tX λp hp=>(K3.mp hp).elim (λz=>I.pin p (C8 _ z)) λz=>by
  obtain⟨hb,e⟩:=Ks z
  obtain⟨f0,f1,f2,_⟩:=hf p.1 hb
  obtain⟨o,e',d⟩:=ho p.1 hb
  rw[e]at e';cases e'
  exact⟨e,f0,f1,f2,d⟩
theorem Inv.pB{pins pl:List (Addr×Obj)}{σ:St}{H:Hp}{s:Shared}(I:Inv X (pins++pl) σ H s):Inv X pins σ H s:=I.tX λp hp=>I.pin p (C8 _ (F6 _ hp))
theorem Nr{iter:Expr}{body:List Stmt}{wi:TI}{g:TG}{tb:TS}{pos:Pos}(hp:PassesOwn (model X.prog X.w) X.A X.env X.xe)(hc:X.calm=true)(hi:PI X tg iter wi)(hg:PG X tg g)(hb:xR X body tb)
  (hs:∀x,foldedSetIterable iter X.env x=pure x:=by intro _;rfl):PS X (.For tg iter body [] pos) (Kr wi g tb):=by
 intro pins s σ H D I h
 refine wpAny_For (dF (hi pins s σ H _ I h) λv s1 h1=>dF h1 λitv s2 h2=>?_) hs
 obtain⟨it,fp,tn,J,H2,e,I2,T,st2,f2,W,⟨m0,w0⟩,turn⟩:=h2
 subst e
 have stat:∀{H':Hp},(∀b∈fp,H' b=none)→∀b∈fp,zL X pins H' b:=λhn b hb=>⟨hn b hb,(f2 b hb).2⟩
 refine codeAny_forLoop_any (λn s'=>∃i σ' H',Inv X pins σ' H' s'∧tn i s'.heap∧(∀b∈fp,H' b=none)∧W i n σ' H') ?_ m0 ⟨0,σ,H2,I2,st2,λb hb=>(f2 b hb).1,w0⟩
 rintro n s3 ⟨i,σ3,H3,I3,st3,fr3,w3⟩
 rcases turn i n σ3 H3 w3 with ⟨stop,qn⟩ | ⟨go,N,hN,step⟩
 ·refine wpAny_passesOwn hp (dF (T.done X rfl rfl rfl hc i pins s3 σ3 H3 X.xe I3 (stat fr3) st3 stop) λr s4 ⟨hr,I4⟩=>?_)
  subst hr
  exact wpAny_execs_nil ⟨σ3,H3,I4,qn⟩
 ·refine wpAny_passesOwn hp (dF (T.item X rfl rfl rfl hc i pins s3 σ3 H3 X.xe I3 (stat fr3) st3 go) λr s4 ⟨u,hr,h4⟩=>?_)
  subst hr
  refine wpAny_passesOwn hp (dF h4 λ_ s5 ⟨x,H5,I5,r5,y5,st5,fr5⟩=>?_)
  have ph:=I5.pinned (stat fr5) (T.obj _ _ st5)
  refine wpAny_passesOwn hp (dF (hg _ s5 σ3 H5 x u _ ph r5 (step x H5 y5)) λ_ s6 ⟨σ6,H6,I6,q6⟩=>?_)
  refine wpAny_passesOwn hp (dF (hb _ s6 σ6 H6 _ I6 q6) λf s7 q7=>?_)
  have again:∀{σ7:St} {H7:Hp},Inv X (pins++uJ fp s5.heap) σ7 H7 s7→N σ7 H7→∃m,m<n∧∃i σ' H',Inv X pins σ' H' s7∧tn i s7.heap∧(∀b∈fp,H' b=none)∧W i m σ' H':=λ{σ7 H7} I7 n7=>by
   obtain⟨m',hm,w7⟩:=hN σ7 H7 n7
   refine⟨m',hm,i+1,σ7,H7,I7.pB,T.keep _ _ _ st5 λb hb o e=>(I7.pin (b,o) (C8 _ (C8 _ (jR hb e)))).1,λb hb=>?_,w7⟩
   obtain⟨o,e,d⟩:=T.obj _ _ st5 b hb
   exact(I7.pin (b,o) (C8 _ (C8 _ (jR hb e)))).2.1
  cases f with
  | next=>obtain⟨σ7,H7,I7,n7⟩:=q7;exact again I7 n7
  | cont=>obtain⟨σ7,H7,I7,n7⟩:=q7;exact again I7 n7
  | brk=>obtain⟨σ7,H7,I7,q7⟩:=q7;exact⟨σ7,H7,I7.pB,q7⟩
  | ret v=>obtain⟨x7,σ7,H7,I7,r7,q7⟩:=q7;exact⟨x7,σ7,H7,I7.pB,r7,q7⟩
end
end L2
namespace L2
open PySem PySem.Spec PyProof.Rows
abbrev R2:=V→V→Hp→VK→Prop
def nR(X:Cx)(f:Value→Value→Sem Value)(r:R2):Prop:=
 ∀(pins:List (Addr×Obj))(s:Shared)(σ:St)(H:Hp)(x y:V)(v u:Value)(Q:VK),Inv X pins σ H s→RelV x v→RelV y u→r x y H Q →
  wpAny (model X.prog X.w) X.A (f v u) (EP X pins σ Q) X.xe s
def cj(X:Cx)(f:Value→Sem Value)(r:V→Hp→VK→Prop):Prop:=
 ∀(pins:List (Addr×Obj))(s:Shared)(σ:St)(H:Hp)(x:V)(v:Value)(Q:VK),Inv X pins σ H s→RelV x v→r x H Q →
  wpAny (model X.prog X.w) X.A (f v) (EP X pins σ Q) X.xe s
def fM(X:Cx)(f:Value)(r:List V→Hp→VK→Prop):Prop:=
 ∀(pins:List (Addr×Obj))(s:Shared)(σ:St)(H:Hp)(xs:List V)(us:List Value)(Q:VK),Inv X pins σ H s→Vals xs us→r xs H Q →
  wpAny (model X.prog X.w) X.A (call f us) (EP X pins σ Q) X.xe s
def Cj(r:R2)(ta tb:TE):TE:=λσ H Q=>ta σ H λx H1=>tb σ H1 λy H2=>r x y H2 Q
def SJ(r:V→Hp→VK→Prop)(ta:TE):TE:=λσ H Q=>ta σ H λx H1=>r x H1 Q
def rI(C:Int→Int→Prop)(g:Int→Int→V):R2:=λx y H Q=>∃i j,x=.int i∧y=.int j∧C i j∧Q (g i j) H
def Nt(g:Int→Int→V):R2:=λx y H Q=>∃i j,x=.int i∧y=.int j∧Q (g i j) H
def rU(g:Int→V):V→Hp→VK→Prop:=λx H Q=>∃i,x=.int i∧Q (g i) H
section
variable{X:Cx}{a b c:Expr}{ta tb tc:TE}{pos:Pos}
theorem DQ(ha:PE X a ta)(hb:PE X b tb){pins:List (Addr×Obj)}{s:Shared}{σ:St}{H:Hp}{R:V→V→Hp→Prop}(I:Inv X pins σ H s)
  (h:ta σ H λx H1=>tb σ H1 λy H2=>R x y H2) {Q:Value→Shared→Prop} {f:Value→Value→Sem Value}
  (hf:∀v u s2 x y H2,Inv X pins σ H2 s2→RelV x v→RelV y u→R x y H2→wpAny (model X.prog X.w) X.A (f v u) Q X.xe s2) :
  wpAny (model X.prog X.w) X.A (eval a X.env) (λv s₁=>wpAny (model X.prog X.w) X.A (eval b X.env) (λu s₂=>wpAny (model X.prog X.w) X.A (f v u) Q X.xe s₂) X.xe s₁) X.xe s:=by
 refine dF (ha pins s σ H _ I h) λv s1 ⟨x,H1,I1,r1,q1⟩=>?_
 refine dF (hb pins s1 σ H1 _ I1 q1) λu s2 ⟨y,H2,I2,r2,q2⟩=>?_
 exact hf v u s2 x y H2 I2 r1 r2 q2
theorem SM{op:Operator}{r:R2}(ho:nR X (binaryOp op) r)(ha:PE X a ta)(hb:PE X b tb):PE X (.BinOp a op b pos) (Cj r ta tb):=by
 intro pins s σ H Q I h
 exact wpAny_BinOp (DQ ha hb I h λv u s2 x y H2 I2 rx ry q=>ho pins s2 σ H2 x y v u Q I2 rx ry q)
theorem SN{op:UnaryOp}{r:V→Hp→VK→Prop}(ho:cj X (unaryOp op) r)(ha:PE X a ta):PE X (.UnaryOp op a pos) (SJ r ta):=by
 intro pins s σ H Q I h
 exact UnaryOp_ (dF (ha pins s σ H _ I h) λv s1 ⟨x,H1,I1,r1,q1⟩=>ho pins s1 σ H1 x v Q I1 r1 q1)
theorem SQ{f:Value→Value→Sem Value}{C:Int→Int→Prop}{g:Int→Int→Int}
  (rule:∀(i j:Int)(t u:Tok)(s:Shared)(Q:Value→Shared→Prop)(E:Value→Shared→Prop),C i j→Q (.int (g i j) s.toks) {s with toks:=s.toks+1}→wpAny (model X.prog X.w) X.A (f (.int i t) (.int j u)) Q E s) :
  nR X f (rI C λi j=>.int (g i j)):=by
 intro pins s σ H x y v u Q I rx ry h
 obtain⟨i,j,rfl,rfl,hc,q⟩:=h
 obtain⟨t,rfl⟩:=rx
 obtain⟨t',rfl⟩:=ry
 exact rule i j t t' s _ _ hc ⟨.int (g i j),H,I.tok _,⟨_,rfl⟩,q⟩
theorem SX{f:Value→Value→Sem Value}{g:Int→Int→Int}
  (rule:∀(i j:Int)(t u:Tok)(s:Shared)(Q:Value→Shared→Prop)(E:Value→Shared→Prop),Q (.int (g i j) s.toks) {s with toks:=s.toks+1}→wpAny (model X.prog X.w) X.A (f (.int i t) (.int j u)) Q E s) :
  nR X f (Nt λi j=>.int (g i j)):=by
 intro pins s σ H x y v u Q I rx ry h
 obtain⟨i,j,rfl,rfl,q⟩:=h
 obtain⟨t,rfl⟩:=rx
 obtain⟨t',rfl⟩:=ry
 exact rule i j t t' s _ _ ⟨.int (g i j),H,I.tok _,⟨_,rfl⟩,q⟩
theorem TF{f:Value→Value→Sem Value}{g:Int→Int→Bool}
  (rule:∀(i j:Int)(t u:Tok)(s:Shared)(Q:Value→Shared→Prop)(E:Value→Shared→Prop),Q (.bool (g i j)) s→wpAny (model X.prog X.w) X.A (f (.int i t) (.int j u)) Q E s) :
  nR X f (Nt λi j=>.bl (g i j)):=by
 intro pins s σ H x y v u Q I rx ry h
 obtain⟨i,j,rfl,rfl,q⟩:=h
 obtain⟨t,rfl⟩:=rx
 obtain⟨t',rfl⟩:=ry
 exact rule i j t t' s _ _ ⟨.bl (g i j),H,I,rfl,q⟩
def Ku(i j:Int):Prop:=0<j∧j<1073741824
def Kv(i j:Int):Prop:=0≤j∧j≤1000000∧i.natAbs<2 ^ 64
def zM(i j:Int):Prop:=(-(2 ^ 64)<i∧i<2 ^ 64)∨(-(2 ^ 64)<j∧j<2 ^ 64)
theorem zM.ok{i j:Int}(h:zM i j):IntMulOk i j:=by
 rcases h with ⟨h1,h2⟩ | ⟨h1,h2⟩
 ·exact .of_left (intBits_le_64 h1 h2)
 ·exact .of_right (intBits_le_64 h1 h2)
theorem DR:nR X (binaryOp .Add) (Nt λi j=>.int (i+j)):=SX λ_ _ _ _ _ _ _ q=>add_int q
theorem DW:nR X (binaryOp .Sub) (Nt λi j=>.int (i-j)):=SX λ_ _ _ _ _ _ _ q=>sub_int q
theorem DX:nR X (binaryOp .Mult) (rI zM λi j=>.int (i*j)):=SQ λ_ _ _ _ _ _ _ hc q=>mul_int q hc.ok
theorem Vj:nR X (binaryOp .FloorDiv) (rI Ku λi j=>.int (i/j)):=SQ λi j _ _ _ _ _ hc q=>by
 have h1:(0:Int)<j:=hc.1
 have h2:j<1073741824:=hc.2
 exact floordiv_int (by omega) (by rw[Int.fdiv_eq_ediv_of_nonneg i (by omega)];exact q) (.inl (PyProof.noPylong_small (by omega)))
theorem DY:nR X (binaryOp .Mod) (rI (λ_ j=>0<j) λi j=>.int (i%j)):=SQ λi j _ _ _ _ _ hc q=>by
 have h1:(0:Int)<j:=hc
 exact mod_int' (by omega) (by rw[Int.fmod_eq_emod_of_nonneg i (by omega)];exact q)
theorem EY:nR X (binaryOp .Pow) (rI Kv λi j=>.int (i ^ j.toNat)):=SQ λ_ _ _ _ _ _ _ hc q=>pow_int_small hc.1 hc.2.1 hc.2.2 q
theorem pq{f:Value→Sem Value}{g:Int→Int}
  (rule:∀(i:Int)(t:Tok)(s:Shared)(Q:Value→Shared→Prop)(E:Value→Shared→Prop),Q (.int (g i) s.toks) {s with toks:=s.toks+1}→wpAny (model X.prog X.w) X.A (f (.int i t)) Q E s) :
  cj X f (rU λi=>.int (g i)):=by
 intro pins s σ H x v Q I rx h
 obtain⟨i,rfl,q⟩:=h
 obtain⟨t,rfl⟩:=rx
 exact rule i t s _ _ ⟨.int (g i),H,I.tok _,⟨_,rfl⟩,q⟩
theorem FJ:cj X (unaryOp .USub) (rU λi=>.int (-i)):=pq λ_ _ _ _ _ q=>neg_int q
end
def Nu:V→V→Bool
  | .non,.non=>true | .non,.int _=>true | .int _,.non=>true | .non,.bl _=>true | .bl _,.non=>true | .non,.str _=>true | .str _,.non=>true
  | .int _,.int _=>true | .bl _,.bl _=>true | .str _,.str _=>true | .byt _,.byt _=>true
  | .int _,.str _=>true | .str _,.int _=>true | .bl _,.str _=>true | .str _,.bl _=>true
  | _,_=>false
def cu:R2:=λx y H Q=>Nu x y=true∧Q (.bl (decide (x=y))) H
theorem Vk{i j:Int}:decide (V.int i=V.int j)=(i==j):=by
 rw[M5]
 simp
theorem FN{i j:Bool}:decide (V.bl i=V.bl j)=(i==j):=by
 rw[M5]
 simp
theorem Vl{i j:Str}:decide (V.str i=V.str j)=(i==j):=by
 rw[M5]
 simp
theorem Vm{i j:Array UInt8}:decide (V.byt i=V.byt j)=(i.toList==j.toList):=by
 rw[M5]
 cases i
 cases j
 simp
section
variable{X:Cx}{a b c:Expr}{ta tb tc:TE}{pos:Pos}
theorem dO{pins:List (Addr×Obj)}{σ:St}{H:Hp}{s:Shared}{Q:VK}{k k':Bool}(I:Inv X pins σ H s)(q:Q (.bl k) H)(e:k=k'):EP X pins σ Q (.bool k') s:=by
 subst e
 exact⟨.bl k,H,I,rfl,q⟩
theorem TJ:nR X (compareOp .Eq) cu:=by
 intro pins s σ H x y v u Q I rx ry h
 obtain⟨hs,q⟩:=h
 cases x with
 | non=>
  cases rx
  cases y with
  | non=>cases ry;exact PySem.EqNone.eq_none_none (dO I q (by simp))
  | bl j=>cases ry;exact PySem.EqNone.eq_none_bool (dO I q (by simp))
  | int j=>obtain⟨t',rfl⟩:=ry;exact PySem.EqNone.eq_none_int (dO I q (by simp))
  | str j=>obtain⟨t',rfl⟩:=ry;exact PySem.EqNone.eq_none_str (dO I q (by simp))
  | _=>exact absurd (show false=true from hs) C6
 | bl i=>
  cases rx
  cases y with
  | non=>cases ry;exact PySem.EqNone.eq_bool_none (dO I q (by simp))
  | bl j=>cases ry;exact eq_bool (dO I q FN)
  | str j=>obtain⟨t',rfl⟩:=ry;exact PySem.EqMixed.eq_bool_str (dO I q (by simp))
  | _=>exact absurd (show false=true from hs) C6
 | int i=>
  obtain⟨t,rfl⟩:=rx
  cases y with
  | non=>cases ry;exact PySem.EqNone.eq_int_none (dO I q (by simp))
  | int j=>obtain⟨t',rfl⟩:=ry;exact eq_int (dO I q Vk)
  | str j=>obtain⟨t',rfl⟩:=ry;exact PySem.EqMixed.eq_int_str (dO I q (by simp))
  | _=>exact absurd (show false=true from hs) C6
 | str i=>
  obtain⟨t,rfl⟩:=rx
  cases y with
  | non=>cases ry;exact PySem.EqNone.eq_str_none (dO I q (by simp))
  | bl j=>cases ry;exact PySem.EqMixed.eq_str_bool (dO I q (by simp))
  | int j=>obtain⟨t',rfl⟩:=ry;exact PySem.EqMixed.eq_str_int (dO I q (by simp))
  | str j=>obtain⟨t',rfl⟩:=ry;exact eq_str (dO I q Vl)
  | _=>exact absurd (show false=true from hs) C6
 | byt i=>
  obtain⟨t,rfl⟩:=rx
  cases y with
  | byt j=>obtain⟨t',rfl⟩:=ry;exact PySem.W.eq_bytes (dO I q Vm)
  | _=>exact absurd (show false=true from hs) C6
 | _=>cases y<;>exact absurd (show false=true from hs) C6
theorem xV:nR X (compareOp .Lt) (Nt λi j=>.bl (decide (i<j))):=TF λ_ _ _ _ _ _ _ q=>lt_int q
theorem TQ:nR X (compareOp .Gt) (Nt λi j=>.bl (decide (j<i))):=TF λ_ _ _ _ _ _ _ q=>gt_int q
theorem nR.or{f:Value→Value→Sem Value}{r r':R2}(h:nR X f r)(h':nR X f r'):nR X f (λx y H Q=>r x y H Q∨r' x y H Q):=by
 intro pins s σ H x y v u Q I rx ry q
 rcases q with q | q
 ·exact h pins s σ H x y v u Q I rx ry q
 ·exact h' pins s σ H x y v u Q I rx ry q
theorem dB(b:Expr){op:CmpOp}(h:op≠.In:=by decide)(h2:op≠.NotIn:=by decide):behindInMarks op b=false:=by
 have e1:(op==CmpOp.In)=false:=by cases op<;>first | rfl | exact absurd rfl h
 have e2:(op==CmpOp.NotIn)=false:=by cases op<;>first | rfl | exact absurd rfl h2
 cases b<;>simp[behindInMarks,e1,e2]
theorem Vn{op:CmpOp}{r:R2}(ho:nR X (compareOp op) r)(ha:PE X a ta)(hb:PE X b tb)(hm:behindInMarks op b=false):PE X (.Compare a [op] [b] pos) (Cj r ta tb):=by
 intro pins s σ H Q I h
 exact wpAny_Compare1 (DQ ha hb I h λv u s2 x y H2 I2 rx ry q=>ho pins s2 σ H2 x y v u Q I2 rx ry q) hm
def Nv(t:TE):TT:=λσ H Q=>t σ H λx H'=>∃k,x=.bl k∧Q k H'
theorem Vo{op:CmpOp}{r:R2}(ho:nR X (compareOp op) r)(ha:PE X a ta)(hb:PE X b tb)(hm:behindInMarks op b=false):PT X (.Compare a [op] [b] pos) (Nv (Cj r ta tb)):=by
 intro pins s σ H Q I h
 refine wpAny_isTrue_Compare1 (dF (ha pins s σ H _ I h) λv s1 ⟨x,H1,I1,r1,q1⟩=>dF (hb pins s1 σ H1 _ I1 q1) λu s2 ⟨y,H2,I2,r2,q2⟩=>
  dF (ho pins s2 σ H2 x y v u _ I2 r1 r2 q2) λc s3 ⟨z,H3,I3,r3,k,e,q3⟩=>?_) hm
 subst e
 cases r3
 exact wpAny_truthy_bool ⟨H3,I3,q3⟩
theorem zN:(sizeLine:Nat)<2 ^ 63:=by rw[sizeLine_eq];decide
theorem vals1{x:V}{us:List Value}(r:Vals [x] us):∃u,us=[u]∧RelV x u:=by
 cases r with
 | cons r1 r2=>cases r2;exact⟨_,rfl,r1⟩
theorem vals2{x y:V}{us:List Value}(r:Vals [x,y] us):∃u w',us=[u,w']∧RelV x u∧RelV y w':=by
 cases r with
 | cons r1 r2=>
  cases r2 with
  | cons r3 r4=>cases r4;exact⟨_,_,rfl,r1,r3⟩
end
end L2
namespace L2
open PySem PySem.Spec PyProof.Rows
structure qd(h:Heap)(x dx C:Addr)(mA:Str→Option Value):Prop where
 obj:h.get? x=some (V9 C dx)
 ns:h.Ns1 dx mA
 ne:dx≠x
section
variable{prog:Program}{w:World}{A:Around}{E:Value→Shared→Prop}{s:Shared}{K:aA}{x dx C f:Addr}{mA:Str→Option Value}{name:Str}{v:Value}
end
theorem uE.some_of{v:V}{o:Option Value}(r:uE (some v) o):∃u,o=some u∧RelV v u:=by
 cases o with
 | none=>exact(show False from r).elim
 | some u=>exact⟨u,rfl,r⟩
section
variable{P:Program}{w:World}{H H':Hp}{h h':Heap}{a C dx:Addr}{fs fs':List (Str×V)}
end
structure jk(K:aA)(C:Addr):Prop where
 pg:PySem.W.plainGet K C Str.empty=true
 hd:PySem.W.hasDictIn K C=true
 po:PySem.W.plainOver K C=true
 sa:D5 K (.ref C) "__setattr__" = some (some (.builtin "object.__setattr__"))
def FQ(K:aA)(C:Addr)(f:Str):Prop:=D5 K (.ref C) f=some none
structure xq(K:aA)(C:Addr)(f:Str)(v:V)(u:Value):Prop where
 at_:D5 K (.ref C) f=some (some u)
 rel:RelV v u
 get:L5 K u "__get__" = some none
 cp:PySem.W.copiedNames.contains f=false
structure Meth(K:aA)(C:Addr)(m:Str)(f:Addr):Prop where
 at_:D5 K (.ref C) m=some (some (.ref f))
 fn:X1 K (.ref f)=true
 kp:J7 K (.ref f)=true
section
variable{X:Cx}{pins:List (Addr×Obj)}{σ:St}{H:Hp}{s:Shared}{a C dx:Addr}{fs:List (Str×V)}{f:Str}{v:V}{A:Around}{E:Value→Shared→Prop}
end
section
variable{X:Cx}{o e value:Expr}{f:Str}{pos pos' tpos:Pos}{ta tv:TE}
end
section
variable{X:Cx}{pins:List (Addr×Obj)}{σ:St}{H:Hp}{s:Shared}{A:Around}{E:Value→Shared→Prop}{Q:Value→Shared→Prop}{c:Value}{b:Bool}
inductive uK(K:aA)(H:Hp):V→Value→Prop where
 | non:uK K H .non (.type "NoneType")
 | bl (x:Bool):uK K H (.bl x) (.type "bool")
 | int (i:Int):uK K H (.int i) (.type "int")
 | str (x:Str):uK K H (.str x) (.type "str")
 | flt (x:UInt64):uK K H (.flt x) (.type "float")
 | lst {a:Addr} {xs:List V} (e:H a=some (.lst xs)):uK K H (.ref a) (.type "list")
 | gW {a:Addr} {o:Obj} {xs:List V} (e:H a=some (.gW o (.lst xs))):uK K H (.ref a) (.type "list")
 | tup {a:Addr} {xs:List V} (e:H a=some (.tup xs)):uK K H (.ref a) (.type "tuple")
 | dK {a:Addr} {kvs:List (Key×V)} (e:H a=some (.dK kvs)):uK K H (.ref a) (.type "dict")
 | dT {a:Addr} {kvs:List (List Key×V)} (e:H a=some (.dT kvs)):uK K H (.ref a) (.type "dict")
 | ins {a C dx:Addr} {fs:List (Str×V)} (e:H a=some (.ins C dx fs)) (cl:jk K C) (ha:D5 K (.ref C) "__class__" = some (some (.builtin "object.__class__")))
   (hn:L5 K (.builtin "object.__class__") "__get__" = some (some (.builtin "getset_descriptor.__get__"))) (htk:N8 K (.builtin "object.__class__")=some true)
   (hm:M4 K C (.type "object")=some true):uK K H (.ref a) (.ref C)
end
end L2
namespace L2
open PySem PySem.Spec PyProof.Rows
structure fK(k:Nat)(A:Around):Prop where
 hd:A.handled=none
 dp:A.depth+3*k+5<recursionLimit
 un:A.units+16*k+200<cLine
theorem fK.mono{j k:Nat}{A:Around}(r:fK k A)(h:j≤k):fK j A:=⟨r.hd,by have:=r.dp;omega,by have:=r.un;omega⟩
theorem fK.deeper{k:Nat}{A:Around}(r:fK (k+1) A)(env:Env):fK k (A.deeper env):=
 ⟨r.hd,by have:=r.dp;show A.depth+1+3*k+5<_;omega,by have:=r.un;show A.units+3+16*k+200<_;omega⟩
theorem fK.depth{k:Nat}{A:Around}(r:fK k A):A.depth<recursionLimit:=by have:=r.dp;omega
theorem fK.units{k:Nat}{A:Around}(r:fK k A):A.units+64<cLine:=by have:=r.un;omega
def lD:TA:=λ_ H Q=>Q [] H
def cY(ta:TE)(tr:TA):TA:=λσ H Q=>ta σ H λx H1=>tr σ H1 λxs H2=>Q (x::xs) H2
section
variable{X:Cx}{e:Expr}{es:List Expr}{te:TE}{t:TA}{pos:Pos}
theorem iU:PA X [] lD:=λ_ _ _ _ H Q I h=>Calls.spliced_nil ⟨[],H,I,.nil,h⟩
theorem bN(ha:PE X e te)(hr:PA X es t)(hs:starEach (e::es) X.env=(false,eval e X.env)::starEach es X.env:=by rfl):PA X (e::es) (cY te t):=by
 intro pos pins s σ H Q I h
 rw[hs]
 show wpAny _ _ (spliced ((false,eval e X.env)::backTo pos (starEach es X.env))) _ _ s
 refine Calls.spliced_cons (dF (ha pins s σ H _ I h) λu s1 ⟨x,H1,I1,r1,q1⟩=>?_)
 exact dF (hr pos pins s1 σ H1 _ I1 q1) λus s2 ⟨xs,H2,I2,r2,q2⟩=>⟨x::xs,H2,I2,.cons r1 r2,q2⟩
def Nx(t:TA):TE:=λσ H Q=>t σ H λxs H1=>xs.length≤sizeLine∧∀p,H1 p=none→Q (.ref p) (upd H1 p (.tup xs))
def Kw(t:TA):TE:=λσ H Q=>t σ H λxs H1=>xs.length≤sizeLine∧∀p,H1 p=none→Q (.ref p) (upd H1 p (.lst xs))
theorem Ny{x1}(h:PA X es t):PE X (.Tuple es x1 pos) (Nx t):=by
 intro pins s σ H Q I hq
 refine wpAny_Tuple_spliced (dF (h pos pins s σ H _ I hq) λus s1 ⟨xs,H1,I1,r,z,q⟩=>⟨by rw[←r.length];exact z,?_⟩)
 have hf:H1 s1.heap.objs.size=none:=I1.hok.fresh (B9 _)
 refine⟨.ref s1.heap.objs.size,upd H1 s1.heap.objs.size (.tup xs),I1.laid (t':=s1.toks) (λb u e=>Heap.get?_push_of_some _ e) (B9 _) ?_,rfl,q _ hf⟩
 exact⟨z,us,r,⟨_,Heap.get?_push_size _ rfl,rfl,_,rfl⟩⟩
theorem Fi(h:PA X es t):PE X (.List es pos) (Kw t):=by
 intro pins s σ H Q I hq
 refine wpAny_List_spliced (dF (h pos pins s σ H _ I hq) λus s1 ⟨xs,H1,I1,r,z,q⟩=>⟨by rw[←r.length];exact z,?_⟩)
 have hf:H1 s1.heap.objs.size=none:=I1.hok.fresh (B9 _)
 refine⟨.ref s1.heap.objs.size,upd H1 s1.heap.objs.size (.lst xs),I1.laid (t':=s1.toks) (λb u e=>Heap.get?_push_of_some _ e) (B9 _) ?_,rfl,q _ hf⟩
 exact⟨z,us,0,r,Heap.get?_push_size _ rfl⟩
end
abbrev Sp:=List V→Hp→VK→XK→Prop
abbrev Ck:=List Env→Hp→Shared→XK→Value→Shared→Prop
structure Vp(P:Program)(w:World)(K:aA)(mg:Str→Option Value)(base:Heap)(A:Around)(outer:List Env)(s:Shared)(H:Hp):Prop where
 frames:A.frames=some outer
 mod:Mod K mg base
 bs:∀b o,base.get? b=some o→s.heap.get? b=some o∧H b=none
 Mx:base.objs.size≤s.heap.objs.size
 nM:s.heap.FunFrames base outer
 Uu:∀b∈frs outer,H b=none
 hok:kZ P w H s.heap
 bare:AllBare s.gens
def CE(outer:List Env)(P:Program)(w:World)(H:Hp)(s:Shared)(Q:VK)(u:Value)(s':Shared):Prop:=
 ∃v H',s'.os=s.os∧AllBare s'.gens∧Un (frs outer) [] H H' s.heap s'.heap∧kZ P w H' s'.heap∧RelV v u∧Q v H'
def CR(CX:Ck)(outer:List Env)(P:Program)(w:World)(H:Hp)(s:Shared)(Q:VK)(E:XK)(r:Result)(s':Shared):Prop:=
 match r with
 | .ok (.ret u)=>CE outer P w H s Q u s'
 | .ok _=>False
 | .error e=>CX outer H s E e s'
structure pC(P:Program)(w:World)(K:aA)(mg:Str→Option Value)(base:Heap)(CX:Ck)(k:Nat)(f:Addr)(fd:FuncData)(ps:List Str)(sp:Sp):Prop where
 len:∀vs H Q E,sp vs H Q E→vs.length=ps.length
 run:∀(A:Around)(outer:List Env)(s:Shared)(H:Hp)(args:Args)(us:List Value)(vs:List V)(Q:VK)(E:XK),fK k A→Vp P w K mg base A outer s H→BindsTo s fd args (ps.zip us)→Vals vs us→sp vs H Q E →
  codeAny (model P w) A (.call (.ref f) args) (CR CX outer P w H s Q E) s
section
variable{X:Cx}{pins:List (Addr×Obj)}{σ:St}{H:Hp}{s s':Shared}
theorem Inv.env0(I:Inv X pins σ H s):Vp X.prog X.w X.K X.mg X.base X.A X.stack s H:=
 ⟨I.ok.frames,I.ok.mod,I.bs,F8 I.ok.Mx I.sz,I.stack,I.zH,I.hok,I.bare⟩
theorem Inv.after{Q:VK}{u:Value}(I:Inv X pins σ H s)(h:CE X.stack X.prog X.w H s Q u s'):EP X pins σ Q u s':=by
 obtain⟨v,H',os,bare,un,hok,r,q⟩:=h
 obtain⟨hh,g,d,t,os'⟩:=s'
 obtain rfl:os'=s.os:=os
 exact⟨v,H',I.call (h':=hh) (g':=g) (d':=d) (t':=t) (ch:=[]) un hok bare (λb z=>absurd z (by simp)),r,q⟩
end
def uL(sp:Sp)(Ky:List V)(E:XK)(t:TA):TE:=λσ H Q=>t σ H λvs H1=>sp (vs++Ky) H1 Q E
def Binds(K:aA)(fd:FuncData)(ps:List Str)(ds:List Value):Prop:=
 ∀(s:Shared)(us:List Value),K.In s.heap→(us++ds).length=ps.length→BindsTo s fd ⟨us,[]⟩ (ps.zip (us++ds))
theorem Binds.all{K:aA}{fd:FuncData}{ps:List Str}(h:∀us:List Value,us.length=ps.length→bindArgs fd ⟨us,[]⟩=pure (ps.zip us)):Binds K fd ps []:=λs us _ hl=>by
 rw[R5]at hl ⊢
 exact .of_eq (h us hl)
def Passes(CX:Ck)(X:Cx)(E:XK):Prop:=∀(pins:List (Addr×Obj))(σ:St)(H:Hp)(s:Shared)(e:Value)(s':Shared),Inv X pins σ H s→CX X.stack H s E e s'→X.xe e s'
section
variable{X:Cx}{CX:Ck}{k:Nat}{f C:Addr}{fd:FuncData}{ps:List Str}{sp:Sp}{Ky:List V}{ds:List Value}{E:XK}{x m:Str}{p pos apos:Pos}{e o:Expr}{es:List Expr}{ta:TE}{t:TA}
theorem FW{pins:List (Addr×Obj)}{σ:St}{H:Hp}{s:Shared}{Q:VK}{us:List Value}{vs:List V}(F:pC X.prog X.w X.K X.mg X.base CX k f fd ps sp)(hr:fK k X.A)(hb:Binds X.K fd ps ds)(hd:Vals Ky ds)(hx:Passes CX X E)
  (I:Inv X pins σ H s) (r:Vals vs us) (h:sp (vs++Ky) H Q E):wpAny (model X.prog X.w) X.A (call (.ref f) us) (EP X pins σ Q) X.xe s:=by
 have r2:Vals (vs++Ky) (us++ds):=r.append hd
 have hl:(us++ds).length=ps.length:=by rw[←r2.length];exact F.len _ _ _ _ h
 refine wpAny_call (codeAny_mono (F.run X.A X.stack s H ⟨us,[]⟩ (us++ds) (vs++Ky) Q E hr I.env0 (hb s us I.Fe hl) r2 h) λr s' hq=>?_)
 cases r with
 | error e=>exact hx pins σ H s e s' I hq
 | ok fl=>
  cases fl with
  | ret u=>exact I.after hq
  | next=>exact False.elim hq
  | brk=>exact False.elim hq
  | cont=>exact False.elim hq
theorem Vq(F:pC X.prog X.w X.K X.mg X.base CX k f fd ps sp)(hr:fK k X.A)(hg:Gl X x)(hm:X.mg x=some (.ref f))(hk:J7 X.K (.ref f)=true)(hb:Binds X.K fd ps ds)(hd:Vals Ky ds)(hx:Passes CX X E)
  (ha:PA X (e::es) t) (hdb:(x==("__debug__" : Str))=false:=by decide) (he:starEach (e::es) X.env=(false,eval e X.env)::starEach es X.env:=by rfl) (hpl:(backTo pos (starEach es X.env)).any (·.1)=false:=by rfl) :
  PE X (.Call (.Name x p) (e::es) [] pos) (uL sp Ky E t):=by
 intro pins s σ H Q I h
 refine wpAny_Call_Name_kw (mV I hg hm ?_ hdb)
 refine U1 (h₀:=X.base) I.ok.mod.RT hk (dF (ha pos pins s σ H _ I h) λus s1 ⟨vs,H1,I1,r,q⟩=>⟨I1.Fe,?_⟩) he hpl
 exact FW F hr hb hd hx I1 r q
structure Mk(K:aA)(C f:Addr):Prop where
 makes:PySem.W.makesIn K C=true
 init:D5 K (.ref C) "__init__" = some (some (.ref f))
 fn:X1 K (.ref f)=true
 kp:J7 K (.ref C)=true
end
section
variable{X:Cx}{CX:Ck}{k:Nat}{f C:Addr}{fd:FuncData}{ps ks:List Str}{sp:Sp}{E:XK}{x m:Str}{p pos apos kpos:Pos}{e o:Expr}{es:List Expr}{kws:List Keyword}{te ta:TE}{t tk:TA}{nm:Option Str}
structure cz(K:aA)(fd:FuncData)(ps ks:List Str)(g:List Value→List Value→List Value)(gV:List V→List V→List V):Prop where
 to:∀(s:Shared)(us ws:List Value),K.In s.heap→(g us ws).length=ps.length→BindsTo s fd ⟨us,ks.zip ws⟩ (ps.zip (g us ws))
 rel:∀{vs:List V} {us:List Value} {zs:List V} {ws:List Value},Vals vs us→Vals zs ws→Vals (gV vs zs) (g us ws)
variable{g:List Value→List Value→List Value}{gV:List V→List V→List V}
end
structure bL(N P:List Str)(sc:Scope):Prop where
 kind:sc.kind=.function
 co:sc.isCoroutine=false
 gen:sc.isGenerator=false
 nd:N.Nodup
 pre:N.take P.length=P
 par:∀x∈P,sc.names.lookup x=some .local∨sc.names.lookup x=some .cell
 FZ:∀y∈sc.names,y.2≠.free
theorem xW{kindOf:Str→Option NameKind}{x:Str}:∀{binds:List (Str×Value)} {m:Str→Option Value},(∀v,(x,v)∉binds)→bindL kindOf binds m x=m x
 | [],_,_=>rfl
 | (n,v)::r,m,h=>by
  unfold bindL
  rw[xW λw hw=>h w (C9 _ hw)]
  split
  ·have:x≠n:=by rintro rfl;exact h v D4
   simp[this]
  ·rfl
theorem xX{kindOf:Str→Option NameKind}{x:Str}:∀{binds:List (Str×Value)} {m:Str→Option Value},(∀v,(x,v)∉binds)→bindC kindOf binds m x=m x
 | [],_,_=>rfl
 | (n,v)::r,m,h=>by
  unfold bindC
  rw[xX λw hw=>h w (C9 _ hw)]
  split
  ·rfl
  ·have:x≠n:=by rintro rfl;exact h v D4
   simp[this]
theorem xY{kindOf:Str→Option NameKind}{x:Str}{v:Value}:∀{P:List Str} {vs:List Value} {i:Nat} {m:Str→Option Value},P.Nodup→P[i]?=some x→vs[i]?=some v→kindOf x=some .local →
  bindL kindOf (P.zip vs) m x=some v
 | [],_,_,_,_,h,_,_=>by simp at h
 | _::_,[],_,_,_,_,h,_=>by simp at h
 | p::P,w::vs,0,m,nd,h1,h2,hk=>by
  simp at h1 h2;subst h1;subst h2
  show bindL kindOf ((p,w)::P.zip vs) m p=_
  unfold bindL
  rw[xW λv hv=>(K8.mp nd).1 (R6 hv).1,if_pos hk]
  simp
 | p::P,w::vs,i+1,m,nd,h1,h2,hk=>by
  show bindL kindOf ((p,w)::P.zip vs) m x=_
  unfold bindL
  exact xY (i:=i) (K8.mp nd).2 (by simpa using h1) (by simpa using h2) hk
theorem xZ{kindOf:Str→Option NameKind}{x:Str}{v:Value}:∀{P:List Str} {vs:List Value} {i:Nat} {m:Str→Option Value},P.Nodup→P[i]?=some x→vs[i]?=some v→kindOf x≠some .local →
  bindC kindOf (P.zip vs) m x=some v
 | [],_,_,_,_,h,_,_=>by simp at h
 | _::_,[],_,_,_,_,h,_=>by simp at h
 | p::P,w::vs,0,m,nd,h1,h2,hk=>by
  simp at h1 h2;subst h1;subst h2
  show bindC kindOf ((p,w)::P.zip vs) m p=_
  unfold bindC
  rw[xX λv hv=>(K8.mp nd).1 (R6 hv).1,if_neg hk]
  simp
 | p::P,w::vs,i+1,m,nd,h1,h2,hk=>by
  show bindC kindOf ((p,w)::P.zip vs) m x=_
  unfold bindC
  exact xZ (i:=i) (K8.mp nd).2 (by simpa using h1) (by simpa using h2) hk
def start(N:List Str)(vs:List V):St:=vs.map some++D9 (N.length-vs.length) none
def dZ(CX:Ck)(P:Program)(w:World)(K:aA)(mg:Str→Option Value)(base:Heap)(N:List Str)(qual:Str)(scope:Scope)(f:Addr)(cd:Value)(A:Around)(outer:List Env)(s:Shared)(H:Hp)(E:XK):Cx where
 prog:=P
 w:=w
 K:=K
 mg:=mg
 base:=base
 A:=A.deeper (envOfC qual scope s.heap.objs.size f cd)
 N:=N
 s₀:=s
 H₀:=H
 env:=envOfC qual scope s.heap.objs.size f cd
 outer:=outer
 stack:=envOfC qual scope s.heap.objs.size f cd::outer
 ex:=[]
 calm:=true
 fn:=λ_=>true
 pn:=[]
 xe:=λe s'=>wpAny (model P w) (A.deeper (envOfC qual scope s.heap.objs.size f cd)) (leaving (envOfC qual scope s.heap.objs.size f cd) e) (λ_ s''=>CX outer H s E e s'') (λe' s''=>CX outer H s E e' s'') s'
theorem Cm{sc:Scope}{n:Nat}{x:Str}(h:sc.names.lookup x=some .cell):∃c,(cellsFrom n sc.names []).lookup x=some c:=by
 have q:=R8 sc.names n [] (.inl h)
 exact L8.mp q
theorem Kz{CX:Ck}{P:Program}{w:World}{K:aA}{mg:Str→Option Value}{base:Heap}{N ps:List Str}{qual:Str}{scope:Scope}{f:Addr}{cd:Value}{A:Around}{outer:List Env}{s s1:Shared}{H:Hp}{E:XK}{us:List Value}{vs:List V}
  (S:bL N ps scope) (hd:A.handled=none) (e0:Vp P w K mg base A outer s H) (hl:vs.length=ps.length) (r:Vals vs us)
  (x:InCallC s s.heap.objs.size (bindL (envOfC qual scope s.heap.objs.size f cd).kindOf (ps.zip us) λ_=>none) (cellsFrom (s.heap.objs.size+1) scope.names []) (bindC (envOfC qual scope s.heap.objs.size f cd).kindOf (ps.zip us) λ_=>none) s1) :
  Inv (dZ CX P w K mg base N qual scope f cd A outer s H E) [] (start N vs) H s1:=by
 have hpl:ps.length≤N.length:=by have:=congrArg List.length S.pre;rw[K2]at this;omega
 obtain⟨h1,tk,rfl,hk⟩:=x.done
 have TV:∀b:Addr,b∉(dZ CX P w K mg base N qual scope f cd A outer s H E).ex:=λb z=>absurd (show b∈([]:List Addr)from z) (by simp)
 refine⟨⟨e0.mod,S.kind,rfl,rfl,B9 _,λy z c h1 h2=>?_,λy hy=>?_,λy c _ h=>?_,λ_=>hd,Around.frames_deeper e0.frames,.inr ⟨rfl,rfl⟩,λb z=>absurd z (TV b),e0.bs,e0.Mx,λb _ _=>TV b,λb z=>absurd z (TV b),e0.nM,e0.Uu⟩,
  rfl,e0.bare,Un.kept hk,⟨_,x.toInCall.ns,λi y v h1 h2 h3=>?_⟩,λy c h=>⟨_,x.cell y c h⟩,e0.hok.fresh (B9 _),λy c h=>?_,λp hp=>absurd (show p∈([]:List (Addr×Obj))from hp) (by simp),e0.hok.kept hk,?_⟩
 ·exact name_of_addr x.apart (J9 h1) (J9 h2)
 ·have hy:scope.names.lookup y=some .cell∨scope.names.lookup y=some .free:=hy
  rcases hy with hy | hy
  ·exact Cm hy
  ·exact absurd rfl (S.FZ _ (J9 hy))
 ·exact L7 (x.above y c (J9 h))
 ·have hi:i<vs.length:=by
   unfold start at h2
   by_cases hi:i<vs.length
   ·exact hi
   ·rw[P7 (by simpa using hi)]at h2
    rw[R0]at h2
    split at h2<;>cases h2
  have ha:vs[i]?=some v:=by
   unfold start at h2
   rw[N9 (by simpa using hi),C5]at h2
   cases e:vs[i]? with
   | none=>rw[e]at h2;cases h2
   | some a=>rw[e]at h2;cases h2;rfl
  obtain⟨u,hu,rv⟩:=r.get ha
  have hp:ps[i]?=some y:=by
   rw[←S.pre,List.getElem?_take_of_lt (by omega)];exact h1
  have jl:ps.Nodup:=by rw[←S.pre];exact S.nd.sublist (U8 _ _)
  refine⟨u,rv,?_⟩
  rcases S.par y (F9 hp)with k | k
  ·exact .inl ⟨k,xY jl hp hu k⟩
  ·obtain⟨c,e⟩:=Cm (n:=s.heap.objs.size+1) k
   refine .inr ⟨.inl k,c,e,?_⟩
   have q:=x.cell y c e
   rw[xZ jl hp hu (by show scope.names.lookup y≠_;rw[k];decide)]at q
   exact q
 ·exact e0.hok.fresh (L7 (x.above y c (J9 h)))
 ·unfold start
  show _=N.length
  rw[F1,B3,S1]
  omega
theorem Zd{CX:Ck}{P:Program}{w:World}{K:aA}{mg:Str→Option Value}{base:Heap}{k:Nat}{f:Addr}{name qual:Str}{params:Arguments}{body:List Stmt}{scope:Scope}{dV kV doc pm cdv ct oc:Value}{an od:Option Addr}
  {osl:Array (Option Value)} {N ps:List Str} {sp:Sp} (lk:K.lookup f=some ⟨oc,od,.func (F4 name qual params body scope dV kV doc pm an cdv ct),osl⟩) (hcd:M8 K cdv qual=true) (S:bL N ps scope)
  (len:∀vs H Q E,sp vs H Q E→vs.length=ps.length)
  (hbody:∀(A:Around)(outer:List Env)(s:Shared)(H:Hp)(vs:List V)(Q:VK)(E:XK),fK k (A.deeper (envOfC qual scope s.heap.objs.size f cdv))→sp vs H Q E →
   ∃t,xR (dZ CX P w K mg base N qual scope f cdv A outer s H E) body t∧t {nx:=λ_ H'=>Q .non H',rt:=Q} (start N vs) H) :
  pC P w K mg base CX (k+1) f (F4 name qual params body scope dV kV doc pm an cdv ct) ps sp:=by
 refine⟨len,λA outer s H args us vs Q E hr e0 hb r hsp=>?_⟩
 have hl:=len _ _ _ _ hsp
 have KX:K.In s.heap:=e0.mod.RT.keeps λb o e=>(e0.bs b o e).1
 have lim:s.heap.NoLimit:=e0.mod.nolimit.keeps λb o e=>(e0.bs b o e).1
 have hkind:∀y∈ps.zip us,scope.names.lookup y.1=some .local∨(scope.names.lookup y.1=some .cell∧((cellsFrom (s.heap.objs.size+1) scope.names []).lookup y.1).isSome=true):=λ⟨n,v⟩ hy=>by
  rcases S.par n (R6 hy).1 with q | q
  ·exact .inl q
  ·exact .inr ⟨q,R8 _ _ _ (.inl q)⟩
 refine codeAny_call_function hr.depth (KX _ _ lk) rfl S.co S.gen rfl (PySem.W.codeRec_of KX hcd) (hb _ _ _ _ ?_)
 refine wpAny_newFunctionEnv_cells S.kind hkind λenv he s1 x=>?_
 subst he
 refine⟨lim.keeps x.toInCall.keep,codeAny_func ?_⟩
 obtain⟨t,ht,hq⟩:=hbody A outer s H vs Q E (hr.deeper _) hsp
 have I:Inv (dZ CX P w K mg base N qual scope f cdv A outer s H E) [] (start N vs) H s1:=Kz S hr.hd e0 hl r x
 refine wpAny_mono (ht [] s1 (start N vs) H _ I hq) (λfl s' hs=>?_) λe s' hs=>hs
 have fin:∀{σ':St} {H':Hp} {v:V} {u:Value},Inv (dZ CX P w K mg base N qual scope f cdv A outer s H E) [] σ' H' s'→RelV v u→Q v H'→CE outer P w H s Q u s':=
  λ{σ' H' v u} J rv q=>⟨v,H',J.os,J.bare,J.base,J.hok,rv,q⟩
 cases fl with
 | ret u=>
  obtain⟨v,σ',H',J,rv,q⟩:=hs
  exact fin J rv q
 | next=>
  obtain⟨σ',H',J,q⟩:=hs
  exact fin (v:=V.non) (u:=Value.none) J rfl q
 | brk=>
  obtain⟨_,_,_,q⟩:=hs
  exact False.elim q
 | cont=>
  obtain⟨_,_,_,q⟩:=hs
  exact False.elim q
end L2
namespace L2
open PySem PySem.Spec PyProof.Rows
section
variable{X:Cx}{x:Str}{p pos:Pos}{e:Expr}{es:List Expr}{t:TA}{id T:String}{r:List V→Hp→VK→Prop}
def Nz(r:List V→Hp→VK→Prop)(t:TA):TE:=λσ H Q=>t σ H λvs H1=>r vs H1 Q
theorem lE(hc:fM X (.builtin id) r)(hg:Gl X x)(hm:X.mg x=none)(hv:bootBuiltins x=some (.builtin id))(ha:PA X (e::es) t)(hn:x ≠ "__name__" := by decide) (hdb:(x==("__debug__" : Str))=false:=by decide)
  (he:starEach (e::es) X.env=(false,eval e X.env)::starEach es X.env:=by rfl) (hpl:(backTo pos (starEach es X.env)).any (·.1)=false:=by rfl):PE X (.Call (.Name x p) (e::es) [] pos) (Nz r t):=by
 intro pins s σ H Q I h
 refine wpAny_Call_Name_kw (zJ I hg hm hv ?_ hn hdb)
 exact O8 (dF (ha pos pins s σ H _ I h) λus s1 ⟨vs,H1,I1,r1,q1⟩=>hc pins s1 σ H1 vs us Q I1 r1 q1) he hpl
theorem La(hc:fM X (.type T) r)(hg:Gl X x)(hm:X.mg x=none)(hv:bootBuiltins x=some (.type T))(ha:PA X (e::es) t)(hn:x ≠ "__name__" := by decide) (hdb:(x==("__debug__" : Str))=false:=by decide)
  (he:starEach (e::es) X.env=(false,eval e X.env)::starEach es X.env:=by rfl) (hpl:(backTo pos (starEach es X.env)).any (·.1)=false:=by rfl):PE X (.Call (.Name x p) (e::es) [] pos) (Nz r t):=by
 intro pins s σ H Q I h
 refine wpAny_Call_Name_kw (zJ I hg hm hv ?_ hn hdb)
 exact PyProof.Rows.callWith_type1 (dF (ha pos pins s σ H _ I h) λus s1 ⟨vs,H1,I1,r1,q1⟩=>hc pins s1 σ H1 vs us Q I1 r1 q1) he hpl
end
end L2
namespace HT
open PySem PyProof.Rows
section
open PySem.SeqAt
open PySem.AutoSeq1 (wpAny_loadPart')
open PySem.MeetsSeq PySem.MeetsSeq2 PySem.MeetsSeq3
end
section
variable{prog:Program}{w:World}{A:Around}{E:Value→Shared→Prop}{s:Shared}
def tO(n d:Nat):Option Int→Nat
 | none=>d
 | some v=>if v<0 then(v+(n:Int)).toNat else min v.toNat n
theorem Vr(n d k:Nat):tO n d (some (k:Int))=min k n:=by
 show (if(k:Int)<0 then((k:Int)+(n:Int)).toNat else min (k:Int).toNat n)=min k n
 rw[if_neg (by omega),U9]
end
end HT
namespace L2
open PySem PySem.Spec PyProof.Rows
abbrev TO:=St→Hp→(Option Int→Hp→Prop)→Prop
def PO(X:Cx)(e:Option Expr)(t:TO):Prop:=
 ∀(pins:List (Addr×Obj))(s:Shared)(σ:St)(H:Hp)(Q:Option Int→Hp→Prop),Inv X pins σ H s→t σ H Q →
  wpAny (model X.prog X.w) X.A (evalPart e X.env) (λu s'=>∃o H',Inv X pins σ H' s'∧IsPart u o∧Q o H') X.xe s
def Ib:TO:=λ_ H Q=>Q none H
def Ze(t:TE):TO:=λσ H Q=>t σ H λx H1=>∃i,x=.int i∧Q (some i) H1
section
variable{X:Cx}{e:Expr}{te:TE}{lo hi:Option Expr}{tl th:TO}{pos p2:Pos}
theorem Vs:PO X none Ib:=by
 intro pins s σ H Q I h
 rw[evalPart_none]
 exact wpAny_pure ⟨none,H,I,.none,h⟩
theorem Vt(h:PE X e te):PO X (some e) (Ze te):=by
 intro pins s σ H Q I hw
 rw[evalPart_some]
 refine dF (h pins s σ H _ I hw) λu s1 ⟨x,H1,I1,r1,q1⟩=>?_
 obtain⟨i,rfl,q⟩:=q1
 obtain⟨t,rfl⟩:=r1
 exact⟨some i,H1,I1,.int i t,q⟩
def dg(X:Cx)(r:V→Option Int→Option Int→Hp→VK→Prop):Prop:=
 ∀(pins:List (Addr×Obj))(s:Shared)(σ:St)(H:Hp)(x:V)(v vl vu:Value)(lo hi:Option Int)(sl:Addr)(Q:VK),Inv X pins σ H s→RelV x v→s.heap.IsSliceOf sl vl vu .none→IsPart vl lo→IsPart vu hi→r x lo hi H Q →
  ∃T id,typeLookup (.type T) "__getitem__" = pure (some (.builtin id))∧s.TypeIs v T∧wpAny (model X.prog X.w) X.A (getItem v (.ref sl)) (EP X pins σ Q) X.xe s
def dh(r:V→Option Int→Option Int→Hp→VK→Prop)(te:TE)(tl th:TO):TE:=λσ H Q=>te σ H λx H1=>tl σ H1 λl H2=>th σ H2 λu H3=>r x l u H3 Q
theorem Cp{r:V→Option Int→Option Int→Hp→VK→Prop}(hr:dg X r)(he:PE X e te)(hl:PO X lo tl)(hu:PO X hi th):PE X (.Subscript e (.Slice lo hi none p2) pos) (dh r te tl th):=by
 intro pins s σ H Q I h
 refine Subscript_ (dF (he pins s σ H _ I h) λv s1 ⟨x,H1,I1,r1,q1⟩=>?_)
 refine wpAny_Slice (dF (hl pins s1 σ H1 _ I1 q1) λvl s2 ⟨l,H2,I2,pl,q2⟩=>dF (hu pins s2 σ H2 _ I2 q2) λvu s3 ⟨u,H3,I3,pu,q3⟩=>?_)
 rw[evalPart_none]
 refine wpAny_pure ?_
 have I4:Inv X pins σ H3 {s3 with heap:=s3.heap.push {cls:=.type "slice", data:=.fields #[vl,vu,.none]}}:=I3.kept (t':=s3.toks) λb ob q=>Heap.get?_push_of_some _ q
 obtain⟨T,id,hT,ht,hg⟩:=hr pins {s3 with heap:=s3.heap.push {cls:=.type "slice", data:=.fields #[vl,vu,.none]}} σ H3 x v vl vu l u s3.heap.objs.size Q I4 r1 (Heap.IsSliceOf.new ..) pl pu q3
 show wpAny (model X.prog X.w) X.A (subscriptTail e (.Slice lo hi none p2) v (.ref s3.heap.objs.size)) (EP X pins σ Q) X.xe {s3 with heap:=s3.heap.push {cls:=.type "slice", data:=.fields #[vl,vu,.none]}}
 exact tail_any (ops:=[.ref s3.heap.objs.size,v]) ht hT hg (by with_unfolding_all rfl)
def Fj(xs:List V)(lo hi:Option Int):List V:=(xs.drop (HT.tO xs.length 0 lo)).take (HT.tO xs.length xs.length hi-HT.tO xs.length 0 lo)
theorem Cq(xs:List V)(lo hi:Option Int):(Fj xs lo hi).length≤xs.length:=by
 unfold Fj
 rw[K2,L9]
 omega
end
end L2
namespace L2
open PySem PySem.Spec PyProof.Rows
def TX(n:Nat)(i:Int):Option Nat:=if 0≤i then(if i<n then some i.toNat else none)else if -(n:Int)≤i then some (i+n).toNat else none
def Oa{α:Type}(xs:List α)(i:Int):Option α:=(TX xs.length i).bind λj=>xs[j]?
theorem Vu{n:Nat}{i:Int}{j:Nat}(h:TX n i=some j):seqIndex? i n=some j∧j<n∧-(n:Int)≤i∧i<n:=by
 unfold TX at h
 by_cases h0:0≤i
 ·rw[if_pos h0]at h
  by_cases h1:i<n
  ·rw[if_pos h1]at h
   have e:i.toNat=j:=F2 h
   exact⟨by rw[seqIndex_of h0 h1,e],by omega,by omega,h1⟩
  ·rw[if_neg h1]at h;cases h
 ·rw[if_neg h0]at h
  by_cases h1:-(n:Int)≤i
  ·rw[if_pos h1]at h
   have e:(i+n).toNat=j:=F2 h
   exact⟨by rw[seqIndex_neg (by omega) h1,e],by omega,h1,by omega⟩
  ·rw[if_neg h1]at h;cases h
theorem zO{α:Type}{xs:List α}{i:Int}{v:α}(h:Oa xs i=some v):∃j,seqIndex? i xs.length=some j∧xs[j]?=some v∧j<xs.length∧-(xs.length:Int)≤i∧i<xs.length:=by
 unfold Oa at h
 cases e:TX xs.length i with
 | none=>rw[e]at h;cases h
 | some j=>
  rw[e]at h
  obtain⟨h1,h2,h3,h4⟩:=Vu e
  exact⟨j,h1,h,h2,h3,h4⟩
def Ie(b:Expr):Prop:=∀o i,subscripted b false o i=operate [o,i] (getItem o i)
def Uv(X:Cx)(r:R2):Prop:=
 ∀(value slice:Expr)(pins:List (Addr×Obj))(s:Shared)(σ:St)(H:Hp)(x y:V)(v u:Value)(Q:VK),Inv X pins σ H s→RelV x v→RelV y u→r x y H Q →
  subscripted slice false v u=operate [v,u] (getItem v u)→wpAny (model X.prog X.w) X.A (subscriptTail value slice v u) (EP X pins σ Q) X.xe s
def qe(X:Cx)(id:String)(r:V→List V→Hp→VK→Prop):Prop:=
 ∀(pins:List (Addr×Obj))(s:Shared)(σ:St)(H:Hp)(x:V)(xs:List V)(v:Value)(us:List Value)(Q:VK),Inv X pins σ H s→RelV x v→Vals xs us→r x xs H Q →
  wpAny (model X.prog X.w) X.A (call (.builtin id) (v::us)) (EP X pins σ Q) X.xe s
section
variable{X:Cx}{a b:Expr}{ta tb:TE}{pos:Pos}
theorem Uv.or{r r':R2}(h:Uv X r)(h':Uv X r'):Uv X (λx y H Q=>r x y H Q∨r' x y H Q):=by
 intro value slice pins s σ H x y v u Q I rx ry q hs
 rcases q with q | q
 ·exact h value slice pins s σ H x y v u Q I rx ry q hs
 ·exact h' value slice pins s σ H x y v u Q I rx ry q hs
theorem TY{r:R2}(hr:Uv X r)(ha:PE X a ta)(hb:PE X b tb)(hs:Ie b):PE X (.Subscript a b pos) (Cj r ta tb):=by
 intro pins s σ H Q I h
 exact Subscript_ (DQ ha hb I h λv u s2 x y H2 I2 rx ry q=>hr a b pins s2 σ H2 x y v u Q I2 rx ry q (hs _ _))
def UG(K:aA):R2:=λx y H Q=>∃p xs i v,x=.ref p∧y=.int i∧iY K H p xs∧Oa xs i=some v∧Q v H
def UJ(K:aA):R2:=λx y H Q=>∃p xs i v,x=.ref p∧y=.int i∧lB K H p xs∧Oa xs i=some v∧Q v H
def UL:R2:=λx y H Q=>∃z i c,x=.str z∧y=.int i∧z.length≤sizeLine∧Oa z.cps.toList i=some c∧Q (.str ⟨#[c]⟩) H
theorem Vv:Uv X (UG X.K):=by
 intro value slice pins s σ H x y v u Q I rx ry h hs
 obtain⟨p,xs,i,z,rfl,rfl,hq,he,q⟩:=h
 cases rx
 obtain⟨t,rfl⟩:=ry
 obtain⟨its,r,pl,hz⟩:=I.list hq
 obtain⟨j,h1,h2,h3,h4,h5⟩:=zO he
 obtain⟨w,ew,Lb⟩:=r.get h2
 have hl:=r.length
 have hn:=zN
 have fin:EP X pins σ Q w s:=⟨z,H,I,Lb,q⟩
 by_cases h0:0≤i
 ·have hj:i.toNat=j:=by
   rw[seqIndex_of h0 h5]at h1
   exact F2 h1
  exact item_listR pl.isList h0 (by omega) (by rw[hj];simpa using ew) fin hs
 ·have hj:(i+(its.toArray.size:Int)).toNat=j:=by
   rw[seqIndex_neg (by omega) h4]at h1
   rw[B4,←hl]
   exact F2 h1
  exact subscriptTail_builtinR (x:=w) pl.isList.typeIs slot_list_getitem.lookup
   (wpAny_getItem_list_neg (Q:=λr s'=>r=w∧EP X pins σ Q r s') pl.isList (by omega) (by rw[B4]<;>omega) (by omega) (by rw[hj];simpa using ew) ⟨rfl,fin⟩) hs
theorem GC:Uv X (UJ X.K):=by
 intro value slice pins s σ H x y v u Q I rx ry h hs
 obtain⟨p,xs,i,z,rfl,rfl,hq,he,q⟩:=h
 cases rx
 obtain⟨t,rfl⟩:=ry
 obtain⟨its,r,pl,hz⟩:=I.tuple hq
 obtain⟨j,h1,h2,h3,h4,h5⟩:=zO he
 obtain⟨w,ew,Lb⟩:=r.get h2
 have hl:=r.length
 have hn:=zN
 have fin:EP X pins σ Q w s:=⟨z,H,I,Lb,q⟩
 exact subscriptTail_builtinR (x:=w) pl.typeIs slot_tuple_getitem.lookup
  (getItem_tuple (j:=j) (Q:=λr s'=>r=w∧EP X pins σ Q r s') pl (by omega) (by omega) (by rw[B4,←hl];exact h1) (by simpa using ew) ⟨rfl,fin⟩) hs
theorem GD:Uv X UL:=by
 intro value slice pins s σ H x y v u Q I rx ry h hs
 obtain⟨z,i,c,rfl,rfl,hz,he,q⟩:=h
 obtain⟨t,rfl⟩:=rx
 obtain⟨t',rfl⟩:=ry
 obtain⟨j,h1,h2,h3,h4,h5⟩:=zO he
 have hl:z.cps.toList.length=z.length:=by simp[Str.length]
 rw[hl]at h1 h4 h5
 have hn:=zN
 exact tail_any (typeIs_str s z t) slot_str_getitem.lookup (getItem_str (c:=c) (by
  have e1:decide (i < -(2 ^ 63:Int))=false:=decide_eq_false (by omega)
  have e2:decide (i≥2 ^ 63)=false:=decide_eq_false (by omega)
  rw[e1,e2,Bool.or_false]) (by rw[h1];simpa using h2) ⟨.str ⟨#[c]⟩,H,I.tok _,⟨_,rfl⟩,q⟩) hs
def di(K:aA):R2:=λx y H Q=>UG K x y H Q∨UJ K x y H Q∨UL x y H Q
theorem GF:Uv X (di X.K):=Vv.or (GC.or GD)
theorem zP(lo hi:Option Int)(n:Nat):(sliceBounds lo hi none n).1=((HT.tO n 0 lo:Nat):Int)∧(sliceBounds lo hi none n).2.1=((HT.tO n n hi:Nat):Int)∧(sliceBounds lo hi none n).2.2=1:=by
 refine⟨?_,?_,rfl⟩
 ·cases lo with
  | none=>simp[sliceBounds,HT.tO]
  | some i=>
   simp only[sliceBounds,HT.tO,V2,show (1:Int) > 0 by decide,if_true]
   by_cases h:i<0
   ·simp only[h,if_true]<;>omega
   ·simp only[h,if_false]<;>omega
 ·cases hi with
  | none=>simp[sliceBounds,HT.tO]
  | some i=>
   simp only[sliceBounds,HT.tO,V2,show (1:Int) > 0 by decide,if_true]
   by_cases h:i<0
   ·simp only[h,if_true]<;>omega
   ·simp only[h,if_false]<;>omega
theorem xK(its:List Value)(lo hi:Option Int):slicePick its.toArray lo hi none=((its.drop (HT.tO its.length 0 lo)).take (HT.tO its.length its.length hi-HT.tO its.length 0 lo)).toArray:=by
 obtain⟨h1,h2,h3⟩:=zP lo hi its.toArray.size
 unfold slicePick
 rw[h1,h2,h3]
 simp only[sliceRange_one,pick_run,B4]<;>rfl
def Vw(K:aA):V→Option Int→Option Int→Hp→VK→Prop:=λx lo hi H Q=>∃a xs,x=.ref a∧iY K H a xs∧∀p,H p=none→Q (.ref p) (upd H p (.lst (Fj xs lo hi)))
theorem Vx:dg X (Vw X.K):=by
 intro pins s σ H x v vl vu lo hi sl Q I rx hs pl pu h
 obtain⟨a,xs,rfl,hx,q⟩:=h
 cases rx
 obtain⟨its,r,ht,hz⟩:=I.list hx
 have hlen:=r.length
 refine⟨"list", _,slot_list_getitem.lookup,ht.isList.typeIs,?_⟩
 refine wpAny_getItem_list_slice ht.isList hs pl pu .none (by simp) ?_ (by rw[B4]<;>omega)
 rw[xK,←hlen]
 refine⟨.ref s.heap.objs.size,_,I.laid (t':=s.toks) (o:=.lst (Fj xs lo hi)) (λb ob q=>Heap.get?_push_of_some _ q) (B9 _) ?_,rfl,q _ (I.hok.fresh (B9 _))⟩
 exact⟨F8 (Cq xs lo hi) hz,_,0,(r.drop (HT.tO xs.length 0 lo)).take (HT.tO xs.length xs.length hi-HT.tO xs.length 0 lo),Heap.get?_push_size _ rfl⟩
theorem zQ:fM X (.builtin "len") (λxs H Q=>∃p ys,xs=[.ref p]∧(iY X.K H p ys∨lB X.K H p ys)∧Q (.int ys.length) H):=by
 intro pins s σ H xs us Q I r h
 obtain⟨p,ys,rfl,hq,q⟩:=h
 obtain⟨u,rfl,rx⟩:=vals1 r
 cases rx
 have hn:=zN
 rcases hq with hq | hq
 ·obtain⟨its,r',pl,hz⟩:=I.list hq
  have hlen:=r'.length
  exact Calls.call_len_list pl.isList (by simp only[B4]<;>omega) ⟨.int ys.length,H,I.tok _,⟨s.toks+1,by rw[B4,hlen]⟩,q⟩
 ·obtain⟨its,r',pl,hz⟩:=I.tuple hq
  have hlen:=r'.length
  exact len_tuple pl (by simp only[B4]<;>omega) ⟨.int ys.length,H,I.tok _,⟨s.toks+1,by rw[B4,hlen]⟩,q⟩
theorem zR:fM X (.type "list") (λxs H Q=>∃p ys,xs=[.ref p]∧(iY X.K H p ys∨lB X.K H p ys)∧∀l,H l=none→Q (.ref l) (upd H l (.lst ys))):=by
 intro pins s σ H xs us Q I r h
 obtain⟨p,ys,rfl,hq,q⟩:=h
 obtain⟨u,rfl,rx⟩:=vals1 r
 cases rx
 have fin:∀(its:List Value),Vals ys its→ys.length≤sizeLine→∀(h':Heap)(c':Nat),(∀b o',s.heap.get? b=some o'→h'.get? b=some o') →
   h'.get? s.heap.objs.size=some {cls:=.type "list", dict:=none,data:=.seq its.toArray c',slots:=#[]}→EP X pins σ Q (.ref s.heap.objs.size) {s with heap:=h'}:=λits r' hz h' c' kp e=>
  ⟨.ref s.heap.objs.size,_,I.laid (t':=s.toks) kp (B9 _) (show cX X.prog X.w _ h' _ (.lst ys)from⟨hz,its,c',r',e⟩),rfl,q _ (I.hok.fresh (B9 _))⟩
 rcases hq with hq | hq
 ·obtain⟨its,r',pl,hz⟩:=I.list hq
  have hlen:=r'.length
  obtain⟨o,ho,hc,n,hd⟩:=pl.isList
  exact call_list_seq p (.inl rfl) ho hc hd (λh' c' kp e=>fin its r' hz h' c' kp e) (by simp only[B4]<;>omega)
 ·obtain⟨its,r',pl,hz⟩:=I.tuple hq
  have hlen:=r'.length
  obtain⟨o,ho,hc,n,hd⟩:=pl
  exact call_list_seq p (.inr rfl) ho hc hd (λh' c' kp e=>fin its r' hz h' c' kp e) (by simp only[B4]<;>omega)
def jm(K:aA)(T:String)(x:V)(H:Hp):Prop:=match x with
 | .str _=>T = "str"
 | .int _=>T = "int"
 | .ref p=>(T = "list" ∧ ∃xs,iY K H p xs)∨(T = "tuple" ∧ ∃o,K.lookup p=some o∧o.cls=.type "tuple" ∧ o.dict=none) ∨
   (T = "dict" ∧ ((∃kvs,H p=some (.dK kvs))∨∃kvs,H p=some (.dT kvs)))∨(T = "set" ∧ ∃S n,H p=some (.set S n))
 | _=>False
theorem GJ{pins:List (Addr×Obj)}{σ:St}{H:Hp}{s:Shared}{T:String}{x:V}{v:Value}(I:Inv X pins σ H s)(r:RelV x v)(ty:jm X.K T x H) :
  s.TypeIs v T∧∀a,v=.ref a→∃ob,s.heap.get? a=some ob∧ob.dict=none:=by
 cases x with
 | str z=>
  obtain⟨t,rfl⟩:=r
  cases(show T = "str" from ty)
  exact⟨typeIs_str s z t,λ_ e=>nomatch e⟩
 | int i=>
  obtain⟨t,rfl⟩:=r
  cases(show T = "int" from ty)
  exact⟨typeIs_int s i t,λ_ e=>nomatch e⟩
 | ref p=>
  cases r
  rcases ty with ⟨rfl,xs,hq⟩ | ⟨rfl,o,hk,hc,hd⟩ | ⟨rfl,hk⟩ | ⟨rfl,S,n,hk⟩
  ·obtain⟨its,_,pl,_⟩:=I.list hq
   refine⟨pl.isList.typeIs,λa e=>?_⟩
   cases e
   obtain⟨o,n,e,c,hd,_⟩:=pl
   exact⟨o,e,hd⟩
  ·refine⟨⟨o,I.Fe p o hk,hc⟩,λa e=>?_⟩
   cases e
   exact⟨o,I.Fe _ o hk,hd⟩
  ·have z:∃o,s.heap.get? p=some o∧o.ExactDict:=by
    rcases hk with ⟨kvs,hk⟩ | ⟨kvs,hk⟩
    ·obtain⟨_,_,_,_,o,_,_,e,ex,_⟩:=I.hok p _ hk
     exact⟨o,e,ex⟩
    ·obtain⟨_,_,_,_,o,_,_,e,ex,_⟩:=I.hok p _ hk
     exact⟨o,e,ex⟩
   obtain⟨o,e,ex⟩:=z
   refine⟨⟨o,e,ex.1⟩,λa e2=>?_⟩
   cases e2
   exact⟨o,e,ex.2.1⟩
  ·obtain⟨o,_,_,_,e,ex,_⟩:=I.hok p _ hk
   refine⟨⟨o,e,ex.1⟩,λa e2=>?_⟩
   cases e2
   exact⟨o,e,ex.2.1⟩
 | _=>exact False.elim ty
def ZK(K:aA)(T:String)(r:V→List V→Hp→VK→Prop)(to:TE)(t:TA):TE:=λσ H Q=>to σ H λx H1=>jm K T x H1∧t σ H1 λxs H2=>r x xs H2 Q
variable{o e:Expr}{es:List Expr}{to:TE}{t:TA}{name:Str}{apos cpos:Pos}{T id:String}{r:V→List V→Hp→VK→Prop}
theorem UT(pa:PlainAttrs T)(slot:Slot T name id)(hty:typeOf (.builtin id)=pure (.type "method_descriptor")) (hm:qe X id r) (ho:PE X o to) (ha:PA X (e::es) t)
  (hbase:attributeBase o name X.env (eval o X.env)=eval o X.env:=by rfl)
  (hfew:((backTo cpos (starEach (e::es) X.env)).all (λx=>!x.1)&&(backToKw cpos (keywordEach [] X.env)).all (λx=>x.1.isSome)
   && decide ((e::es).length+([]:List Keyword).length+(if([]:List Keyword).isEmpty then 0 else 1)<30))=true:=by rfl)
  (hline:(apos.endLine==cpos.line)=true:=by rfl) (hs:starEach (e::es) X.env=(false,eval e X.env)::starEach es X.env:=by rfl) (hplain:(backTo cpos (starEach es X.env)).any (·.1)=false:=by rfl) :
  PE X (.Call (.Attribute o name apos) (e::es) [] cpos) (ZK X.K T r to t):=by
 intro pins s σ H Q I h
 refine wpAny_Call_method_late hbase hfew hline rfl (dF (ho pins s σ H _ I h) λv s1 ⟨x,H1,I1,r1,ty,q1⟩=>?_)
 obtain⟨h1,h2⟩:=GJ I1 r1 ty
 refine⟨T,id,pa,slot,hty,h1,h2,?_⟩
 have hA:=ha cpos pins s1 σ H1 _ I1 q1
 rw[hs]at hA ⊢
 refine Calls.callWith_builtin (by show (false||(backTo cpos (starEach es X.env)).any (·.1))=false;rw[hplain]<;>rfl) (Calls.evalArgs_plain ?_)
 exact dF hA λus s2 ⟨vs,H2,I2,r2,q2⟩=>hm pins s2 σ H2 x vs v us Q I2 r1 r2 q2
end
end L2
namespace L2
open PySem PySem.Spec PyProof.Rows
def qg(X:Cx)(id:String)(r:V→List V→Hp→VK→Prop):Prop:=
 ∀(pins:List (Addr×Obj))(s:Shared)(σ:St)(H:Hp)(x:V)(xs:List V)(v:Value)(us:List Value)(Q:VK),Inv X pins σ H s→RelV x v→Vals xs us→r x xs H Q →
  wpAny (model X.prog X.w) X.A (call (.builtin id) (v::us)) (EP X pins σ Q) X.xe s
theorem Vals.one:∀{x:V} {us:List Value},Vals [x] us→∃u,us=[u]∧RelV x u
 | _,_,.cons r .nil=>⟨_,rfl,r⟩
section
variable{X:Cx}{pins:List (Addr×Obj)}{σ:St}{H:Hp}{s:Shared}{l b:Addr}{xs ys zs:List V}
theorem Inv.dj{its its':List Value}{n:Nat}{f:Array Value→Array Value}{t':Nat}(I:Inv X pins σ H s)(hH:H l=some (.lst xs))
  (e:s.heap.get? l=some {cls:=.type "list", data:=.seq its.toArray n}) (hf:f its.toArray=its'.toArray) (hv:Vals ys its') (hz:ys.length≤sizeLine) :
  Inv X pins σ (upd H l (.lst ys)) {s with heap:=s.heap.update l (Obj.mapSeq f),toks:=t'}:=by
 have q:=PySem.IsL.update e f
 rw[hf]at q
 refine I.write (x:=l) (e:=l) (by rw[hH];exact trivial) (.inl rfl) (λb' u hb hu=>(Heap.get?_update_other s.heap (Obj.mapSeq f) (Ne.symm hb)).trans hu) ⟨_,q⟩ ?_
 exact⟨hz,its',_,hv,q⟩
theorem Inv.UW{its:List Value}{t':Nat}(I:Inv X pins σ H s)(hv:Vals ys its)(hz:ys.length≤sizeLine) :
  Inv X pins σ (upd H s.heap.objs.size (.lst ys)) {s with heap:=s.heap.push {cls:=.type "list", data:=.seq its.toArray},toks:=t'}:=
 I.laid (λ_ _ q=>Heap.get?_push_of_some _ q) (B9 _) ⟨hz,its,0,hv,Heap.get?_push_size _ rfl⟩
theorem Inv.fresh(I:Inv X pins σ H s):H s.heap.objs.size=none:=I.hok.fresh (B9 _)
theorem Inv.dm(I:Inv X pins σ H s)(hH:H l=some (.lst xs)):xs.length≤sizeLine∧∃(its:List Value)(n:Nat),Vals xs its∧xs.length=its.length∧s.heap.get? l=some {cls:=.type "list", data:=.seq its.toArray n}:=by
 obtain⟨z,its,n,r,e⟩:=I.hok l _ hH
 exact⟨z,its,n,r,r.length,e⟩
end
section
variable{X:Cx}
def tY:V→List V→Hp→VK→Prop:=λx vs H Q=>∃l xs y,x=.ref l∧vs=[y]∧H l=some (.lst xs)∧xs.length<sizeLine∧Q .non (upd H l (.lst (xs++[y])))
theorem yC:qg X "list.append" tY:=by
 intro pins s σ H x vs v us Q I rx rv h
 obtain⟨l,xs,y,rfl,rfl,hH,hz,q⟩:=h
 cases rx
 obtain⟨u,rfl,ru⟩:=rv.one
 obtain⟨z,its,n,r,hl,e⟩:=I.dm hH
 refine call_meets F.slot_list_append ⟨_,e,rfl⟩ F.entry_list_append (F.args_list_append_2 _ _) (PySem.list_append l its.toArray n u (by rw[B4];omega)) ⟨e,?_⟩
 refine⟨.non,_,I.dj (its':=its++[u]) hH e (by simp) (r.append (.cons ru .nil)) ?_,rfl,q⟩
 rw[F1,List.length_singleton]
 omega
end
section
variable{prog:Program}{w:World}{A:Around}{E:Value→Shared→Prop}{s:Shared}
end
section
variable{X:Cx}
end
end L2
namespace L2
open PySem PySem.Spec PyProof.Rows
section
variable{κ:Type} [DecidableEq κ]
def kJ(kvs:List (κ×V))(k:κ):Option V:=(kvs.find? λkv=>decide (kv.1=k)).map (·.2)
def putK(kvs:List (κ×V))(k:κ)(v:V):List (κ×V):=
 if(kvs.any λkv=>decide (kv.1=k))=true then kvs.map (λkv=>if kv.1=k then(kv.1,v)else kv)else kvs++[(k,v)]
def uM(kvs:List (κ×V))(k:κ):List (κ×V):=kvs.filter λkv=>decide (kv.1≠k)
theorem uN{p:κ×V}{r:List (κ×V)}{k:κ}(e:p.1=k):kJ (p::r) k=some p.2:=by simp[kJ,K9,e]
theorem uO{p:κ×V}{r:List (κ×V)}{k:κ}(e:¬p.1=k):kJ (p::r) k=kJ r k:=by simp[kJ,K9,e]
theorem uP(k:κ):∀kvs:List (κ×V),(kvs.any λkv=>decide (kv.1=k))=(kJ kvs k).isSome
 | []=>rfl
 | p::r=>by
  rw[P8]
  by_cases e:p.1=k
  ·simp only[uN e,decide_eq_true e,Bool.true_or,Option.isSome_some]
  ·rw[uO e,decide_eq_false e,Bool.false_or];exact uP k r
theorem sY(kvs:List (κ×V))(k:κ)(v:V):(putK kvs k v).length≤kvs.length+1:=by
 unfold putK
 split
 ·rw[B3];omega
 ·rw[F1,F3,W2];omega
theorem uE.iZ{o:Option V}{u:Option Value}(r:uE o u):o.isSome=u.isSome:=by
 cases o with
 | none=>cases u with
  | none=>rfl
  | some _=>exact(show False from r).elim
 | some _=>cases u with
  | none=>exact(show False from r).elim
  | some _=>rfl
theorem KV.val{kvs:List (κ×V)}{vs:List (κ×Value)}(r:KV kvs vs)(k:κ):uE (kJ kvs k) (valueAt vs k):=by
 unfold KV at r
 induction r with
 | nil=>exact True.intro
 | @cons p q ps qs h t ih=>
  obtain⟨h1,h2⟩:=h
  by_cases e:p.1=k
  ·have e':q.1=k:=h1.symm.trans e
   have b:valueAt (q::qs) k=some q.2:=by simp[valueAt,K9,e']
   rw[uN e,b];exact h2
  ·have e':¬q.1=k:=λz=>e (h1.trans z)
   have b:valueAt (q::qs) k=valueAt qs k:=by simp[valueAt,K9,e']
   rw[uO e,b];exact ih
theorem KV.any{kvs:List (κ×V)}{vs:List (κ×Value)}(r:KV kvs vs)(k:κ):(kvs.any λkv=>decide (kv.1=k))=vs.any λkv=>decide (kv.1=k):=by
 unfold KV at r
 induction r with
 | nil=>rfl
 | cons h t ih=>rw[P8,P8,ih,h.1]
theorem KV.repl{kvs:List (κ×V)}{vs:List (κ×Value)}(r:KV kvs vs)(k:κ){y:V}{u:Value}(ry:RelV y u) :
  KV (kvs.map λkv=>if kv.1=k then(kv.1,y)else kv) (vs.map λkv=>if kv.1=k then(kv.1,u)else kv):=by
 unfold KV at r ⊢
 induction r with
 | nil=>exact .nil
 | @cons p q ps qs h t ih=>
  rw[B5,B5]
  refine .cons ?_ ih
  obtain⟨h1,h2⟩:=h
  by_cases e:p.1=k
  ·rw[if_pos e,if_pos (h1.symm.trans e)];exact⟨h1,ry⟩
  ·rw[if_neg e,if_neg (λz=>e (h1.trans z))];exact⟨h1,h2⟩
theorem KV.put{kvs:List (κ×V)}{vs:List (κ×Value)}(r:KV kvs vs)(k:κ){y:V}{u:Value}(ry:RelV y u):KV (putK kvs k y) (stored vs k u):=by
 unfold putK stored
 rw[r.any k]
 by_cases e:(vs.any λkv=>decide (kv.1=k))=true
 ·rw[if_pos e,if_pos e];exact r.repl k ry
 ·rw[if_neg e,if_neg e];exact Paired.snoc r ⟨rfl,ry⟩
theorem KV.drop{kvs:List (κ×V)}{vs:List (κ×Value)}(r:KV kvs vs)(k:κ):KV (uM kvs k) (without vs k):=by
 unfold KV at r ⊢
 unfold uM without
 induction r with
 | nil=>exact .nil
 | @cons p q ps qs h t ih=>
  obtain⟨h1,h2⟩:=h
  rw[M3,M3]
  by_cases e:p.1=k
  ·have a:¬decide (p.1≠k)=true:=by simp[e]
   have b:¬decide (q.1≠k)=true:=by simp[h1.symm.trans e]
   rw[if_neg a,if_neg b];exact ih
  ·have e':¬q.1=k:=λz=>e (h1.trans z)
   have a:decide (p.1≠k)=true:=by simp[e]
   have b:decide (q.1≠k)=true:=by simp[e']
   rw[if_pos a,if_pos b];exact .cons ⟨h1,h2⟩ ih
theorem KV.keys{kvs:List (κ×V)}{vs:List (κ×Value)}(r:KV kvs vs):kvs.map (·.1)=vs.map (·.1):=by
 unfold KV at r
 induction r with
 | nil=>rfl
 | cons h t ih=>rw[B5,B5,ih,h.1]
theorem KV.length{kvs:List (κ×V)}{vs:List (κ×Value)}(r:KV kvs vs):kvs.length=vs.length:=Paired.length r
theorem Ob(kvs:List (κ×V))(k:κ):(uM kvs k).length≤kvs.length:=S2 _ _
end
theorem yD{P:Program}{w:World}{k:Key}{u:Value}(r:RelV (kV k) u):(aY P w).is k u=true:=by
 cases k with
 | inl i=>obtain⟨t,e⟩:=(show ∃t,u=Value.int i t from r);subst e;exact sX P w i t
 | inr x=>obtain⟨t,e⟩:=(show ∃t,u=Value.str x t from r);subst e;exact Ce P w x t
theorem yE{P:Program}{w:World}:∀{ks:List Key} {us:List Value},Vals (ks.map kV) us→ItemsAre (aY P w) ks us
 | [],_,r=>by rw[F5]at r;cases r;exact .nil
 | k::ks,_,r=>by
  rw[B5]at r
  cases r with
  | cons h t=>exact .cons (yD h) (yE t)
abbrev KT(H:Hp):List (List Key×V)→List (List Key×Addr×Value)→Prop:=Paired λp q=>p.1=q.1∧H q.2.1=some (.tup (p.1.map kV))∧RelV p.2 q.2.2
theorem KT.val{H:Hp}{kvs:List (List Key×V)}{xs:List (List Key×Addr×Value)}(r:KT H kvs xs)(k:List Key):uE (kJ kvs k) ((atKey xs k).map (·.2)):=by
 induction r with
 | nil=>exact True.intro
 | @cons p q ps qs h t ih=>
  obtain⟨h1,_,h2⟩:=h
  by_cases e:p.1=k
  ·have e':q.1=k:=h1.symm.trans e
   have b:atKey (q::qs) k=some q.2:=by simp[atKey,K9,e']
   rw[uN e,b];exact h2
  ·have e':¬q.1=k:=λz=>e (h1.trans z)
   have b:atKey (q::qs) k=atKey qs k:=by simp[atKey,K9,e']
   rw[uO e,b];exact ih
theorem KT.repl{H:Hp}{kvs:List (List Key×V)}{xs:List (List Key×Addr×Value)}(r:KT H kvs xs)(k:List Key){y:V}{u:Value}(ry:RelV y u) :
  KT H (kvs.map λkv=>if kv.1=k then(kv.1,y)else kv) (xs.map (putAt k u)):=by
 induction r with
 | nil=>exact .nil
 | @cons p q ps qs h t ih=>
  rw[B5,B5]
  refine .cons ?_ ih
  obtain⟨h1,h2,h3⟩:=h
  unfold putAt
  by_cases e:p.1=k
  ·rw[if_pos e,if_pos (h1.symm.trans e)];exact⟨h1,h2,ry⟩
  ·rw[if_neg e,if_neg (λz=>e (h1.trans z))];exact⟨h1,h2,h3⟩
theorem KT.put{H:Hp}{kvs:List (List Key×V)}{xs:List (List Key×Addr×Value)}(r:KT H kvs xs)(k:List Key){b:Addr}{y:V}{u:Value}(hb:H b=some (.tup (k.map kV)))(ry:RelV y u) :
  KT H (putK kvs k y) (storedH xs k b u):=by
 have e:(kvs.any λkv=>decide (kv.1=k))=(atKey xs k).isSome:=by
  rw[uP,(r.val k).iZ,Q2]
 unfold putK storedH
 rw[e]
 by_cases q:(atKey xs k).isSome=true
 ·rw[if_pos q,if_pos q];exact r.repl k ry
 ·rw[if_neg q,if_neg q];exact Paired.snoc r ⟨rfl,hb,ry⟩
theorem KT.keeps{H H':Hp}{kvs:List (List Key×V)}{xs:List (List Key×Addr×Value)}(r:KT H kvs xs)(ht:∀b ys,H b=some (.tup ys)→H' b=some (.tup ys)):KT H' kvs xs:=
 Paired.BZ r λ_ _ z=>⟨z.1,ht _ _ z.2.1,z.2.2⟩
section
variable{P:Program}{w:World}{H:Hp}{h:Heap}{a:Addr}
theorem Zf{u:HO}(ok:kZ P w H h)(e:Rd H a u):cX P w H h a u:=e.ok ok
theorem uQ{kvs:List (Key×V)}(ok:kZ P w H h)(e:Rd H a (.dK kvs)):kvs.length≤sizeLine∧(a==sysModules)=false∧∃vs,KV kvs vs∧h.DictOf (aY P w) a vs:=
 show cX P w H h a (.dK kvs)from Zf ok e
theorem Zg{kvs:List (Key×V)}(ok:kZ P w H h)(e:H a=some (.dK kvs)):kvs.length≤sizeLine∧(a==sysModules)=false∧∃vs,KV kvs vs∧h.DictOf (aY P w) a vs:=uQ ok (.inl e)
theorem uR{ks:List Key}(ok:kZ P w H h)(e:H a=some (.tup (ks.map kV))):(tupleKind (aY P w)).is h ks a:=by
 obtain⟨_,its,r,o,h1,h2,n,h3⟩:=(show cX P w H h a (.tup (ks.map kV))from ok a _ e)
 exact⟨o,its.toArray,n,h1,h2,h3,by simpa using yE r⟩
theorem yF{kvs:List (List Key×V)}(ok:kZ P w H h)(e:Rd H a (.dT kvs)):kvs.length≤sizeLine∧(a==sysModules)=false ∧
  ∃xs,KT H kvs xs∧h.DictOfH (tupleKind (aY P w)) a xs:=by
 obtain⟨z,y,xs,r,o,es,ep,h1,h2,h3,h4,h5⟩:=(show cX P w H h a (.dT kvs)from Zf ok e)
 refine⟨z,y,xs,r,o,es,ep,h1,h2,h3,h4,λx hx=>?_,h5⟩
 have all:∀{l:List (List Key×V)} {m:List (List Key×Addr×Value)},KT H l m→∀x∈m,(tupleKind (aY P w)).is h x.1 x.2.1:=by
  intro l m q
  induction q with
  | nil=>intro x hx;exact nomatch hx
  | @cons p q ps qs hq t ih=>
   intro x hx
   rcases D6.mp hx with e | hx
   ·subst e
    exact uR ok (by rw[←hq.1];exact hq.2.1)
   ·exact ih x hx
 exact all r x hx
theorem VB{kvs:List (List Key×V)}(ok:kZ P w H h)(e:H a=some (.dT kvs)):kvs.length≤sizeLine∧(a==sysModules)=false ∧
  ∃xs,KT H kvs xs∧h.DictOfH (tupleKind (aY P w)) a xs:=yF ok (.inl e)
end
def Cr(H:Hp)(a:Addr)(y:V)(r:Option V):Prop:=
 (∃kvs k,Rd H a (.dK kvs)∧y=kV k∧r=kJ kvs k)∨∃kvs k b,Rd H a (.dT kvs)∧y=.ref b∧H b=some (.tup (k.map kV))∧r=kJ kvs k
def VD(H:Hp)(a:Addr)(y v:V)(H':Hp):Prop:=
 (∃kvs k,H a=some (.dK kvs)∧y=kV k∧kvs.length<sizeLine∧H'=upd H a (.dK (putK kvs k v))) ∨
 ∃kvs k b,H a=some (.dT kvs)∧y=.ref b∧H b=some (.tup (k.map kV))∧kvs.length<sizeLine∧H'=upd H a (.dT (putK kvs k v))
section
variable{X:Cx}{pins:List (Addr×Obj)}{σ:St}{H:Hp}{s:Shared}{a:Addr}{y v:V}{u r:Value}{o:Option V}{A:Around}{E:Value→Shared→Prop}
theorem Inv.big(I:Inv X pins σ H s):sysModules<s.heap.objs.size:=by
 have h:mainGlobals<s.heap.objs.size:=(I.mod.glob.keeps I.bk).lt
 exact O9 (by decide) h
theorem Ld{Q:Value→Shared→Prop}(hu:A.units+1<cLine)(I:Inv X pins σ H s)(g:Cr H a y (some v))(ry:RelV y u)(h:∀w' s',Inv X pins σ H s'→RelV v w'→Q w' s') :
  wpAny (model X.prog X.w) A (getItem (.ref a) u) Q E s:=by
 rcases g with ⟨kvs,k,e,ey,l⟩ | ⟨kvs,k,b,e,ey,eb,l⟩
 ·subst ey
  obtain⟨z,hd,vs,rel,dd⟩:=uQ I.hok e
  obtain⟨w',hw,Lb⟩:=uE.some_of (v:=v) (o:=valueAt vs k) (by rw[l];exact rel.val k)
  exact wpAny_getItem_of (yD ry) dd.mapOf hw (h w' _ (I.tok _) Lb)
 ·subst ey
  cases(show u=Value.ref b from ry)
  obtain⟨z,hd,xs,rel,dd⟩:=yF I.hok e
  obtain⟨w',hw,Lb⟩:=uE.some_of (v:=v) (o:=(atKey xs k).map (·.2)) (by rw[l];exact rel.val k)
  obtain⟨p,hp,hp2⟩:=fJ hw
  refine wpAny_getItem_heap (tupleKind_room_in1 hu) (uR I.hok eb) dd hp ?_
  rw[hp2]
  exact h w' _ (I.tok _) Lb
theorem dq{Q:Value→Shared→Prop}(hu:A.units+1<cLine)(I:Inv X pins σ H s)(g:Cr H a y o)(ry:RelV y u)(h:∀s',Inv X pins σ H s'→Q (.bool o.isSome) s') :
  wpAny (model X.prog X.w) A (compareOp .In u (.ref a)) Q E s:=by
 rcases g with ⟨kvs,k,e,ey,l⟩ | ⟨kvs,k,b,e,ey,eb,l⟩
 ·subst ey
  obtain⟨z,hd,vs,rel,dd⟩:=uQ I.hok e
  refine wpAny_in_of (yD ry) hd dd.mapOf ?_
  rw[←(rel.val k).iZ,←l]
  exact h _ (I.tok _)
 ·subst ey
  cases(show u=Value.ref b from ry)
  obtain⟨z,hd,xs,rel,dd⟩:=yF I.hok e
  refine wpAny_in_heap (tupleKind_room_in1 hu) (uR I.hok eb) hd dd ?_
  have q:=(rel.val k).iZ
  rw[Q2]at q
  rw[←q,←l]
  exact h _ (I.tok _)
theorem Vy{Q:Value→Shared→Prop}(hu:A.units+1<cLine)(I:Inv X pins σ H s)(g:Cr H a y o)(ry:RelV y u)(h:∀s',Inv X pins σ H s'→Q (.bool (!o.isSome)) s') :
  wpAny (model X.prog X.w) A (compareOp .NotIn u (.ref a)) Q E s:=by
 rcases g with ⟨kvs,k,e,ey,l⟩ | ⟨kvs,k,b,e,ey,eb,l⟩
 ·subst ey
  obtain⟨z,hd,vs,rel,dd⟩:=uQ I.hok e
  refine wpAny_notIn_of (yD ry) hd dd.mapOf ?_
  rw[←(rel.val k).iZ,←l]
  exact h _ (I.tok _)
 ·subst ey
  cases(show u=Value.ref b from ry)
  obtain⟨z,hd,xs,rel,dd⟩:=yF I.hok e
  refine wpAny_notIn_heap (tupleKind_room_in1 hu) (uR I.hok eb) hd dd ?_
  have q:=(rel.val k).iZ
  rw[Q2]at q
  rw[←q,←l]
  exact h _ (I.tok _)
theorem zT{h':Heap}{t':Nat}{ob:HO}(I:Inv X pins σ H s)(mu:RC (H a))(hs:Heap.SameBut a s.heap h')(he:∃q,h'.get? a=some q)(new:cX X.prog X.w (upd H a ob) h' a ob) :
  Inv X pins σ (upd H a ob) {s with heap:=h',toks:=t'}:=
 I.write (x:=a) (e:=a) mu (.inl rfl) (λb q hb z=>(hs.2 b hb).trans z) he new
theorem Fo{P:Program}{w:World}{H':Hp}{h':Heap}{kvs:List (Key×V)}{vs:List (Key×Value)}(z:kvs.length≤sizeLine)(hd:(a==sysModules)=false)(rel:KV kvs vs)(dd:h'.DictOf (aY P w) a vs) :
  cX P w H' h' a (.dK kvs):=⟨z,hd,vs,rel,dd⟩
theorem Le{H':Hp}{Q:Unit→Shared→Prop}(hu:A.units+1<cLine)(I:Inv X pins σ H s)(g:VD H a y v H')(ry:RelV y u)(rv:RelV v r)(h:∀s',Inv X pins σ H' s'→Q () s') :
  wpAny (model X.prog X.w) A (setItem (.ref a) u r) Q E s:=by
 rcases g with ⟨kvs,k,e,ey,l,eH⟩ | ⟨kvs,k,b,e,ey,eb,l,eH⟩
 ·subst ey eH
  obtain⟨z,hd,vs,rel,dd⟩:=Zg I.hok e
  have hz:vs.length≤sizeLine:=by rw[←rel.length];exact z
  have hl:(putK kvs k v).length≤sizeLine:=by have:=sY kvs k v;omega
  refine wpAny_setItem_pairs (hsz:=hz) (yD ry) dd λh' GK hs=>h _ ?_
  have he:∃q,h'.get? a=some q:=let ⟨q,_,_,hq,_⟩:=GK;⟨q,hq⟩
  exact zT I (by rw[e];exact True.intro) hs he (Fo hl hd (rel.put k rv) GK)
 ·subst ey eH
  cases(show u=Value.ref b from ry)
  obtain⟨z,hd,xs,rel,dd⟩:=VB I.hok e
  have hz:xs.length≤sizeLine:=by rw[←Paired.length rel];exact z
  have hl:(putK kvs k v).length≤sizeLine:=by have:=sY kvs k v;omega
  refine wpAny_setItem_heap (hsz:=hz) (tupleKind_room_in1 hu) (uR I.hok eb) dd λh' GK hs=>h _ ?_
  obtain⟨q,es,ep,hq,h2,h3,h4,_,h5⟩:=GK
  refine zT I (by rw[e];exact True.intro) hs ⟨q,hq⟩ ⟨hl,hd,_,(rel.put k eb rv).keeps λc ys ec=>?_,q,es,ep,hq,h2,h3,h4,h5⟩
  rw[aR (RQ ec e (λz=>nomatch z))]
  exact ec
end
section
variable{X:Cx}{pins:List (Addr×Obj)}{σ:St}{H:Hp}{s:Shared}{a:Addr}{kvs:List (Key×V)}{k:Key}{u:Value}{A:Around}{E:Value→Shared→Prop}
theorem VF{v:V}{more:List Value}{Q:Value→Shared→Prop}(I:Inv X pins σ H s)(e:H a=some (.dK kvs))(ry:RelV (kV k) u)(l:kJ kvs k=some v)(hm:more=[]∨∃x,more=[x])
  (h:∀w' s',Inv X pins σ (upd H a (.dK (uM kvs k))) s'→RelV v w'→Q w' s'):wpAny (model X.prog X.w) A (call (.builtin "dict.pop") (.ref a::u::more)) Q E s:=by
 obtain⟨z,hd,vs,rel,dd⟩:=Zg I.hok e
 obtain⟨w',hw,Lb⟩:=uE.some_of (v:=v) (o:=valueAt vs k) (by rw[←l];exact rel.val k)
 have hp:(keyPart u).isSome=true:=by
  cases k with
  | inl i=>obtain⟨t,q⟩:=(show ∃t,u=Value.int i t from ry);subst q;rfl
  | inr x=>obtain⟨t,q⟩:=(show ∃t,u=Value.str x t from ry);subst q;rfl
 have ha:argsOk "dict.pop" ⟨.ref a::u::more,[]⟩:=by
  rcases hm with q | ⟨x,q⟩
  ·subst q;exact PySem.F.args_dict_pop_2 _ _
  ·subst q;exact PySem.F.args_dict_pop_3 _ _ _
 refine call_meetsIn S3 dd.typeIs PySem.F.entry_dict_pop ha (meets_dict_pop_there (aY X.prog X.w) a (yD ry) more hm hp)
  ⟨vs,w',dd,by rw[←rel.length];exact z,hw,λh' GK hs=>h w' _ ?_ Lb⟩
 have he:∃q,h'.get? a=some q:=let ⟨q,_,_,hq,_⟩:=GK;⟨q,hq⟩
 exact zT I (by rw[e];exact True.intro) hs he (Fo (F8 (Ob kvs k) z) hd (rel.drop k) GK)
end
def GP(i:Expr):Prop:=∀ov iv,subscripted i false ov iv=operate [ov,iv] (getItem ov iv)
theorem Vz{prog:Program}{w:World}{A:Around}{E:Value→Shared→Prop}{s:Shared}{env:Env}{value slice:Expr}{pos:Pos}{T id:String}{Q:Value→Shared→Prop}
  (hl:typeLookup (.type T) "__getitem__" = pure (some (.builtin id))) (hs:GP slice)
  (h:wpAny (model prog w) A (eval value env) (λo s₁=>wpAny (model prog w) A (eval slice env) (λi s₂=>s₂.TypeIs o T∧wpAny (model prog w) A (getItem o i) Q E s₂) E s₁) E s) :
  wpAny (model prog w) A (eval (.Subscript value slice pos) env) Q E s:=by
 refine Subscript_ (wpAny_mono h (λo s₁ h₁=>wpAny_mono h₁ (λi s₂ h₂=>?_) λ_ _ x=>x) λ_ _ x=>x)
 obtain⟨hT,h₂⟩:=h₂
 unfold subscriptTail
 refine wpAny_bind ?_
 rw[getitemInPython_of_ne hT.not_modules]
 refine wpAny_bind (wpAny_specialOf hT hl ?_)
 have fin:wpAny (model prog w) A (subscripted slice false o i) (λr s₃=>wpAny (model prog w) A (letTemporaryGo value o r >>= λ_=>pure r) Q E s₃) E s₂:=by
  rw[hs o i]
  exact wpAny_operating (wpAny_mono h₂ (λr s₃ h₃=>wpAny_bind (wpAny_letTemporaryGo (wpAny_pure h₃))) λ_ _ x=>x)
 first
  | exact wpAny_pure (wpAny_bind fin)
  | exact wpAny_bind (wpAny_pure (wpAny_bind fin))
  | exact wpAny_bind fin
theorem Cu{X:Cx}{pins:List (Addr×Obj)}{σ:St}{H:Hp}{s:Shared}{a:Addr}{y:V}{o:Option V}(I:Inv X pins σ H s)(g:Cr H a y o):s.TypeIs (.ref a) "dict" := by
 rcases g with ⟨kvs,k,e,_,_⟩ | ⟨kvs,k,b,e,_,_,_⟩
 ·obtain⟨_,_,vs,_,dd⟩:=uQ I.hok e
  exact dd.typeIs
 ·obtain⟨_,_,xs,_,dd⟩:=yF I.hok e
  exact dd.typeIs
def Zh(td ty:TE):TE:=λσ H Q=>td σ H λx H1=>ty σ H1 λy H2=>∃a v,x=.ref a∧Cr H2 a y (some v)∧Q v H2
def GQ(ty td:TE):TE:=λσ H Q=>ty σ H λy H1=>td σ H1 λx H2=>∃a o,x=.ref a∧Cr H2 a y o∧Q (.bl o.isSome) H2
def zU(ty td:TE):TE:=λσ H Q=>ty σ H λy H1=>td σ H1 λx H2=>∃a o,x=.ref a∧Cr H2 a y o∧Q (.bl (!o.isSome)) H2
def Ih(td ty tv:TE):TS:=λD σ H=>tv σ H λv H1=>td σ H1 λx H2=>ty σ H2 λy H3=>∃a H4,x=.ref a∧VD H3 a y v H4∧D.nx σ H4
section
variable{X:Cx}{o i e value:Expr}{pos pos' tpos:Pos}{td ty tv:TE}
theorem Wa(hu:X.A.units+1<cLine)(ho:PE X o td)(hi:PE X i ty)(hs:GP i):PE X (.Subscript o i pos) (Zh td ty):=by
 intro pins s σ H Q I h
 refine Vz PySem.F.slot_dict_getitem.lookup hs (dF (ho pins s σ H _ I h) λu s1 ⟨x,H1,I1,rx,q1⟩=>dF (hi pins s1 σ H1 _ I1 q1) λiv s2 ⟨y,H2,I2,ry,a,v,ex,g,q2⟩=>?_)
 subst ex
 obtain rfl:u=Value.ref a:=rx
 exact⟨Cu I2 g,Ld hu I2 g ry λw' s3 I3 Lb=>⟨v,H2,I3,Lb,q2⟩⟩
theorem Oc(hu:X.A.units+1<cLine)(hi:PE X i ty)(ho:PE X o td):PC X .In i o (GQ ty td):=by
 intro pins s σ H Q I h
 refine dF (hi pins s σ H _ I h) λiv s1 ⟨y,H1,I1,ry,q1⟩=>dF (ho pins s1 σ H1 _ I1 q1) λu s2 ⟨x,H2,I2,rx,a,ov,ex,g,q2⟩=>?_
 subst ex
 obtain rfl:u=Value.ref a:=rx
 exact dq hu I2 g ry λs3 I3=>⟨.bl ov.isSome,H2,I3,rfl,q2⟩
theorem yG(hu:X.A.units+1<cLine)(hi:PE X i ty)(ho:PE X o td):PC X .NotIn i o (zU ty td):=by
 intro pins s σ H Q I h
 refine dF (hi pins s σ H _ I h) λiv s1 ⟨y,H1,I1,ry,q1⟩=>dF (ho pins s1 σ H1 _ I1 q1) λu s2 ⟨x,H2,I2,rx,a,ov,ex,g,q2⟩=>?_
 subst ex
 obtain rfl:u=Value.ref a:=rx
 exact Vy hu I2 g ry λs3 I3=>⟨.bl (!ov.isSome),H2,I3,rfl,q2⟩
theorem mW(hu:X.A.units+1<cLine)(ho:PE X o td)(hi:PE X i ty)(hv:PE X value tv)(hs:swapsWith value (some (.Subscript o i pos')) pos.line X.env=pure false) :
  PS X (.Assign [.Subscript o i pos'] value pos) (Ih td ty tv):=by
 intro pins s σ H D I h
 refine wpAny_Assign_Subscript (dF (hv pins s σ H _ I h) λr s1 ⟨v,H1,I1,rv,q1⟩=>dF (ho pins s1 σ H1 _ I1 q1) λu s2 ⟨x,H2,I2,rx,q2⟩=>dF (hi pins s2 σ H2 _ I2 q2) λiv s3 ⟨y,H3,I3,ry,a,H4,ex,g,q3⟩=>?_) hs
 subst ex
 obtain rfl:u=Value.ref a:=rx
 exact Le hu I3 g ry rv λs4 I4=>⟨σ,H4,I4,q3⟩
end
theorem Od{P:Program}{w:World}{H:Hp}(h:Heap)(hb:sysModules<h.objs.size):cX P w H (h.push {cls:=.type "dict", data:=.dict #[]}) h.objs.size (.dK []):=
 ⟨K0 _,beq_eq_false_iff_ne.mpr (Ne.symm (C4 hb)),[],.nil,Heap.DictOf.new h⟩
def Fq:TE:=λ_ H Q=>∀p,H p=none→Q (.ref p) (upd H p (.dK []))
section
variable{X:Cx}{pos:Pos}
theorem Oe:PE X (.Dict [] [] pos) Fq:=λpins s σ H Q I h=>
 wpAny_Dict_empty ⟨.ref s.heap.objs.size,_,I.laid (a:=s.heap.objs.size) (o:=.dK []) (t':=s.toks) (λ_ _ q=>Heap.get?_push_of_some _ q) (B9 _) (Od s.heap I.big),rfl,h _ (I.hok.fresh (B9 _))⟩
end
def Ft:List (TE×TE)→St→Hp→(List (V×V)→Hp→Prop)→Prop
 | [],_,H,Q=>Q [] H
 | (tk,tv)::r,σ,H,Q=>tk σ H λx H1=>tv σ H1 λy H2=>Ft r σ H2 λps H3=>Q ((x,y)::ps) H3
abbrev VV:List (V×V)→List (Value×Value)→Prop:=Paired λp q=>RelV p.1 q.1∧RelV p.2 q.2
def qj(X:Cx)(pos:Pos)(keys:List (Option Expr))(values:List Expr)(ql:List (TE×TE)):Prop:=
 ∀(pins:List (Addr×Obj))(s:Shared)(σ:St)(H:Hp)(Q:List (V×V)→Hp→Prop),Inv X pins σ H s→Ft ql σ H Q →
  wpAny (model X.prog X.w) X.A (evalPairs (pairTrees keys values X.env pos)) (λvs s'=>∃ps H',Inv X pins σ H' s'∧VV ps vs∧Q ps H') X.xe s
structure M1(X:Cx)(o:Expr)(m:Str)(apos:Pos)(e:Expr)(cpos:Pos):Prop where
 base:attributeBase o m X.env (eval o X.env)=eval o X.env
 few:((backTo cpos (starEach [e] X.env)).all (λx=>!x.1)&&(backToKw cpos (keywordEach [] X.env)).all (λx=>x.1.isSome)
  && decide (([e]:List Expr).length+([]:List Keyword).length+(if([]:List Keyword).isEmpty then 0 else 1)<30))=true
 line:(apos.endLine==cpos.line)=true
 trees:backTo cpos (starEach [e] X.env)=[(false,eval e X.env)]
structure M2(X:Cx)(o:Expr)(m:Str)(apos:Pos)(e f:Expr)(cpos:Pos):Prop where
 base:attributeBase o m X.env (eval o X.env)=eval o X.env
 few:((backTo cpos (starEach [e,f] X.env)).all (λx=>!x.1)&&(backToKw cpos (keywordEach [] X.env)).all (λx=>x.1.isSome)
  && decide (([e,f]:List Expr).length+([]:List Keyword).length+(if([]:List Keyword).isEmpty then 0 else 1)<30))=true
 line:(apos.endLine==cpos.line)=true
 trees:backTo cpos (starEach [e,f] X.env)=[(false,eval e X.env),(false,eval f X.env)]
def jn(H:Hp)(a:Addr):Prop:=(∃kvs,Rd H a (.dK kvs))∨∃kvs,Rd H a (.dT kvs)
theorem Og{X:Cx}{pins:List (Addr×Obj)}{σ:St}{H:Hp}{s:Shared}{a:Addr}(I:Inv X pins σ H s)(d:jn H a) :
  s.TypeIs (.ref a) "dict" ∧ (∀b,Value.ref a=.ref b→∃ob,s.heap.get? b=some ob∧ob.dict=none)∧(a==sysModules)=false:=by
 rcases d with ⟨kvs,e⟩ | ⟨kvs,e⟩
 ·obtain⟨_,hd,vs,_,dd⟩:=uQ I.hok e
  refine⟨dd.typeIs,λb q=>?_,hd⟩
  cases q
  obtain⟨ob,_,_,h1,h2,_⟩:=dd
  exact⟨ob,h1,h2.2.1⟩
 ·obtain⟨_,hd,xs,_,dd⟩:=yF I.hok e
  refine⟨dd.typeIs,λb q=>?_,hd⟩
  cases q
  obtain⟨ob,_,_,h1,h2,_⟩:=dd
  exact⟨ob,h1,h2.2.1⟩
section
variable{X:Cx}{pins:List (Addr×Obj)}{σ:St}{H:Hp}{s:Shared}{a:Addr}{y d:V}{u r:Value}{o:Option V}{A:Around}{E:Value→Shared→Prop}
end
def Fv(td ty:TE):TE:=λσ H Q=>td σ H λx H1=>∃a,x=.ref a∧jn H1 a∧ty σ H1 λy H2=>∃kvs k v,H2 a=some (.dK kvs)∧y=kV k∧kJ kvs k=some v∧Q v (upd H2 a (.dK (uM kvs k)))
section
variable{X:Cx}{o e f:Expr}{apos cpos:Pos}{td ty tx:TE}
theorem Oh(ho:PE X o td)(he:PE X e ty)(m:M1 X o "pop" apos e cpos):PE X (.Call (.Attribute o "pop" apos) [e] [] cpos) (Fv td ty):=by
 intro pins s σ H Q I h
 refine wpAny_Call_method m.base m.few m.line R1 S3 PySem.F.type_dict_pop (dF (ho pins s σ H _ I h) λu s1 ⟨x,H1,I1,rx,a,ex,d,q1⟩=>?_)
 subst ex
 obtain rfl:u=Value.ref a:=rx
 obtain⟨t1,t2,_⟩:=Og I1 d
 refine⟨t1,t2,?_⟩
 rw[m.trees]
 refine Calls.callWith_builtin rfl (Calls.evalArgs_plain (Calls.spliced_cons (dF (he pins s1 σ H1 _ I1 q1) λiv s2 ⟨y,H2,I2,ry,kvs,k,v,ea,ey,l,q2⟩=>Calls.spliced_nil ?_)))
 subst ey
 exact VF I2 ea ry l (.inl rfl) λw' s3 I3 Lb=>⟨v,_,I3,Lb,q2⟩
end
section
variable{X:Cx}{pins:List (Addr×Obj)}{σ:St}{H:Hp}{s:Shared}{a:Addr}{kvs:List (Key×V)}{A:Around}{E:Value→Shared→Prop}
end
section
variable{X:Cx}{pins:List (Addr×Obj)}{σ:St}{H:Hp}{s:Shared}{a:Addr}{y:V}{u:Value}{A:Around}{E:Value→Shared→Prop}
end
end L2
namespace Att
open PySem PySem.W PySem.Calls PyProof.Rows
theorem tQ{P:Params}{h:Heap}:∀(ns:List Int)(vs:List Value),WellAll P h vs (ns.map WData.int)→IntsAre vs ns:=by
 intro ns
 induction ns with
 | nil=>
  intro vs w
  rw[F5]at w
  cases w
  exact .nil
 | cons n ns ih=>
  intro vs w
  rw[B5]at w
  cases w with
  | cons a b=>
   cases a
   exact .cons _ _ (ih _ b)
theorem Lf{l:OpenLaw}{n:Nat}(hn:l.most=some n){P:Params}{h:Heap}{args:List WData}{vals:List Value}
  (hpre:l.row.toRowW.claim.pre args=true) (hwl:WellAll P h vals args) :
  ∃a vs ns,vals=[Value.ref a]∧args=[WData.list (ns.map WData.int)]∧h.get? a=some {cls:=.type "list", data:=.seq vs.toArray}∧IntsAre vs ns∧ns.length≤n:=by
 have hsh:WShape.hasAll [] args [.list .int]=true:=(pre_splitW hpre).1
 have hc:l.pre.holds [] {args:=args}=true:=(pre_splitW hpre).2
 obtain⟨d,r,rfl,h1,h2⟩:=hasAllW_cons hsh
 obtain rfl:=hasAllW_nil h2
 obtain⟨xs,rfl,h3⟩:=hasW_list h1
 obtain⟨ns,rfl⟩:=items_int h3
 have hlen:ns.length≤n:=by
  unfold OpenLaw.pre at hc
  have h4:(WTm.not (.lt (.lit (.int (n:Int))) (.len (.arg 0)))).holds [] {args:=[.list (ns.map .int)]}=true:=by
   have h4:=(holds_andW hc).1
   rw[hn]at h4
   exact h4
  have h5:=condW_of h4 (w_not (w_lt w_lit (w_len_list (w_arg rfl))))
  rw[B3]at h5
  refine Nat.le_of_not_lt λq=>?_
  have q':(n:Int)<((ns.length:Nat):Int):=by omega
  first
   | (rw[decide_eq_true q']at h5;exact absurd h5 (by decide))
   | (simp at h5;omega)
 cases hwl with
 | cons w1 w2=>
  cases w2
  cases w1 with
  | list ho hall=>exact⟨_,_,ns,rfl,rfl,ho,tQ ns _ hall,hlen⟩
theorem Lg(l:OpenLaw)(args:List WData):l.row.toRowW.claim.post args (.bool true) args=true:=
 postW_of (r:=l.row.toRowW) (X:=(true==true))
  (show WShape.has [] (.bool true) .bool=true by first | rfl | decide | simp[WShape.has,WShape.arms,WShape.armsAll])
  (show (WTm.eq .res (.lit (.bool true))).value [] {args:=args,res:=some (.bool true),after:=args}=some (.bool (true==true))from w_eq_bool (w_res rfl) w_lit) rfl
section
variable{prog:Program}{w:World}{A:Around}{E:Value→Shared→Prop}{s:Shared}{K:Frag}
end
end Att
namespace L2
open PySem PySem.Spec PyProof.Rows
theorem yH:∀{vs:List Value} {ns:List Int},IntsAre vs ns→Vals (ns.map V.int) vs
 | _,_,.nil=>.nil
 | _,_,.cons n t h=>.cons ⟨t,rfl⟩ (yH h)
def Only(H:Hp):Prop:=∀b,H b=none∨∃o xs,H b=some (.gW o (.lst xs))
theorem Oi{P:Program}{w:World}{K:aA}{mg mb:Str→Option Value}{CX:Ck}{k:Nat}{fa a:Addr}{fd:FuncData}{x:Str}{sp:Sp}{s₁:Shared}{vs:List Value}{ns:List Int}
  (KX:K.In s₁.heap) (hns:s₁.heap.Ns mainGlobals mg) (hb:s₁.heap.Ns builtinsNs mb) (hbb:∀x:Str,x ≠ "__name__" → mb x=bootBuiltins x) (hlim:s₁.heap.NoLimit) (hg:s₁.gens=#[])
  (ha:s₁.heap.get? a=some {cls:=.type "list", data:=.seq vs.toArray}) (hi:IntsAre vs ns) (hl:ns.length≤sizeLine) (hr:fK k callerA)
  (F:∀base:Heap,K.In base→base.Ns mainGlobals mg→pC P w K mg base CX k fa fd [x] sp) (hbind:∀(s:Shared)(u:Value),BindsTo s fd ⟨[u],[]⟩ [(x,u)])
  (hsp:∀H:Hp,Only H→iY K H a (ns.map V.int)→sp [.ref a] H (λv _=>v=.bl true) λ_ _ _=>False)
  (du:∀H e s',CX [] H s₁ (λ_ _ _=>False) e s'→False) :
  codeAny (model P w) callerA (.call (.ref fa) ⟨[.ref a],[]⟩) (λr s'=>r=.ok (.ret (.bool true))∧OldK s₁.heap s'.heap∧s'.os=s₁.os∧AllBare s'.gens) s₁:=by
 have rv:=yH hi
 have lenV:=hi.length
 have core:∀H:Hp,Only H→iY K H a (ns.map V.int)→kZ P w H s₁.heap→(∀b,H b≠none→b=a)→(H a≠none→K.lookup a=none) →
   codeAny (model P w) callerA (.call (.ref fa) ⟨[.ref a],[]⟩) (λr s'=>r=.ok (.ret (.bool true))∧OldK s₁.heap s'.heap∧s'.os=s₁.os∧AllBare s'.gens) s₁:=by
  intro H hO hS hok hA hK
  have Ii:∀{b:Addr} {o:Obj},s₁.heap.get? b=some o→H b=none→(zB s₁.heap H).get? b=some o:=λe n=>Ni e n
  have TV:∀{b:Addr} {o:Obj} {es:Array DictEntry} {ep:Nat},s₁.heap.get? b=some o→o.data=.dict es ep→H b=none:=λ{b o es ep} e d=>by
   cases q:H b with
   | none=>rfl
   | some u=>
    have e':b=a:=hA b (by rw[q];simp)
    subst e'
    rw[ha]at e;cases e
    have d':Data.seq vs.toArray _=Data.dict es ep:=d
    cases d'
  have ZL:∀{b:Addr} {m:Str→Option Value},s₁.heap.Ns b m→(zB s₁.heap H).Ns b m:=λ{b m} ⟨o,es,ep,e,d,r⟩=>⟨o,es,ep,Ii e (TV e d),d,r⟩
  have jo:K.In (zB s₁.heap H):=λb o e=>Ii (KX b o e) (by
   cases q:H b with
   | none=>rfl
   | some u=>
    have e':b=a:=hA b (by rw[q];simp)
    subst e'
    rw[hK (by rw[q];simp)]at e;cases e)
  have hM:Mod K mg (zB s₁.heap H):=⟨jo,ZL hns,⟨mb,ZL hb,hbb⟩,let ⟨mc,h1,h2⟩:=hlim;⟨mc,ZL h1,h2⟩⟩
  have e0:Vp P w K mg (zB s₁.heap H) callerA [] s₁ H:=⟨rfl,hM,λb o e=>Vc e,Nat.le_of_eq (Km _ _),trivial,λb hb=>absurd (show b∈([]:List Addr)from hb) (by simp),hok,.of_eq hg⟩
  refine codeAny_mono ((F _ jo (ZL hns)).run callerA [] s₁ H ⟨[.ref a],[]⟩ [.ref a] [.ref a] _ _ hr e0 (hbind s₁ (.ref a)) (.cons rfl .nil) (hsp H hO hS)) λr s' h=>?_
  cases r with
  | error e=>exact(du H e s' h).elim
  | ok fl=>
   cases fl with
   | next=>exact False.elim h
   | brk=>exact False.elim h
   | cont=>exact False.elim h
   | ret u=>
    obtain⟨v,H',os,bare,un,hok',r',q⟩:=h
    have q':v=.bl true:=q
    subst q'
    obtain rfl:u=Value.bool true:=r'
    refine⟨rfl,OldK.of_keep λb o e=>?_,os,bare⟩
    cases q:H b with
    | none=>exact un.keep b o e q (by intro z;exact absurd (show b∈([]:List Addr)from z) (by simp)) (by simp)
    | some u=>
     rcases hO b with z | ⟨ob,xs,z⟩
     ·rw[q]at z;cases z
     ·have z2:=un.qR b ob _ z
      obtain⟨e1,_⟩:=hok b _ z
      obtain⟨e2,_⟩:=hok' b _ z2
      rw[e]at e1;cases e1
      exact e2
 cases hk:K.lookup a with
 | some o=>
  have e:=KX a o hk
  rw[ha]at e
  cases e
  refine core (λ_=>none) (λ_=>.inl rfl) (.inr ⟨_,vs.toArray,_,hk,rfl,rfl,rfl,by rw[B4,lenV];exact hl,by simpa using rv⟩) (λb u z=>by have z':(none:Option HO)=some u:=z;cases z') (λb z=>absurd rfl z) λz=>absurd rfl z
 | none=>
  refine core (λb=>if b=a then some (.gW {cls:=.type "list", data:=.seq vs.toArray} (.lst (ns.map V.int)))else none) (λb=>?_) (.inl (.inr ⟨{cls:=.type "list", data:=.seq vs.toArray},if_pos rfl⟩)) (λb u z=>?_) (λb z=>?_) λ_=>hk
  ·by_cases hb:b=a
   ·exact .inr ⟨_,_,if_pos hb⟩
   ·exact .inl (if_neg hb)
  ·by_cases hb:b=a
   ·have z':=(if_pos hb).symm.trans z
    cases z'
    subst hb
    exact⟨ha,by rw[B3];exact hl,vs,_,rv,ha⟩
   ·have z':=(if_neg hb).symm.trans z
    cases z'
  ·by_cases hb:b=a
   ·exact hb
   ·exact absurd (if_neg hb) z
end L2
namespace L2
open PySem PySem.Spec PyProof.Rows
end L2
namespace L2
open PySem PySem.Spec PyProof.Rows
def cJ(s:Stmt):Arguments:=match s with
 | .FunctionDef _ a _ _ _ _ _ _ _ _=>a
 | _=>{posonlyargs:=[],args:=[],vararg:=none,kwonlyargs:=[],kw_defaults:=[],kwarg:=none,defaults:=[]}
def bO(s:Stmt):List Stmt:=match s with
 | .FunctionDef _ _ b _ _ _ _ _ _ _=>b
 | _=>[]
def aK(s:Stmt):Scope:=match s with
 | .FunctionDef _ _ _ _ _ _ sc _ _ _=>sc
 | _=>{kind:=.function,names:=[],isGenerator:=false,isCoroutine:=false}
abbrev Lh:Ck:=λ_ _ _ _ _ _=>False
abbrev E0:XK:=λ_ _ _=>False
theorem VG{X:Cx}:Passes Lh X E0:=λ_ _ _ _ _ _ _ h=>h.elim
structure Uw(K:aA)(x qual:Str)(st:Stmt)(f:Addr)(fd:FuncData):Prop where
 ex:∃(oc:Value)(od:Option Addr)(kV doc pm:Value)(an:Option Addr)(cdv ct:Value)(osl:Array (Option Value)),
  fd=F4 x qual (cJ st) (bO st) (aK st) .none kV doc pm an cdv ct∧K.lookup f=some ⟨oc,od,.func fd,osl⟩∧M8 K cdv qual=true
 kp:J7 K (.ref f)=true
section
variable{P:Program}{w:World}{K:aA}{mg:Str→Option Value}{base:Heap}
theorem Uw.ok{x qual:Str}{st:Stmt}{f:Addr}{fd:FuncData}{N ps:List Str}{k:Nat}{sp:Sp}(F:Uw K x qual st f fd)(S:bL N ps (aK st))(len:∀vs H Q E,sp vs H Q E→vs.length=ps.length)
  (hbody:∀(cdv:Value)(A:Around)(outer:List Env)(s:Shared)(H:Hp)(vs:List V)(Q:VK)(E:XK),fK k (A.deeper (envOfC qual (aK st) s.heap.objs.size f cdv))→sp vs H Q E →
   ∃t,xR (dZ Lh P w K mg base N qual (aK st) f cdv A outer s H E).Yz (bO st) t∧t {nx:=λ_ H'=>Q .non H',rt:=Q} (start N vs) H):pC P w K mg base Lh (k+1) f fd ps sp:=by
 obtain⟨oc,od,kV,doc,pm,an,cdv,ct,osl,rfl,lk,hcd⟩:=F.ex
 refine Zd lk hcd S len λA outer s H vs Q E hr hsp=>?_
 obtain⟨t,h,q⟩:=hbody cdv A outer s H vs Q E hr hsp
 exact⟨t,h.Yz,q⟩
theorem Uw.binds{x qual:Str}{st:Stmt}{f:Addr}{fd:FuncData}{ps:List Str}(F:Uw K x qual st f fd)
  (h:∀(kV doc pm:Value)(an:Option Addr)(cdv ct:Value)(us:List Value),us.length=ps.length→bindArgs (F4 x qual (cJ st) (bO st) (aK st) .none kV doc pm an cdv ct) ⟨us,[]⟩=pure (ps.zip us)):Binds K fd ps []:=by
 obtain⟨oc,od,kV,doc,pm,an,cdv,ct,osl,rfl,lk,hcd⟩:=F.ex
 exact .all (h kV doc pm an cdv ct)
theorem GR{x qual:Str}{st:Stmt}{f:Addr}{oc:Value}{od an:Option Addr}{osl:Array (Option Value)}{kV doc pm cdv ct:Value}(l:K.lookup f=some ⟨oc,od,.func (F4 x qual (cJ st) (bO st) (aK st) .none kV doc pm an cdv ct),osl⟩)
  (c:M8 K cdv qual=true) (k:J7 K (.ref f)=true):Uw K x qual st f (F4 x qual (cJ st) (bO st) (aK st) .none kV doc pm an cdv ct):=⟨⟨oc,od,kV,doc,pm,an,cdv,ct,osl,rfl,l,c⟩,k⟩
end
theorem gJ{A:Around}{k:Nat}(hr:fK k A):A.units+1<cLine:=U2 (T4 (by decide:1≤64) _) hr.units
theorem yI{n:Nat}(h:n≤1000):n<sizeLine:=U2 h (by decide)
section
variable{X:Cx}
theorem pv(i:Nat){x:Str}{pos:Pos}(hN:X.N[i]?=some x:=by rfl)(hv:ZF X.env.scope x:=by first | exact F0 rfl | exact D8 (F0 rfl) | exact D8 (D8 rfl))(hd:(x==("__debug__" : Str))=false:=by decide)
  (hcd:(x==("__classdict__" : Str))=false:=by decide):PE X (.Name x pos) (iW i):=CG hN hv hd hcd
end
def aH(H H':Hp):Prop:=∀b o,H b=some o→H' b=some o
theorem aH.refl(H:Hp):aH H H:=λ_ _ h=>h
theorem aH.trans{H H1 H2:Hp}(a:aH H H1)(b:aH H1 H2):aH H H2:=λc o h=>b c o (a c o h)
theorem aH.free{H H':Hp}(e:aH H H'){l:Addr}(h:H' l=X2):H l=X2:=by
 cases q:H l with
 | none=>rfl
 | some o=>
  rw[e l o q]at h
  cases h
theorem aH.seq{K:aA}{H H':Hp}{a:Addr}{xs:List V}(e:aH H H')(h:iY K H a xs):iY K H' a xs:=by
 rcases h with (h | ⟨o,h⟩) | h
 ·exact .inl (.inl (e _ _ h))
 ·exact .inl (.inr ⟨o,e _ _ h⟩)
 ·exact .inr h
section
variable{κ:Type} [DecidableEq κ]
end
end L2


namespace L2
open PySem PySem.Spec PyProof.Rows
theorem oE(env:Env):∀(names:List (Str×NameKind))(acc:List (Str×Addr)),(∀x∈names,x.2=.free→∃c,env.cells.lookup x.1=some c) →
    ∃cl:List (Str×Addr),(forIn names acc (λ(x:Str×NameKind) (r:List (Str×Addr))=>(match x with
      | (name,kind)=>if(kind==.free)=true then do let c ←cellOf env name;pure (ForInStep.yield ((name,c)::r))else pure (ForInStep.yield r):Sem (ForInStep (List (Str×Addr))))))=pure cl ∧
      (∀x c,cl.lookup x=some c→(∃k,(x,k)∈names∧k=.free∧env.cells.lookup x=some c)∨acc.lookup x=some c) ∧
      (∀x,(x,NameKind.free)∈names→∃c,cl.lookup x=some c)∧(∀x c,acc.lookup x=some c→∃c',cl.lookup x=some c')
  | [],acc,_=>⟨acc,rfl,λx c h=>.inr h,λx h=>by simp at h,λx c h=>⟨c,h⟩⟩
  | (n,k)::r,acc,h=>by
    rw[List.forIn_cons]
    by_cases hk:k=.free
    · subst hk
      obtain⟨c,hc⟩:=h (n,.free) D4 rfl
      obtain⟨cl,e,h1,h2,h3⟩:=oE env r ((n,c)::acc) λx hx=>h x (C9 _ hx)
      refine⟨cl,?_,λx d hd=>?_,λx hx=>?_,λx d hd=>?_⟩
      · have e0:cellOf env n=pure c:=by unfold cellOf;rw[hc]
        simp only[beq_self_eq_true,if_true,e0,pure_bind]
        exact e
      · rcases h1 x d hd with ⟨k',m,q⟩ | q
        · exact .inl ⟨k',C9 _ m,q⟩
        · rw[O5]at q
          by_cases e:x==n
          · rw[e]at q
            have e':=eq_of_beq e
            subst e'
            cases q
            exact .inl ⟨.free,D4,rfl,hc⟩
          · have e':(x==n)=false:=by simpa using e
            rw[e']at q
            exact .inr q
      · rcases D6.mp hx with q | q
        · cases q
          exact h3 n c (by simp)
        · exact h2 x q
      · by_cases e:x==n
        · exact h3 x c (by rw[O5,e])
        · have e':(x==n)=false:=by simpa using e
          exact h3 x d (by rw[O5,e'];exact hd)
    · obtain⟨cl,e,h1,h2,h3⟩:=oE env r acc λx hx=>h x (C9 _ hx)
      have hb:(k==NameKind.free)=false:=by simpa using hk
      refine⟨cl,?_,λx d hd=>?_,λx hx=>?_,h3⟩
      · simp only[hb,O1,if_false,pure_bind]
        exact e
      · rcases h1 x d hd with ⟨k',m,q⟩ | q
        · exact .inl ⟨k',C9 _ m,q⟩
        · exact .inr q
      · rcases D6.mp hx with q | q
        · cases q
          exact absurd rfl hk
        · exact h2 x q
theorem xM(scope:Scope)(env:Env)(h:∀x∈scope.names,x.2=.free→∃c,env.cells.lookup x.1=some c) :
    ∃cl,closureFor scope env=pure cl∧(∀x c,cl.lookup x=some c→(x,NameKind.free)∈scope.names∧env.cells.lookup x=some c)∧∀x,(x,NameKind.free)∈scope.names→∃c,cl.lookup x=some c:=by
  obtain⟨cl,e,h1,h2,_⟩:=oE env scope.names [] h
  refine⟨cl,?_,λx c hx=>?_,h2⟩
  · unfold closureFor
    exact(congrArg (λt=>t >>= pure) e).trans (pure_bind _ _)
  · rcases h1 x c hx with ⟨k,m,rfl,q⟩ | q
    · exact⟨m,q⟩
    · simp at q
theorem zV{scope:Scope}{env:Env}(hcell:∀y∈scope.names,y.2≠.cell){x:Str}(h:(relabel scope env).names.lookup x=some .cell∨(relabel scope env).names.lookup x=some .free):(x,NameKind.free)∈scope.names:=by
 have m:(x,NameKind.cell)∈(relabel scope env).names∨(x,NameKind.free)∈(relabel scope env).names:=by
  rcases h with h | h
  ·exact .inl (J9 h)
  ·exact .inr (J9 h)
 unfold relabel at m
 rcases m with m | m
 all_goals
  obtain⟨⟨n,k⟩,hm,e⟩:=G0.mp m
  dsimp only at e
  split at e
  ·rename_i hc
   simp only[J6,beq_iff_eq]at hc
   cases e
   first
    | (rw[hc.1.1]at hm;exact hm)
    | skip
  ·cases e
   first
    | exact hm
    | exact absurd rfl (hcell _ hm)
def gZ(X:Cx)(scope:Scope)(N:List Str)(cl:List (Str×Addr))(fp:List Addr)(s:Shared)(H:Hp)(C:Addr):Cx where
 prog:=X.prog
 w:=X.w
 K:=X.K
 mg:=X.mg
 base:=X.base
 A:=X.A
 N:=N
 s₀:=s
 H₀:=H
 env:=compEnvC scope cl C X.env
 outer:=X.stack
 stack:=X.stack
 ex:=fp
 calm:=X.calm
 fn:=λ_=>false
 pn:=[]
 xe:=λ_ _=>False
def Fw(σ:St)(fr:List Nat):St:=fr.map λi=>σ.getD i none
def blk(k:Nat)(σ:St)(fr:List Nat):St:=D9 k none++Fw σ fr
def Kp(k:Nat)(σ:St)(fr:List Nat)(σ2:St):Prop:=σ2.length=(blk k σ fr).length∧∀(j:Nat) v,(blk k σ fr)[j]?=some (some v)→σ2[j]?=some (some v)
def VH(X:Cx)(ifs:List Expr)(t:TT):Prop:=
 ∀(pins:List (Addr×Obj))(s:Shared)(σ:St)(H:Hp)(Q:Bool→Hp→Prop),Inv X pins σ H s→t σ H Q →
  wpAny (model X.prog X.w) X.A (forIn ifs true λc r=>if r=true then do let ok ←isTrue c X.env (eval c X.env);pure (ForInStep.yield ok)else pure (ForInStep.yield r)) (TP X pins σ Q) X.xe s
def Oj:TT:=λ_ H Q=>Q true H
theorem Wb{X:Cx}:VH X [] Oj:=λ_ _ _ H _ I h=>wpAny_tests_nil ⟨H,I,h⟩
theorem nO{prog:Program}{w:World}{A:Around}{R:Result→Shared→Prop}{s:Shared}{elt target iter:Expr}{ifs:List Expr}{scope:Scope}{pos:Pos}{it acc:Value}{env:Env}(I:Nat→Shared→Prop)
  (turn:∀n s,I n s→wpAny (model prog w) A (pyNext it) (λr s₁=>match r with
   | none=>R (.ok .next) s₁
   | some v=>wpAny (model prog w) A (letOwnedTupleGo target it v) (λ_ s₀=>wpAny (model prog w) A (assign target env v) (λ_ s₂=>
     wpAny (model prog w) A (forIn ifs true λc r=>if r=true then do let ok ←isTrue c env (eval c env);pure (ForInStep.yield ok)else pure (ForInStep.yield r)) (λok s₃=>
      if ok=true then wpAny (model prog w) A (eval elt env) (λx s₄=>
       wpAny (model prog w) A (call (.builtin "list.append") [acc,x]) (λ_ s₅=>∃m,m<n∧I m s₅) (λ_ _=>False) s₄) (λ_ _=>False) s₃
      else ∃m,m<n∧I m s₃) (λ_ _=>False) s₂) (λ_ _=>False) s₀) (λ_ _=>False) s₁) (λ_ _=>False) s)
  (n:Nat) (h:I n s) :
  codeAny (model prog w) A (.compLoop (.ListComp elt [⟨target,iter,ifs,0⟩] scope pos) 0 it acc env) R s:=by
 refine codeAny_loop rfl I (λn s hI=>?_) n h
 show wpAny _ A ((compTurn (.ListComp elt [⟨target,iter,ifs,0⟩] scope pos) 0 it acc env).onRaise (λx=>do noteFrame x env;theTreesLotGoes x)) _ _ s
 refine wpAny_noted ?_
 rw[compTurn_list]
 refine wpAny_mono (E:=λ_ _=>False) ?_ (λ_ _ q=>q) λ_ _ x=>x.elim
 refine wpAny_bind (wpAny_standAt (wpAny_bind (wpAny_mono (turn n s hI) (λr s₁ h₁=>?_) λ_ _ h'=>h')))
 cases r with
 | none=>exact wpAny_pure h₁
 | some v=>
  refine wpAny_bind (wpAny_mono h₁ (λ_ s₀ h₀=>?_) λ_ _ h'=>h')
  refine wpAny_bind (wpAny_mono h₀ (λ_ s₂ h₂=>wpAny_bind (wpAny_mono h₂ (λok s₃ h₃=>?_) λ_ _ h'=>h')) λ_ _ h'=>h')
  cases ok with
  | false=>exact wpAny_pure ⟨rfl,h₃⟩
  | true=>
   exact wpAny_bind (wpAny_bind (wpAny_mono h₃ (λx s₄ h₄=>wpAny_bind (wpAny_mono h₄ (λ_ s₅ h₅=>wpAny_pure (wpAny_pure ⟨rfl,h₅⟩)) λ_ _ h'=>h')) λ_ _ h'=>h'))
def Zi(J:It)(k:Nat)(fr:List Nat)(g:TG)(tc:TT)(te:TE)(σ:St)(H1:Hp)(Q:VK)(D:Addr):Prop:=∃W:Nat→Nat→List V→Hp→Prop,(∃m,W 0 m [] (upd H1 D (.lst []))) ∧
 ∀i m ys H,W i m ys H→H D=some (.lst ys)∧((J.stop i H∧Q (.ref D) H)∨(J.go i H∧∀x H',J.RX i H x H'→g x (blk k σ fr) H' λσ2 H2=>Kp k σ fr σ2∧tc σ2 H2 λok H3=>if ok=true then
  te σ2 H3 λy H4=>H4 D=some (.lst ys)∧ys.length<sizeLine∧∃m',m'<m∧W (i+1) m' (ys++[y]) (upd H4 D (.lst (ys++[y])))else ∃m',m'<m∧W (i+1) m' ys H3))
def Cv(wi:TI)(k:Nat)(fr:List Nat)(g:TG)(tc:TT)(te:TE):TE:=λσ H Q=>wi σ H λJ H1=>∀D,H1 D=none→Zi J k fr g tc te σ H1 Q D
def eN(scope qO:Scope):Scope:=
 {scope with names:=scope.names.map λ(n,k)=>if(k==.free&&qO.kind==.function&&qO.names.lookup n==some .cell)then(n,.cell)else(n,k)}
structure eO(qO scope:Scope)(oN N:List Str)(k:Nat)(fr:List Nat):Prop where
 kind:scope.kind=.function
 cell:∀y∈scope.names,y.2≠.cell
 loc:∀y∈scope.names,y.2=.local→scope.names.lookup y.1=some .local
 free:∀y∈scope.names,y.2=.free→qO.names.lookup y.1=some .cell∨qO.names.lookup y.1=some .free
 len:N.length=k+fr.length
 slots:∀j∈D7 fr.length,oN[fr.getD j 0]?=N[k+j]?
 from_:∀x∈N.drop k,(x,NameKind.free)∈scope.names∧((eN scope qO).names.lookup x=some .cell∨(eN scope qO).names.lookup x=some .free)
def Ol(qO scope:Scope)(oN N:List Str)(k:Nat)(fr:List Nat):Bool:=
 decide (scope.kind=.function)&&decide (∀y∈scope.names,y.2≠.cell)&&decide (∀y∈scope.names,y.2=.local→scope.names.lookup y.1=some .local) &&
 decide (∀y∈scope.names,y.2=.free→qO.names.lookup y.1=some .cell∨qO.names.lookup y.1=some .free)&&decide (N.length=k+fr.length) &&
 decide (∀j∈D7 fr.length,oN[fr.getD j 0]?=N[k+j]?) &&
 decide (∀x∈N.drop k,(x,NameKind.free)∈scope.names∧((eN scope qO).names.lookup x=some .cell∨(eN scope qO).names.lookup x=some .free))
theorem eO.of{qO scope:Scope}{oN N:List Str}{k:Nat}{fr:List Nat}(h:Ol qO scope oN N k fr=true):eO qO scope oN N k fr:=by
 unfold Ol at h
 simp only[J6,decide_eq_true_eq]at h
 obtain⟨⟨⟨⟨⟨⟨h1,h2⟩,h3⟩,h4⟩,h5⟩,h6⟩,h7⟩:=h
 exact⟨h1,h2,h3,h4,h5,h6,h7⟩
section
variable{X:Cx}
theorem Wc{k:Nat}{σ:St}{fr:List Nat}{i:Nat}{v:V}(h:(blk k σ fr)[i]?=some (some v)):∃j o,i=k+j∧fr[j]?=some o∧σ[o]?=some (some v):=by
 unfold blk at h
 by_cases hi:i<k
 ·rw[N9 (by simpa using hi),R0]at h
  rw[if_pos hi]at h
  cases h
 ·rw[P7 (by simpa using hi),S1]at h
  unfold Fw at h
  rw[C5]at h
  cases e:fr[i-k]? with
  | none=>rw[e]at h;cases h
  | some o=>
   rw[e]at h
   refine⟨i-k,o,by omega,e,?_⟩
   have h:some (σ.getD o none)=some (some v):=h
   have h:=F2 h
   rw[B6]at h
   cases e2:σ[o]? with
   | none=>rw[e2]at h;cases h
   | some z=>rw[e2]at h;exact congrArg some h
theorem Fx{pins:List (Addr×Obj)}{σ:St}{H:Hp}{s:Shared}{scope:Scope}{N:List Str}{k:Nat}{fr:List Nat}{cl:List (Str×Addr)}{fp:List Addr}{h₁:Heap}{tk:Nat}{m:Str→Option Value}
    (I:Inv X pins σ H s) (B:eO X.env.scope scope X.N N k fr) (hf:∀b∈fp,zL X pins H b) (hfo:∀b∈fp,b<s.heap.objs.size)
    (hcl:∀x c,cl.lookup x=some c→(x,NameKind.free)∈scope.names∧X.env.cells.lookup x=some c) (Wd:∀x,(x,NameKind.free)∈scope.names→∃c,cl.lookup x=some c)
    (hn:h₁.Ns (s.heap.objs.size+1) m) (hs:Heap.SameBut (s.heap.objs.size+1) ((s.heap.push {cls:=.type "list", data:=.seq ([]:List Value).toArray}).push {cls:=.type "dict", data:=.dict #[]}) h₁) :
    Inv (gZ X scope N cl fp s H (s.heap.objs.size+1)) [] (blk k σ fr) (upd H s.heap.objs.size (.lst [])) {s with heap:=h₁,toks:=tk}:=by
  have I3:=I.UW (ys:=[]) (its:=[]) (t':=tk) .nil (K0 _)
  have hD:H s.heap.objs.size=none:=I.fresh
  have hC:H (s.heap.objs.size+1)=none:=I.hok.fresh (N6 _)
  have RG:∀b o,(s.heap.push {cls:=.type "list", data:=.seq ([]:List Value).toArray}).get? b=some o→b≠s.heap.objs.size+1:=λb o e=>by
    have:=Heap.lt_size e
    rw[Heap.size_push]at this
    exact C4 this
  have Zj:∀b o,(s.heap.push {cls:=.type "list", data:=.seq ([]:List Value).toArray}).get? b=some o→h₁.get? b=some o:=λb o e=>
    hs.extBut b o (RG b o e) (Heap.get?_push_of_some _ e)
  have kept:∀b o,s.heap.get? b=some o→h₁.get? b=some o:=λb o e=>Zj b o (Heap.get?_push_of_some _ e)
  refine⟨⟨I.ok.mod,B.kind,I.ok.glob,I.ok.blt,N6 _,λx y c h1 h2=>I.ok.inj x y c (hcl x c h1).2 (hcl y c h2).2,λx hx=>Wd x (zV B.cell hx),λx c h _=>(nomatch h),
      I.ok.hd,I.ok.frames,.inl rfl,λb hb=>⟨?_,λx c e=>(hf b hb).2.2.2.2.1 x c (hcl x c e).2⟩,λb o e=>I.bs b o e,F8 I.ok.Mx I.sz,λb o e hb=>?_,λb hb hb2=>?_,I.stack,I.zH⟩,
    rfl,I.bare,Un.laid kept (B9 _) hD,⟨m,hn,λi x v h1 h2 h3=>?_⟩,λx c e=>?_,?_,λx c e=>?_,λp hp=>absurd (show p∈([]:List (Addr×Obj))from hp) (by simp),?_,?_⟩
  · exact C4 (J0 (hfo b hb))
  · rcases(hf b hb).2.2.2.1 with z | z
    · exact I.ok.zF b o e z
    · exact absurd (C3 (Heap.lt_size e) (F8 I.ok.Mx z)) (G1 _)
  · rcases D6.mp (I.zG b hb2)with z | z
    · exact(hf b hb).2.1 z
    · exact(hf b hb).2.2.1 z
  · obtain⟨j,o,rfl,h4,h5⟩:=Wc h2
    have h1:N[k+j]?=some x:=h1
    have hj:j<fr.length:=(B8.mp h4).1
    have hx:X.N[o]?=some x:=by
      have q:=B.slots j (K5.mpr hj)
      rw[B6,h4]at q
      exact q.trans h1
    obtain⟨hfr,qm⟩:=B.from_ x (F9 (i:=j) (by rw[P6];exact h1))
    have hk:=B.free _ hfr rfl
    obtain⟨m0,hn0,hl0⟩:=I.loc
    have hv:ZF X.env.scope x:=by
      rcases hk with q | q
      · exact .inr (.inl q)
      · exact .inr (.inr q)
    obtain⟨u,r,l⟩:=hl0 o x v hx h5 hv
    refine⟨u,r,.inr ?_⟩
    rcases l with ⟨q,_⟩ | ⟨_,c,e,z⟩
    · rcases hk with q' | q'
      · exact absurd (q.symm.trans q') (by intro z;cases z)
      · exact absurd (q.symm.trans q') (by intro z;cases z)
    · obtain⟨c',e'⟩:=Wd x hfr
      have e2:=(hcl x c' e').2
      rw[e]at e2
      cases e2
      refine⟨qm,c,e',?_⟩
      obtain⟨oc,hoc,hd⟩:=z
      exact⟨oc,kept c oc hoc,hd⟩
  · obtain⟨v,oc,hoc,hd⟩:=I.cell x c (hcl x c e).2
    exact⟨v,oc,kept c oc hoc,hd⟩
  · show upd H s.heap.objs.size (.lst []) (s.heap.objs.size+1)=none
    rw[aR (O7 (V3 _))]
    exact hC
  · have hc:=(hcl x c e).2
    obtain⟨v,oc,hoc,hd⟩:=I.cell x c hc
    show upd H s.heap.objs.size (.lst []) c=none
    rw[aR (C4 (Heap.lt_size hoc))]
    exact I.gC x c hc
  · exact kZ.kept I3.hok Zj
  · show (blk k σ fr).length=N.length
    rw[B.len]
    unfold blk Fw
    simp
theorem Om{tg elt iter:Expr}{ifs:List Expr}{scope:Scope}{pos:Pos}{N:List Str}{k:Nat}{fr:List Nat}{g:TG}{tc:TT}{te:TE}{cl:List (Str×Addr)}{pins:List (Addr×Obj)}{σ:St}{H:Hp}{s:Shared}{it:Addr}{fp:List Addr}{tn:Nat→Heap→Prop}{J:It}{Q:VK}
    {RR:Value→Addr→Result→Shared→Prop} {E:Value→Shared→Prop} (hcalm:X.calm=true) (I:Inv X pins σ H s) (T:Turn X.prog X.w X.K tg J fp it tn) (st:tn 0 s.heap) (hf:∀b∈fp,zL X pins H b) (B:eO X.env.scope scope X.N N k fr)
    (hcl:∀x c,cl.lookup x=some c→(x,NameKind.free)∈scope.names∧X.env.cells.lookup x=some c) (Wd:∀x,(x,NameKind.free)∈scope.names→∃c,cl.lookup x=some c)
    (hg:∀cl fp s H C,PG (gZ X scope N cl fp s H C) tg g) (hc:∀cl fp s H C,VH (gZ X scope N cl fp s H C) ifs tc) (he:∀cl fp s H C,PE (gZ X scope N cl fp s H C) elt te)
    (hw:∀D,H D=none→Zi J k fr g tc te σ H Q D)
    (hRR:∀D C m s' H',s'.heap.Ns C m→s.heap.objs.size≤C→H' C=none→C≠D→Inv X pins σ H' s'→Q (.ref D) H'→RR (.ref D) C (.ok .next) s') :
    wpAny (model X.prog X.w) X.A (newList []) (λacc s₃=>wpAny (model X.prog X.w) X.A (newFunctionEnv scope X.env.globals cl [] X.env.qual none .none (some X.env)) (λcenv s₄=>
      codeAny (model X.prog X.w) X.A (.compStart (.ListComp elt [⟨tg,iter,ifs,0⟩] scope pos) 0 (.ref it) acc {cenv with scope:=relabel scope X.env}) (RR acc cenv.locals) s₄) E s₃) E s:=by
  refine wpAny_newObj_type (wpAny_newFunctionEnv B.cell (by intro y hy;simp at hy) (λh₁ hns₁ hsb₁=>?_) B.kind)
  dsimp only at hns₁ hsb₁ ⊢
  rw[Heap.size_push]at hns₁ hsb₁ ⊢
  have hfo:∀b∈fp,b<s.heap.objs.size:=λb hb=>by
    obtain⟨o,e,_⟩:=T.obj 0 _ st b hb
    exact Heap.lt_size e
  have I4:=Fx (tk:=s.toks+([]:List (Str×Value)).length) I B hf hfo hcl Wd hns₁ hsb₁
  generalize hD:s.heap.objs.size=D at *
  have qp:H D=none:=by rw[←hD];exact I.fresh
  obtain⟨W,⟨m0,w0⟩,turn⟩:=hw D qp
  have st1:tn 0 h₁:=T.keep 0 _ _ st λb hb o e=>hsb₁.extBut b o (C4 (J0 (by have:=hfo b hb;exact this))) (Heap.get?_push_of_some _ (Heap.get?_push_of_some _ e))
  have qt:∀b∈fp,(upd H D (.lst [])) b=none:=λb hb=>by
    rw[aR (C4 (hfo b hb))]
    exact(hf b hb).1
  generalize hX':gZ X scope N cl fp s H (D+1)=X' at I4
  have stat:∀{H':Hp},(∀b∈fp,H' b=none)→∀b∈fp,zL X' [] H' b:=λ{H'} hn b hb=>by
    subst hX'
    refine⟨hn b hb,?_,λz=>?_,.inl hb,λx c e=>(hf b hb).2.2.2.2.1 x c (hcl x c e).2,λp hp=>absurd (show p∈([]:List (Addr×Obj))from hp) (by simp)⟩
    · exact C4 (J0 (hfo b hb))
    · rcases D6.mp (I.zG b z)with z | z
      · exact(hf b hb).2.1 z
      · exact(hf b hb).2.2.1 z
  have loop:∀s₃:Shared,s₃={s with heap:=h₁,toks:=s.toks+([]:List (Str×Value)).length} →
      codeAny (model X.prog X.w) X.A (.compLoop (.ListComp elt [⟨tg,iter,ifs,0⟩] scope pos) 0 (.ref it) (.ref D) (compEnvC scope cl (D+1) X.env)) (RR (.ref D) (D+1)) s₃:=by
    rintro s₃ rfl
    refine nO (λn s'=>∃i ys H',Inv X' [] (blk k σ fr) H' s'∧tn i s'.heap∧(∀b∈fp,H' b=none)∧W i n ys H') ?_ m0 ⟨0,[],_,I4,st1,qt,w0⟩
    rintro n s5 ⟨i,ys,H5,I5,st5,fr5,w5⟩
    obtain⟨hys,way⟩:=turn i n ys H5 w5
    have e1:X'.prog=X.prog:=by rw[←hX'];rfl
    have e2:X'.w=X.w:=by rw[←hX'];rfl
    have e3:X'.K=X.K:=by rw[←hX'];rfl
    have e4:X'.A=X.A:=by rw[←hX'];rfl
    have e5:X'.calm=true:=by rw[←hX'];exact hcalm
    have e6:X'.env=compEnvC scope cl (D+1) X.env:=by rw[←hX'];rfl
    have e7:X'.xe=λ_ _=>False:=by rw[←hX'];rfl
    rcases way with ⟨stop,q⟩ | ⟨go,step⟩
    · have d:=T.done X' e1 e2 e3 e5 i [] s5 _ H5 (λ_ _=>False) I5 (stat fr5) st5 stop
      rw[e4]at d
      refine dF d λr s6 ⟨hr,I6⟩=>?_
      subst hr
      subst hX'
      obtain⟨m6,qu,_⟩:=I6.loc
      refine hRR D (D+1) m6 s6 H5 qu (N6 _) I6.free (O7 (V3 _)) ?_ q
      exact I.call' I6.os I6.base I6.hok I6.bare λb hb=>⟨(hf b hb).2.2.2.1,(hf b hb).2.1,(hf b hb).2.2.2.2.1,(hf b hb).2.2.2.2.2⟩
    · have d:=T.item X' e1 e2 e3 e5 i [] s5 _ H5 (λ_ _=>False) I5 (stat fr5) st5 go
      rw[e4]at d
      refine dF d λr s6 ⟨u,hr,h6⟩=>?_
      subst hr
      refine dF h6 λ_ s7 ⟨x,H7,I7,r7,y7,st7,fr7⟩=>?_
      have qw:=I7.pinned (stat fr7) (T.obj _ _ st7)
      have hg':PG X' tg g:=by rw[←hX'];exact hg _ _ _ _ _
      have hc':VH X' ifs tc:=by rw[←hX'];exact hc _ _ _ _ _
      have he':PE X' elt te:=by rw[←hX'];exact he _ _ _ _ _
      have a1:=hg' _ s7 _ H7 x u _ qw r7 (step x H7 y7)
      rw[e1,e2,e4,e6,e7]at a1
      refine dF a1 λ_ s8 ⟨σ8,H8,I8,⟨kl,kk⟩,q8⟩=>?_
      have a2:=hc' _ s8 σ8 H8 _ I8 q8
      rw[e1,e2,e4,e6,e7]at a2
      refine dF a2 λok s9 ⟨H9,I9,q9⟩=>?_
      have again:∀{Ha:Hp} {ya:List V} {sa:Shared},Inv X' ([]++uJ fp s7.heap) σ8 Ha sa→(∃m',m'<n∧W (i+1) m' ya Ha) →
          ∃m,m<n∧∃i ys H',Inv X' [] (blk k σ fr) H' sa∧tn i sa.heap∧(∀b∈fp,H' b=none)∧W i m ys H':=λ{Ha ya sa} Ia ⟨m',hm,w'⟩=>by
        refine⟨m',hm,i+1,ya,Ha,(Ia.weak kl.symm kk).pB,T.keep _ _ _ st7 λb hb o e=>(Ia.pin (b,o) (C8 _ (C8 _ (jR hb e)))).1,λb hb=>?_,w'⟩
        obtain⟨o,e,d⟩:=T.obj _ _ st7 b hb
        exact(Ia.pin (b,o) (C8 _ (C8 _ (jR hb e)))).2.1
      cases ok with
      | false=>exact again I9 q9
      | true=>
        have a3:=he' _ s9 σ8 H9 _ I9 q9
        rw[e1,e2,e4,e6,e7]at a3
        show wpAny _ _ _ _ _ s9
        refine dF a3 λv qy ⟨y,H10,I10,r10,hD10,hz,q10⟩=>?_
        have a4:=yC (X:=X') _ qy σ8 H10 (.ref D) [y] (.ref D) [v] (λ_ jq=>jq=upd H10 D (.lst (ys++[y]))) I10 rfl (.cons r10 .nil) ⟨D,ys,y,rfl,rfl,hD10,hz,rfl⟩
        rw[e1,e2,e4,e7]at a4
        refine dF a4 λ_ xr ⟨_,jq,I11,_,e11⟩=>?_
        subst e11
        exact again I11 q10
  exact codeAny_compStart_list (loop _ rfl) (T.self _ 0 _ _ _ st1 (loop _ rfl))
theorem We{tg elt iter:Expr}{ifs:List Expr}{scope:Scope}{pos:Pos}{wi:TI}{g:TG}{tc:TT}{te:TE}(N:List Str)(k:Nat)(fr:List Nat)(hcalm:X.calm=true)(B:eO X.env.scope scope X.N N k fr)(hi:PI X tg iter wi)
  (hg:∀cl fp s H C,PG (gZ X scope N cl fp s H C) tg g) (hc:∀cl fp s H C,VH (gZ X scope N cl fp s H C) ifs tc) (he:∀cl fp s H C,PE (gZ X scope N cl fp s H C) elt te)
  (hs:∀x,foldedSetIterable iter X.env x=pure x:=by intro _;rfl):PE X (.ListComp elt [⟨tg,iter,ifs,0⟩] scope pos) (Cv wi k fr g tc te):=by
 intro pins s σ H Q I h
 obtain⟨cl,e,h1,h2⟩:=xM scope X.env λy hy hk=>I.ok.has y.1 (B.free y hy hk)
 rw[eval_ListComp]
 refine wpAny_comprehension_free (use:=none) rfl hs e B.kind B.loc (wpAny_mono (hi pins s σ H _ I h) (λxv s₁ q₁=>wpAny_mono q₁ (λitv s₂ q₂=>?_) λ_ _ x=>x) λ_ _ x=>x)
 obtain⟨it,fp,tn,J,H2,rfl,I2,T,st2,f2,hw⟩:=q₂
 refine Om (Q:=Q) (RR:=λacc C=>compPost (model X.prog X.w) X.A X.xe none (EP X pins σ Q) acc C) hcalm I2 T st2 f2 B h1 h2 hg hc he hw ?_
 intro D C m s' H' hn hC hf hne I' q
 refine⟨m,hn,λh' hs'=>⟨.ref D,H',?_,rfl,q⟩⟩
 exact I'.turned (t':=s'.toks) (λb o hb eb=>(hs'.2 b hb).trans eb) hf (O7 (C3 I2.lt hC)) (.inr (F8 I2.sz hC)) (λx c ec z=>by
  obtain⟨v,q⟩:=I2.cell x c ec
  exact absurd (C3 q.lt (by rw[z];exact hC)) (G1 _)) λp hp z=>absurd (C3 (Heap.lt_size (I2.pin p hp).1) (by rw[z];exact hC)) (G1 _)
end
end L2


set_option maxHeartbeats 4000000
namespace L2
open PySem PySem.Spec PyProof.Rows
def GX(J:It)(P:Hp→Prop)(xs:List V):Prop:=
 ∀i H,P H→(i<xs.length→J.go i H)∧(∀x H',J.RX i H x H'→H'=H∧(i<xs.length→xs[i]?=some x))∧(xs.length≤i→J.stop i H)
theorem Cw{K:aA}{a:Addr}{xs:List V}:GX (bw K a) (λH=>iY K H a xs) xs:=λi H hq=>
 ⟨λh=>⟨xs,xs[i],hq,by simp[h]⟩,λx H' ⟨e,y⟩=>⟨e,λ_=>y xs hq⟩,λh=>⟨xs,hq,h⟩⟩
theorem Wf{K:aA}{a:Addr}{xs:List V}:GX (cg K a) (λH=>lB K H a xs) xs:=λi H hq=>
 ⟨λh=>⟨xs,xs[i],hq,by simp[h]⟩,λx H' ⟨e,y⟩=>⟨e,λ_=>y xs hq⟩,λh=>⟨xs,hq,h⟩⟩
section
variable{X:Cx}
theorem Wg{scope:Scope}{N:List Str}{x:Str}{pos:Pos}(hN:N.Nodup)(hi:N[0]?=some x)(hx:(eN scope X.env.scope).names.lookup x=some .local) :
  ∀cl fp s H C,PG (gZ X scope N cl fp s H C) (.Name x pos) (cO 0):=λ_ _ _ _ _=>iM hN hi (F0 hx) (D8 hx)
theorem Inv.freeze{pins:List (Addr×Obj)}{σ:St}{H:Hp}{s:Shared}{a:Addr}{u:HO}{o:Obj}(I:Inv X pins σ H s)(e:H a=some u)(mu:RC (H a))(ho:s.heap.get? a=some o):Inv X pins σ (upd H a (.gW o u)) s:=by
 have n0:∀b,H b=none→upd H a (.gW o u) b=none:=λb hb=>by rw[aR (Ne.symm (cP e hb))];exact hb
 refine⟨I.ok,I.os,I.bare,⟨I.base.keep,I.base.slot,λb ob h n hx=>n0 b (I.base.free b ob h n hx),I.base.there,λb xs h=>?_,λb ob w h=>?_,λb ps h=>?_⟩,I.loc,I.cell,n0 _ I.free,λx c h=>n0 _ (I.gC x c h),λp hp=>?_,?_,I.len⟩
 ·have q:=I.base.tups b xs h
  rw[aR (λz=>by rw[z,e]at q;rw[e]at mu;cases q;exact mu)]
  exact q
 ·have q:=I.base.qR b ob w h
  rw[aR (λz=>by rw[z,e]at q;rw[e]at mu;cases q;exact mu)]
  exact q
 ·obtain⟨more,q⟩:=I.base.tL b ps h
  exact⟨more,by rw[aR (λz=>by rw[z,e]at q;rw[e]at mu;cases q;exact mu)];exact q⟩
 ·obtain⟨h1,h2,h3⟩:=I.pin p hp
  exact⟨h1,n0 _ h2,h3⟩
 ·have Nh:∀c y,H c=some (.own y)→c≠a:=λc y r z=>by rw[z,e]at r;rw[e]at mu;cases r;exact mu
  have Vb:∀c xs,H c=some (.tup xs)→c≠a:=λc xs r z=>by rw[z,e]at r;rw[e]at mu;cases r;exact mu
  intro b v q
  by_cases hb:b=a
  ·subst hb
   rw[bB]at q
   cases q
   exact⟨ho,(I.hok b u e).stay (λc v _ q=>q) (λc r=>by rw[aR (Nh c b r)];exact r) λc xs r=>by rw[aR (Vb c xs r)];exact r⟩
  ·rw[aR hb]at q
   exact(I.hok b v q).stay (λc v _ q=>q) (λc r=>by rw[aR (Nh c b r)];exact r) λc xs r=>by rw[aR (Vb c xs r)];exact r
def ZM(a:Addr)(o:Obj)(kvs:List (Key×V)):It:=
 ⟨λi H=>H a=some (.gW o (.dK kvs))∧i<kvs.length,λi H x H'=>H'=H∧(kvs[i]?).map (λkv=>kV kv.1)=some x,λi H=>H a=some (.gW o (.dK kvs))∧kvs.length≤i⟩
theorem Oo{a:Addr}{o:Obj}{kvs:List (Key×V)}:GX (ZM a o kvs) (λH=>H a=some (.gW o (.dK kvs))) (kvs.map λkv=>kV kv.1):=λi H hq=>
 ⟨λh=>⟨hq,by simpa using h⟩,λx H' ⟨e,y⟩=>⟨e,λ_=>by rw[C5];exact y⟩,λh=>⟨hq,by simpa using h⟩⟩
theorem Ij{P:Program}{w:World}{k:Key}{v:Value}(h:(aY P w).is k v=true):RelV (kV k) v:=by
 rcases bV (k:=k) (v:=v) h with ⟨i,t,rfl,rfl⟩ | ⟨x,t,rfl,rfl⟩
 ·exact⟨t,rfl⟩
 ·exact⟨t,rfl⟩
theorem Ik{P:Program}{w:World}{o:Obj}{kvs:List (Key×Value)}{a:Addr}{h:Heap}(d:h.DictOf (aY P w) a kvs)(ho:h.get? a=some o):∃es ep,o.ExactDict∧o.data=.dict es ep∧KeysOf (aY P w) es∧Pairs (aY P w) es.toList kvs∧(kvs.map (·.1)).Nodup:=by
 obtain⟨o',es,ep,ho',r⟩:=d
 rw[ho]at ho'
 cases ho'
 exact⟨es,ep,r⟩
theorem Li{P:Program}{w:World}{K:aA}{tg:Expr}(a it:Addr)(o:Obj)(kvs:List (Key×V))(ep:Nat)(jr:∃es,o.data=.dict es ep)(hne:a≠it) :
  Turn P w K tg (ZM a o kvs) [it] it (λi h=>h.IsKeyIter it a i kvs.length ep) where
 mem:=by simp
 obj:=λi h st b hb=>by
  have e:b=it:=by simpa using hb
  subst e
  obtain⟨ob,ho,hc,hd⟩:=st
  exact⟨ob,ho,λv z=>by rw[hd]at z;cases z⟩
 keep:=λi h h' st k=>by
  obtain⟨ob,ho,r⟩:=st
  exact⟨ob,k it (by simp) _ ho,r⟩
 item:=by
  intro X hP hw hK hc i pins s σ H E I hf st hg
  subst hP hw hK
  obtain⟨f0,f1,f2,f3,f4,f5⟩:=hf it (by simp)
  obtain⟨hq,hlt⟩:=hg
  obtain⟨ho,hz,hsm,vs,rel,dd⟩:=I.hok a _ hq
  obtain⟨es,ep',r1,r2,r3,r4,r5⟩:=Ik dd ho
  obtain⟨qz,e0⟩:=jr
  rw[e0]at r2
  cases r2
  have hl:=KV.length rel
  have dat:s.heap.DictAt (aY X.prog X.w) a vs ep:=⟨o,_,ho,r1,e0,r3,r4,r5⟩
  obtain⟨⟨k,x⟩,hx⟩:∃p,vs[i]?=some p:=⟨vs[i]'(by omega),by simp⟩
  refine wpAny_pyNext_dict_item (by rw[←hl];exact st) dat hx λkey h' hkey hit' hs'=>?_
  have I1:Inv X pins σ H {s with heap:=h',toks:=s.toks}:=I.turned (λb o hb e=>(hs'.2 b hb).trans e) f0 f1 f3 f4 f5
  have hit2:=hit'
  obtain⟨ob,hob,hcl,hdt⟩:=hit2
  refine⟨_,rfl,Nq (s:={s with heap:=h',toks:=s.toks}) (n := "dict_keyiterator") hob hcl hdt (by decide) ⟨kV k,H,I1,Ij hkey,⟨rfl,?_⟩,by rw[hl];exact hit',λb hb=>(hf b hb).1⟩⟩
  have ek:=KV.keys rel
  have e1:(kvs.map (·.1))[i]?=(vs.map (·.1))[i]?:=by rw[ek]
  rw[C5,C5,hx]at e1
  cases e2:kvs[i]? with
  | none=>rw[e2]at e1;cases e1
  | some p=>
   rw[e2]at e1
   have e3:p.1=k:=F2 e1
   show some (kV p.1)=some (kV k)
   rw[e3]
 done:=by
  intro X hP hw hK hc i pins s σ H E I hf st hg
  subst hP hw hK
  obtain⟨f0,f1,f2,f3,f4,f5⟩:=hf it (by simp)
  obtain⟨hq,hle⟩:=hg
  obtain⟨ho,hz,hsm,vs,rel,dd⟩:=I.hok a _ hq
  obtain⟨es,ep',r1,r2,r3,r4,r5⟩:=Ik dd ho
  obtain⟨qz,e0⟩:=jr
  rw[e0]at r2
  cases r2
  have hl:=KV.length rel
  have dat:s.heap.DictAt (aY X.prog X.w) a vs ep:=⟨o,_,ho,r1,e0,r3,r4,r5⟩
  refine wpAny_pyNext_dict_end (I.ok.hd hc) (by rw[←hl];exact st) dat (by simp;omega) λh' he'=>⟨rfl,I.turned (t':=s.toks) (λb o hb e=>he' b o hb e) f0 f1 f3 f4 f5⟩
 self:=λ_ _ _ _ _ st h=>wpAny_pyIter_keyiter st h
def Oq(tl:TE):TI:=λσ H R=>tl σ H λx H1=>∃a kvs,x=.ref a∧H1 a=some (.dK kvs)∧∀o,R (ZM a o kvs) (upd H1 a (.gW o (.dK kvs)))
theorem Wh{tg l:Expr}{tl:TE}(hl:PE X l tl):PI X tg l (Oq tl):=by
 intro pins s σ H R I h
 refine dF (hl pins s σ H _ I h) λv s1 ⟨x,H1,I1,r1,q1⟩=>?_
 obtain⟨a,kvs,rfl,hq,q⟩:=q1
 cases r1
 obtain⟨hz,hsm,vs,rel,dd⟩:=I1.hok a _ hq
 obtain⟨ep,hat⟩:=dd.dictAt
 obtain⟨o,es,ho,r1,r2,r3⟩:=id hat
 have I2:=I1.freeze hq (by rw[hq];exact trivial) ho
 refine wpAny_pyIter_dict hsm hat ?_
 have hne:a≠s1.heap.objs.size:=C4 (Heap.lt_size ho)
 refine⟨s1.heap.objs.size,[s1.heap.objs.size],_,_,_,rfl,I2.kept (t':=s1.toks) λb o e=>Heap.get?_push_of_some _ e,Li a _ o kvs ep ⟨es,r2⟩ hne,⟨_,Heap.get?_push_size _ rfl,rfl,by rw[KV.length rel];rfl⟩,λb hb=>?_,q o⟩
 have e:b=s1.heap.objs.size:=by simpa using hb
 subst e
 exact I2.DN (B9 _) (I2.hok.fresh (B9 _))
theorem Il{J:It}{P:Hp→Prop}{xs:List V}(hJ:GX J P xs){g:TG}{tb:TS}{D:Ends}{σ:St}{H:Hp}(Pv:Nat→St→Hp→Prop)(h0:Pv 0 σ H)(hl:∀i σ H,i≤xs.length→Pv i σ H→P H)
  (hs:∀i x σ H,xs[i]?=some x→Pv i σ H→g x σ H λσ2 H2=>tb {D with nx:=Pv (i+1),ct:=Pv (i+1),bk:=D.nx} σ2 H2) (hd:∀σ H,Pv xs.length σ H→D.nx σ H) :
  ∃W:Nat→Nat→St→Hp→Prop,(∃m,W 0 m σ H)∧∀i m σ H,W i m σ H →
   (J.stop i H∧D.nx σ H)∨(J.go i H∧∃N:St→Hp→Prop,(∀σ' H',N σ' H'→∃m',m'<m∧W (i+1) m' σ' H')∧∀x H',J.RX i H x H'→g x σ H' λσ2 H2=>tb {D with nx:=N,ct:=N,bk:=D.nx} σ2 H2):=by
 refine⟨λi m σ H=>m=xs.length-i∧i≤xs.length∧Pv i σ H,⟨xs.length,by simp,K0 _,h0⟩,?_⟩
 rintro i m σ H ⟨rfl,hi,p⟩
 obtain⟨j1,j2,j3⟩:=hJ i H (hl i σ H hi p)
 by_cases hlt:i<xs.length
 ·refine .inr ⟨j1 hlt,Pv (i+1),λσ' H' p'=>⟨xs.length-(i+1),by omega,rfl,hlt,p'⟩,λx H' y=>?_⟩
  obtain⟨e,ex⟩:=j2 x H' y
  subst e
  exact hs i x σ _ (ex hlt) p
 ·have e:i=xs.length:=by omega
  subst e
  exact .inl ⟨j3 (B9 _),hd σ H p⟩
end
end L2


namespace L2
open PySem PySem.Spec PyProof.Rows
section
variable{X:Cx}
end
inductive DV where
  | int (i:Int) | non | lst (ds:List DV) | tup (ds:List DV)
mutual
def Reads(K:aA)(H:Hp):DV→V→Prop
 | .int i,x=>x=.int i
 | .non,x=>x=.non
 | .lst ds,x=>∃a xs,x=.ref a∧iY K H a xs∧bG K H ds xs
 | .tup ds,x=>∃a xs,x=.ref a∧lB K H a xs∧bG K H ds xs
def bG(K:aA)(H:Hp):List DV→List V→Prop
 | [],xs=>xs=[]
 | d::ds,xs=>∃y ys,xs=y::ys∧Reads K H d y∧bG K H ds ys
end
mutual
def DV.depth:DV→Nat
 | .int _=>0
 | .non=>0
 | .lst ds=>dR ds+1
 | .tup ds=>dR ds+1
def dR:List DV→Nat
 | []=>0
 | d::ds=>max d.depth (dR ds)
end
theorem bG.length{K:aA}{H:Hp}:∀{ds:List DV} {xs:List V},bG K H ds xs→xs.length=ds.length
 | [],xs,h=>by
  unfold bG at h
  rw[h]
  rfl
 | d::ds,xs,h=>by
  unfold bG at h
  obtain⟨y,ys,rfl,_,h2⟩:=h
  simp[bG.length h2]
theorem bG.get{K:aA}{H:Hp}:∀{ds:List DV} {xs:List V} {i:Nat} {d:DV},bG K H ds xs→ds[i]?=some d→∃x,xs[i]?=some x∧Reads K H d x
 | [],xs,i,d,h,e=>by simp at e
 | d'::ds,xs,0,d,h,e=>by
  unfold bG at h
  obtain⟨y,ys,rfl,h1,_⟩:=h
  simp at e
  subst e
  exact⟨y,rfl,h1⟩
 | d'::ds,xs,i+1,d,h,e=>by
  unfold bG at h
  obtain⟨y,ys,rfl,_,h2⟩:=h
  obtain⟨x,e1,e2⟩:=bG.get h2 (by simpa using e)
  exact⟨x,by simpa using e1,e2⟩
theorem uT:∀{ds:List DV} {i:Nat} {d:DV},ds[i]?=some d→d.depth≤dR ds
 | [],i,d,e=>by simp at e
 | d'::ds,0,d,e=>by
  simp at e
  subst e
  unfold dR
  exact Nat.le_max_left _ _
 | d'::ds,i+1,d,e=>by
  have:=uT (ds:=ds) (i:=i) (d:=d) (by simpa using e)
  unfold dR
  exact F8 this (Nat.le_max_right _ _)
theorem uU(A:Around):A.in1.units=A.units+1:=rfl
section
open SeqAt
open Classical in
noncomputable def pF(d e:DV):Bool:=decide (d=e)
theorem pG{d e:DV}:pF d e=true↔d=e:=by unfold pF;simp
theorem lF(d:DV):pF d d=true:=pG.mpr rfl
theorem cQ{d e:DV}(h:d≠e):pF d e=false:=by unfold pF;simp[h]
theorem Wi(a b:Int):pF (.int a) (.int b)=(a==b):=by
 by_cases h:a=b
 ·subst h;simp[lF]
 ·rw[cQ (by simpa using h)];simp[h]
open Classical in
theorem nT{ds es:List DV}(hl:ds.length=es.length):((D7 ds.length).all λi=>match ds[i]?,es[i]? with | some d,some e=>pF d e | _,_=>true)=decide (ds=es):=by
 rw[M5,V4,decide_eq_true_iff]
 constructor
 ·intro h
  apply V5 hl
  intro i h1 h2
  have:=h i (K5.mpr h1)
  simp only[B0 h1,B0 h2]at this
  exact pG.mp this
 ·rintro rfl i hi
  have hi':=K5.mp hi
  simp only[B0 hi']
  exact lF _
variable{X:Cx}{pins:List (Addr×Obj)}{σ:St}{H:Hp}{s:Shared}
open Classical in
theorem Wj(ds es:List DV):pF (.lst ds) (.lst es)=decide (ds=es):=by
 by_cases h:ds=es
 ·subst h;simp[lF]
 ·rw[cQ (by intro z;cases z;exact h rfl)];simp[h]
open Classical in
theorem Wk(ds es:List DV):pF (.tup ds) (.tup es)=decide (ds=es):=by
 by_cases h:ds=es
 ·subst h;simp[lF]
 ·rw[cQ (by intro z;cases z;exact h rfl)];simp[h]
theorem yJ(I:Inv X pins σ H s):∀(n:Nat)(d e:DV)(x:V),d.depth≤n→Reads X.K H d x→Reads X.K H e x→d=e:=by
 have lists:∀(n:Nat),(∀(d e:DV)(x:V),d.depth≤n→Reads X.K H d x→Reads X.K H e x→d=e)→∀(ds es:List DV)(xs:List V),dR ds≤n→bG X.K H ds xs→bG X.K H es xs→ds=es:=by
  intro n ih ds
  induction ds with
  | nil=>
   intro es xs _ h1 h2
   have l1:=h1.length
   have l2:=h2.length
   cases es with
   | nil=>rfl
   | cons _ _=>rw[l1]at l2;simp at l2
  | cons d ds ihl=>
   intro es xs hd h1 h2
   have hd1:d.depth≤n:=by unfold dR at hd;omega
   have hd2:dR ds≤n:=by unfold dR at hd;omega
   unfold bG at h1
   obtain⟨y,ys,rfl,a1,a2⟩:=h1
   cases es with
   | nil=>have:=h2.length;simp at this
   | cons e es=>
    unfold bG at h2
    obtain⟨y',ys',q,b1,b2⟩:=h2
    cases q
    rw[ih d e y hd1 a1 b1,ihl es ys hd2 a2 b2]
 have kinds:∀{a:Addr} {xs ys:List V},iY X.K H a xs→lB X.K H a ys→False:=λ{a xs ys} h1 h2=>by
  obtain⟨_,_,p1,_⟩:=I.list h1
  obtain⟨_,_,p2,_⟩:=I.tuple h2
  exact ne_of_list_tuple p1.isList (show s.heap.IsTuple a _ from p2) rfl
 intro n
 induction n with
 | zero=>
  intro d e x hd h1 h2
  cases d with
  | int i=>
   unfold Reads at h1
   subst h1
   cases e with
   | int j=>unfold Reads at h2;cases h2;rfl
   | non=>unfold Reads at h2;cases h2
   | lst es=>unfold Reads at h2;obtain⟨_,_,q,_⟩:=h2;cases q
   | tup es=>unfold Reads at h2;obtain⟨_,_,q,_⟩:=h2;cases q
  | non=>
   unfold Reads at h1
   subst h1
   cases e with
   | non=>rfl
   | int j=>unfold Reads at h2;cases h2
   | lst es=>unfold Reads at h2;obtain⟨_,_,q,_⟩:=h2;cases q
   | tup es=>unfold Reads at h2;obtain⟨_,_,q,_⟩:=h2;cases q
  | lst ds=>unfold DV.depth at hd;omega
  | tup ds=>unfold DV.depth at hd;omega
 | succ n ih=>
  intro d e x hd h1 h2
  cases d with
  | int i=>
   unfold Reads at h1
   subst h1
   cases e with
   | int j=>unfold Reads at h2;cases h2;rfl
   | non=>unfold Reads at h2;cases h2
   | lst es=>unfold Reads at h2;obtain⟨_,_,q,_⟩:=h2;cases q
   | tup es=>unfold Reads at h2;obtain⟨_,_,q,_⟩:=h2;cases q
  | non=>
   unfold Reads at h1
   subst h1
   cases e with
   | non=>rfl
   | int j=>unfold Reads at h2;cases h2
   | lst es=>unfold Reads at h2;obtain⟨_,_,q,_⟩:=h2;cases q
   | tup es=>unfold Reads at h2;obtain⟨_,_,q,_⟩:=h2;cases q
  | lst ds=>
   unfold Reads at h1
   obtain⟨a,xs,rfl,hq,r⟩:=h1
   cases e with
   | int j=>unfold Reads at h2;cases h2
   | non=>unfold Reads at h2;cases h2
   | lst es=>
    unfold Reads at h2
    obtain⟨b,ys,q,hq2,r2⟩:=h2
    cases q
    have:=I.Ci hq hq2
    subst this
    rw[lists n ih ds es xs (by unfold DV.depth at hd;omega) r r2]
   | tup es=>
    unfold Reads at h2
    obtain⟨b,ys,q,hq2,r2⟩:=h2
    cases q
    exact(kinds hq hq2).elim
  | tup ds=>
   unfold Reads at h1
   obtain⟨a,xs,rfl,hq,r⟩:=h1
   cases e with
   | int j=>unfold Reads at h2;cases h2
   | non=>unfold Reads at h2;cases h2
   | lst es=>
    unfold Reads at h2
    obtain⟨b,ys,q,hq2,r2⟩:=h2
    cases q
    exact(kinds hq2 hq).elim
   | tup es=>
    unfold Reads at h2
    obtain⟨b,ys,q,hq2,r2⟩:=h2
    cases q
    have:=I.xT hq hq2
    subst this
    rw[lists n ih ds es xs (by unfold DV.depth at hd;omega) r r2]
theorem Ot(I:Inv X pins σ H s)(i:Int)(e:DV)(y:V)(u v:Value)(A:Around)(hu:A.units<cLine)(r2:Reads X.K H e y)(rx:RelV (.int i) u)(ry:RelV y v):RcAt A s u v (pF (.int i) e)∧EqAt A s u v (pF (.int i) e):=by
 obtain⟨t,rfl⟩:=rx
 cases e with
 | int j=>
  unfold Reads at r2
  subst r2
  obtain⟨t',rfl⟩:=ry
  rw[Wi]
  exact⟨RcAt.int_int _ _ _ _,EqAt.int_int _ _ _ _⟩
 | non=>
  unfold Reads at r2
  subst r2
  cases ry
  rw[cQ (by intro z;cases z)]
  exact⟨RcAt.int_none _ _,EqAt.int_none _ _⟩
 | lst es=>
  unfold Reads at r2
  obtain⟨b,ys,rfl,hq,_⟩:=r2
  cases ry
  obtain⟨its,_,pl,_⟩:=I.list hq
  rw[cQ (by intro z;cases z)]
  exact⟨RcAt.int_list _ _ pl.isList (hu),EqAt.int_list _ _ pl.isList (hu)⟩
 | tup es=>
  unfold Reads at r2
  obtain⟨b,ys,rfl,hq,_⟩:=r2
  cases ry
  obtain⟨its,_,pl,_⟩:=I.tuple hq
  rw[cQ (by intro z;cases z)]
  exact⟨RcAt.int_tuple _ _ pl (hu),EqAt.int_tuple _ _ pl (hu)⟩
theorem Ou(I:Inv X pins σ H s)(e:DV)(y:V)(u v:Value)(A:Around)(hu:A.units<cLine)(r2:Reads X.K H e y)(rx:RelV .non u)(ry:RelV y v):RcAt A s u v (pF .non e)∧EqAt A s u v (pF .non e):=by
 cases rx
 cases e with
 | non=>
  unfold Reads at r2
  subst r2
  cases ry
  rw[lF]
  exact⟨RcAt.none_none,EqAt.same _⟩
 | int j=>
  unfold Reads at r2
  subst r2
  obtain⟨t',rfl⟩:=ry
  rw[cQ (by intro z;cases z)]
  exact⟨RcAt.none_int _ _,EqAt.none_int _ _⟩
 | lst es=>
  unfold Reads at r2
  obtain⟨b,ys,rfl,hq,_⟩:=r2
  cases ry
  obtain⟨its,_,pl,_⟩:=I.list hq
  rw[cQ (by intro z;cases z)]
  exact⟨RcAt.none_list pl.isList hu,EqAt.none_list pl.isList hu⟩
 | tup es=>
  unfold Reads at r2
  obtain⟨b,ys,rfl,hq,_⟩:=r2
  cases ry
  obtain⟨its,_,pl,_⟩:=I.tuple hq
  rw[cQ (by intro z;cases z)]
  exact⟨RcAt.none_tuple pl hu,EqAt.none_tuple pl hu⟩
theorem Ov(I:Inv X pins σ H s):∀(n:Nat)(A:Around),(∀(d e:DV)(x y:V)(u v:Value)(A:Around),d.depth≤n→A.units+n<cLine→Reads X.K H d x→Reads X.K H e y→RelV x u→RelV y v→RcAt A s u v (pF d e)∧EqAt A s u v (pF d e)) →
  ∀(ds es:List DV)(xs ys:List V)(us vs:List Value),dR ds≤n→A.units+(n+1)<cLine→bG X.K H ds xs→bG X.K H es ys→Vals xs us→Vals ys vs →
  ∀j (h1:j<us.toArray.size) (h2:j<vs.toArray.size),EqAt A.in1 s us.toArray[j] vs.toArray[j] (match ds[j]?,es[j]? with | some d,some e=>pF d e | _,_=>true):=by
 intro n A ih ds es xs ys us vs hd hu r1 r2 v1 v2 j h1 h2
 have l1:j<ds.length:=by rw[←r1.length,v1.length];simpa using h1
 have l2:j<es.length:=by rw[←r2.length,v2.length];simpa using h2
 obtain⟨x,ex,rx⟩:=r1.get (i:=j) (d:=ds[j]) (by simp)
 obtain⟨y,ey,ry⟩:=r2.get (i:=j) (d:=es[j]) (by simp)
 obtain⟨u,eu,ru⟩:=v1.get ex
 obtain⟨v,ev,rv⟩:=v2.get ey
 have e1:us.toArray[j]=u:=by
  rw[B8]at eu
  obtain⟨_,eu⟩:=eu
  simpa using eu
 have e2:vs.toArray[j]=v:=by
  rw[B8]at ev
  obtain⟨_,ev⟩:=ev
  simpa using ev
 rw[e1,e2]
 simp only[B0 l1,B0 l2]
 exact(ih _ _ x y u v A.in1 (F8 (uT (i:=j) (by simp)) hd) (by rw[uU];omega) rx ry ru rv).2
theorem Wl(I:Inv X pins σ H s):∀(n:Nat)(d e:DV)(x y:V)(u v:Value)(A:Around),d.depth≤n→A.units+n<cLine→Reads X.K H d x→Reads X.K H e y→RelV x u→RelV y v→RcAt A s u v (pF d e)∧EqAt A s u v (pF d e):=by
 have items:=Ov I
 have seqs:∀(n:Nat)(A:Around),(∀(d e:DV)(x y:V)(u v:Value)(A:Around),d.depth≤n→A.units+n<cLine→Reads X.K H d x→Reads X.K H e y→RelV x u→RelV y v→RcAt A s u v (pF d e)∧EqAt A s u v (pF d e)) →
   ∀(d e:DV)(x y:V)(u v:Value),d.depth≤n+1→A.units+(n+1)<cLine→Reads X.K H d x→Reads X.K H e y→RelV x u→RelV y v→RcAt A s u v (pF d e)∧EqAt A s u v (pF d e):=by
  intro n A ih d e x y u v hd hu r1 r2 rx ry
  have of_same:∀{a b:Addr} {k:Bool},(a=b→k=true)→RcAt A s (.ref a) (.ref b) k→EqAt A s (.ref a) (.ref b) k:=λ{a b k} hk h=>by
   by_cases hab:a=b
   ·subst hab
    rw[hk rfl]
    exact EqAt.same _
   ·exact EqAt.of_refs hab h
  cases d with
  | int i=>
   unfold Reads at r1
   subst r1
   exact Ot I i e y u v A (by omega) r2 rx ry
  | non=>
   unfold Reads at r1
   subst r1
   exact Ou I e y u v A (by omega) r2 rx ry
  | lst ds=>
   unfold Reads at r1
   obtain⟨a,xs,rfl,hq1,HD⟩:=r1
   cases rx
   obtain⟨uV,v1,qP,_⟩:=I.list hq1
   have hd':dR ds≤n:=by unfold DV.depth at hd;omega
   cases e with
   | int j=>
    unfold Reads at r2
    subst r2
    obtain⟨t',rfl⟩:=ry
    rw[cQ (by intro z;cases z)]
    exact⟨RcAt.list_int _ _ qP.isList (by omega),EqAt.list_int _ _ qP.isList (by omega)⟩
   | non=>
    unfold Reads at r2
    subst r2
    cases ry
    rw[cQ (by intro z;cases z)]
    exact⟨RcAt.list_none qP.isList (by omega),EqAt.list_none qP.isList (by omega)⟩
   | lst es=>
    unfold Reads at r2
    obtain⟨b,ys,rfl,hq2,Wm⟩:=r2
    cases ry
    obtain⟨its2,v2,tZ,_⟩:=I.list hq2
    have e1:uV.toArray.size=ds.length:=by rw[B4,←v1.length,HD.length]
    have e2:its2.toArray.size=es.length:=by rw[B4,←v2.length,Wm.length]
    have rc:RcAt A s (.ref a) (.ref b) (pF (.lst ds) (.lst es)):=by
     by_cases hl:ds.length=es.length
     ·have q:=RcAt.lists (A:=A) (s:=s) qP.isList tZ.isList (by rw[e1,e2];exact hl) (by omega) (items n A ih ds es xs ys uV its2 hd' hu HD Wm v1 v2)
      rw[e1,nT hl]at q
      rw[Wj]
      exact q
     ·rw[cQ (by intro z;cases z;exact hl rfl)]
      exact RcAt.lists_lengths qP.isList tZ.isList (by rw[e1,e2];simpa using hl) (by omega)
    exact⟨rc,of_same (λhab=>by
     subst hab
     refine pG.mpr (yJ I (n+1) _ _ (.ref a) hd ?_ ?_)
     ·unfold Reads
      exact⟨a,xs,rfl,hq1,HD⟩
     ·unfold Reads
      exact⟨a,ys,rfl,hq2,Wm⟩) rc⟩
   | tup es=>
    unfold Reads at r2
    obtain⟨b,ys,rfl,hq2,Wm⟩:=r2
    cases ry
    obtain⟨its2,v2,tZ,_⟩:=I.tuple hq2
    rw[cQ (by intro z;cases z)]
    exact⟨RcAt.list_tuple qP.isList tZ (by omega),EqAt.list_tuple qP.isList tZ (by omega)⟩
  | tup ds=>
   unfold Reads at r1
   obtain⟨a,xs,rfl,hq1,HD⟩:=r1
   cases rx
   obtain⟨uV,v1,qP,_⟩:=I.tuple hq1
   have hd':dR ds≤n:=by unfold DV.depth at hd;omega
   cases e with
   | int j=>
    unfold Reads at r2
    subst r2
    obtain⟨t',rfl⟩:=ry
    rw[cQ (by intro z;cases z)]
    exact⟨RcAt.tuple_int _ _ qP (by omega),EqAt.tuple_int _ _ qP (by omega)⟩
   | non=>
    unfold Reads at r2
    subst r2
    cases ry
    rw[cQ (by intro z;cases z)]
    exact⟨RcAt.tuple_none qP (by omega),EqAt.tuple_none qP (by omega)⟩
   | lst es=>
    unfold Reads at r2
    obtain⟨b,ys,rfl,hq2,Wm⟩:=r2
    cases ry
    obtain⟨its2,v2,tZ,_⟩:=I.list hq2
    rw[cQ (by intro z;cases z)]
    exact⟨RcAt.tuple_list qP tZ.isList (by omega),EqAt.tuple_list qP tZ.isList (by omega)⟩
   | tup es=>
    unfold Reads at r2
    obtain⟨b,ys,rfl,hq2,Wm⟩:=r2
    cases ry
    obtain⟨its2,v2,tZ,_⟩:=I.tuple hq2
    have e1:uV.toArray.size=ds.length:=by rw[B4,←v1.length,HD.length]
    have e2:its2.toArray.size=es.length:=by rw[B4,←v2.length,Wm.length]
    have rc:RcAt A s (.ref a) (.ref b) (pF (.tup ds) (.tup es)):=by
     have q:=RcAt.tuples (A:=A) (s:=s) (l:=a) (b:=b) qP tZ (by omega) (items n A ih ds es xs ys uV its2 hd' hu HD Wm v1 v2)
     rw[e1,e2]at q
     by_cases hl:ds.length=es.length
     ·rw[←hl,U3,nT hl]at q
      rw[Wk]
      simpa using q
     ·rw[cQ (by intro z;cases z;exact hl rfl)]
      have z:(ds.length==es.length)=false:=by simpa using hl
      rw[z,Bool.and_false]at q
      exact q
    exact⟨rc,of_same (λhab=>by
     subst hab
     refine pG.mpr (yJ I (n+1) _ _ (.ref a) hd ?_ ?_)
     ·unfold Reads
      exact⟨a,xs,rfl,hq1,HD⟩
     ·unfold Reads
      exact⟨a,ys,rfl,hq2,Wm⟩) rc⟩
 intro n
 induction n with
 | zero=>
  intro d e x y u v A hd hu r1 r2 rx ry
  cases d with
  | int i=>
   unfold Reads at r1
   subst r1
   exact Ot I i e y u v A (by omega) r2 rx ry
  | non=>
   unfold Reads at r1
   subst r1
   exact Ou I e y u v A (by omega) r2 rx ry
  | lst ds=>unfold DV.depth at hd;omega
  | tup ds=>unfold DV.depth at hd;omega
 | succ n ih=>
  intro d e x y u v A hd hu r1 r2 rx ry
  exact seqs n A ih d e x y u v hd hu r1 r2 rx ry
end
section
variable{X:Cx}
def HF(K:aA)(neg:Bool):R2:=λx y H Q=>∃d e,Reads K H d x∧Reads K H e y∧d.depth≤32∧Q (.bl (if neg then !pF d e else pF d e)) H
theorem HH(hu:X.A.units+64<cLine):nR X (compareOp .Eq) (HF X.K false):=by
 intro pins s σ H x y v u Q I rx ry h
 obtain⟨d,e,r1,r2,hd,q⟩:=h
 exact(Wl I 32 d e x y v u X.A hd (by omega) r1 r2 rx ry).1 X.prog X.w X.xe _ ⟨.bl _,H,I,rfl,q⟩
end
end L2


namespace L2
open PySem PySem.Spec PyProof.Rows
structure Raw(K:aA)(mg:Str→Option Value)(x:Str)(st:Stmt):Prop where
 ex:∃f fd,Uw K x x st f fd∧mg x=some (.ref f)
theorem HJ{K:aA}{h:Heap}{mg:Str→Option Value}{x:Str}{st:Stmt}{f:Addr}{oc:Value}{od an:Option Addr}{osl:Array (Option Value)}{kV doc pm cdv ct:Value}(X:K.In h)(G:h.Ns mainGlobals mg)
  (a:G4 K mainGlobals x=some (some (.ref f))) (l:K.lookup f=some ⟨oc,od,.func (F4 x x (cJ st) (bO st) (aK st) .none kV doc pm an cdv ct),osl⟩)
  (c:M8 K cdv x=true) (k:J7 K (.ref f)=true):Raw K mg x st:=⟨⟨f,_,GR l c k,G2 X G a⟩⟩
structure jP(P:Program)(w:World)(K:aA)(mg:Str→Option Value)(base:Heap)(x:Str)(k:Nat)(n:Nat)(sp:Sp):Prop where
 ex:∃f fd ps,ps.length=n∧pC P w K mg base Lh k f fd ps sp∧Binds K fd ps []∧J7 K (.ref f)=true∧mg x=some (.ref f)
theorem Raw.cal{P:Program}{w:World}{K:aA}{mg:Str→Option Value}{base:Heap}{x:Str}{st:Stmt}{N ps:List Str}{k:Nat}{sp:Sp}(R:Raw K mg x st)(S:bL N ps (aK st))(len:∀vs H Q E,sp vs H Q E→vs.length=ps.length)
  (hb:∀(kV doc pm:Value)(an:Option Addr)(cdv ct:Value)(us:List Value),us.length=ps.length→bindArgs (F4 x x (cJ st) (bO st) (aK st) .none kV doc pm an cdv ct) ⟨us,[]⟩=pure (ps.zip us))
  (hbody:∀(f:Addr)(cdv:Value)(A:Around)(outer:List Env)(s:Shared)(H:Hp)(vs:List V)(Q:VK)(E:XK),fK k (A.deeper (envOfC x (aK st) s.heap.objs.size f cdv))→sp vs H Q E →
   ∃t,xR (dZ Lh P w K mg base N x (aK st) f cdv A outer s H E).Yz (bO st) t∧t {nx:=λ_ H'=>Q .non H',rt:=Q} (start N vs) H):jP P w K mg base x (k+1) ps.length sp:=by
 obtain⟨f,fd,F,m⟩:=R.ex
 exact⟨f,fd,ps,rfl,F.ok S len λcdv A outer s H vs Q E hr h=>hbody f cdv A outer s H vs Q E hr h,F.binds hb,F.kp,m⟩
theorem Ox{X:Cx}{x:Str}{k n:Nat}{sp:Sp}{e:Expr}{es:List Expr}{p pos:Pos}{t:TA}(C:jP X.prog X.w X.K X.mg X.base x k n sp)(hr:fK k X.A)(hg:Gl X x)
  (ha:PA X (e::es) t) (hdb:(x==("__debug__" : Str))=false:=by decide) (he:starEach (e::es) X.env=(false,eval e X.env)::starEach es X.env:=by rfl) (hpl:(backTo pos (starEach es X.env)).any (·.1)=false:=by rfl) :
  PE X (.Call (.Name x p) (e::es) [] pos) (uL sp [] E0 t):=by
 obtain⟨f,fd,ps,_,F,hb,hk,hm⟩:=C.ex
 exact Vq F hr hg hm hk hb .nil VG ha hdb he hpl
theorem call_of{sp:Sp}{E:XK}{t:TA}{σ:St}{H:Hp}{Q:VK}(h:t σ H λvs H1=>sp vs H1 Q E):uL sp [] E t σ H Q:=by
 unfold uL
 have e:(λ(vs:List V) (H1:Hp)=>sp (vs++[]) H1 Q E)=λvs H1=>sp vs H1 Q E:=by funext vs H1;rw[R5]
 rw[e]
 exact h
theorem bM{H:Hp}{p:Addr}(h:H p=none)(o:HO):aH H (upd H p o):=λb u q=>by rw[aR (cP q h)];exact q
theorem aH.tup{K:aA}{H H':Hp}{a:Addr}{xs:List V}(e:aH H H')(h:lB K H a xs):lB K H' a xs:=by
 rcases h with (h | ⟨o,h⟩) | h
 ·exact .inl (.inl (e _ _ h))
 ·exact .inl (.inr ⟨o,e _ _ h⟩)
 ·exact .inr h
mutual
theorem aH.reads{K:aA}{H H':Hp}(e:aH H H'):∀(d:DV)(x:V),Reads K H d x→Reads K H' d x
 | .int i,x,h=>by unfold Reads at h ⊢;exact h
 | .non,x,h=>by unfold Reads at h ⊢;exact h
 | .lst ds,x,h=>by
  unfold Reads at h ⊢
  obtain⟨a,xs,r,hq,l⟩:=h
  exact⟨a,xs,r,e.seq hq,aH.Fy e ds xs l⟩
 | .tup ds,x,h=>by
  unfold Reads at h ⊢
  obtain⟨a,xs,r,hq,l⟩:=h
  exact⟨a,xs,r,e.tup hq,aH.Fy e ds xs l⟩
theorem aH.Fy{K:aA}{H H':Hp}(e:aH H H'):∀(ds:List DV)(xs:List V),bG K H ds xs→bG K H' ds xs
 | [],xs,h=>by unfold bG at h ⊢;exact h
 | d::ds,xs,h=>by
  unfold bG at h ⊢
  obtain⟨y,ys,r,h1,h2⟩:=h
  exact⟨y,ys,r,aH.reads e d y h1,aH.Fy e ds ys h2⟩
end
end L2
namespace L2
theorem eO.at{scope:PySem.Scope}{N:List PySem.Str}{k:Nat}{fr:List Nat}(qO:PySem.Scope)(oN:List PySem.Str)(h:Ol qO scope oN N k fr=true):eO qO scope oN N k fr:=eO.of h
end L2
namespace L2
open PySem PySem.Spec PyProof.Rows
def pH(H:Hp)(p:Addr):Prop:=(∀xs,H p≠some (.tup xs))∧∀o xs,H p≠some (.gW o (.tup xs))
theorem mX{H:Hp}{p:Addr}{xs:List V}(h:H p=some (.lst xs)):pH H p:=⟨λys e=>(by rw[h]at e;cases e),λo ys e=>(by rw[h]at e;cases e)⟩
theorem pI{H:Hp}{p:Addr}{kvs:List (Key×V)}(h:H p=some (.dK kvs)):pH H p:=⟨λys e=>(by rw[h]at e;cases e),λo ys e=>(by rw[h]at e;cases e)⟩
theorem lB.upd{K:aA}{H:Hp}{a p:Addr}{xs:List V}{o:HO}(h:lB K H a xs)(n:pH H p):lB K (upd H p o) a xs:=by
 rcases h with (h | ⟨u,h⟩) | h
 ·exact .inl (.inl (by rw[aR (λz=>n.1 xs (by rw[←z];exact h))];exact h))
 ·exact .inl (.inr ⟨u,by rw[aR (λz=>n.2 u xs (by rw[←z];exact h))];exact h⟩)
 ·exact .inr h
mutual
def fO:DV→Bool
 | .int _=>true
 | .non=>true
 | .lst _=>false
 | .tup ds=>cF ds
def cF:List DV→Bool
 | []=>true
 | d::ds=>fO d&&cF ds
end
mutual
theorem Lj{K:aA}{H:Hp}{p:Addr}{o:HO}(n:pH H p):∀(d:DV)(x:V),fO d=true→Reads K H d x→Reads K (upd H p o) d x
 | .int i,x,_,h=>by unfold Reads at h ⊢;exact h
 | .non,x,_,h=>by unfold Reads at h ⊢;exact h
 | .lst ds,x,hi,h=>by unfold fO at hi;cases hi
 | .tup ds,x,hi,h=>by
  unfold fO at hi
  unfold Reads at h ⊢
  obtain⟨a,xs,r,hq,l⟩:=h
  exact⟨a,xs,r,hq.upd n,uW n ds xs hi l⟩
theorem uW{K:aA}{H:Hp}{p:Addr}{o:HO}(n:pH H p):∀(ds:List DV)(xs:List V),cF ds=true→bG K H ds xs→bG K (upd H p o) ds xs
 | [],xs,_,h=>by unfold bG at h ⊢;exact h
 | d::ds,xs,hi,h=>by
  unfold cF at hi
  rw[J6]at hi
  unfold bG at h ⊢
  obtain⟨y,ys,r,h1,h2⟩:=h
  exact⟨y,ys,r,Lj n d y hi.1 h1,uW n ds ys hi.2 h2⟩
end
theorem pJ{n d:Nat}{k:Nat}:HT.tO n d (some (k:Int))=min k n:=HT.Vr n d k
end L2
namespace L2
open PySem PySem.Spec PyProof.Rows
section
variable{X:Cx}
end
end L2
namespace L2
open PySem PySem.Spec PyProof.Rows
end L2
namespace L2
open PySem PySem.Spec PyProof.Rows
section
variable{X:Cx}
end
end L2


namespace L2
open PySem PySem.Spec PyProof.Rows
section
variable{X:Cx}
end
end L2


namespace L2
open PySem PySem.Spec PyProof.Rows
inductive D where
  | non | bl (b:Bool) | int (i:Int) | str (x:Str)
  | lst (ds:List D) | tup (ds:List D)
  | dk (ks:List Key) (ds:List D)
  | dt (ks:List (List Key)) (ds:List D)
  | ins (C:Addr) (nm:List Str) (ds:List D)
abbrev Fp:=Addr→Prop
def Apart(A B:Fp):Prop:=∀x,A x→¬B x
def Is(A B:Fp):Prop:=∀x,A x↔B x
def None(A:Fp):Prop:=∀x,¬A x
abbrev dH(A B:Fp):Fp:=λx=>A x∨B x
mutual
def Rv(K:aA)(H:Hp):D→V→Prop
 | .non,v=>v=.non
 | .bl b,v=>v=.bl b
 | .int i,v=>v=.int i
 | .str x,v=>v=.str x
 | .lst ds,v=>∃a xs,v=.ref a∧iY K H a xs∧bI K H ds xs
 | .tup ds,v=>∃a xs,v=.ref a∧lB K H a xs∧bI K H ds xs
 | .dk ks ds,v=>∃a xs,v=.ref a∧Rd H a (.dK (ks.zip xs))∧ks.length=xs.length∧bI K H ds xs
 | .dt ks ds,v=>∃a xs,v=.ref a∧Rd H a (.dT (ks.zip xs))∧ks.length=xs.length∧bI K H ds xs
 | .ins C nm ds,v=>∃a dx xs,v=.ref a∧H a=some (.ins C dx (nm.zip xs))∧nm.length=xs.length∧bI K H ds xs
def bI(K:aA)(H:Hp):List D→List V→Prop
 | [],xs=>xs=[]
 | d::ds,xs=>∃y ys,xs=y::ys∧Rv K H d y∧bI K H ds ys
end
theorem aH.rd{H H':Hp}(e:aH H H'){a:Addr}{u:HO}(h:Rd H a u):Rd H' a u:=by
 rcases h with h | ⟨o,h⟩
 ·exact .inl (e _ _ h)
 ·exact .inr ⟨o,e _ _ h⟩
mutual
theorem aH.rv{K:aA}{H H':Hp}(e:aH H H'):∀(d:D)(v:V),Rv K H d v→Rv K H' d v
 | .non,v,h=>by unfold Rv at h ⊢;exact h
 | .bl _,v,h=>by unfold Rv at h ⊢;exact h
 | .int _,v,h=>by unfold Rv at h ⊢;exact h
 | .str _,v,h=>by unfold Rv at h ⊢;exact h
 | .lst ds,v,h=>by unfold Rv at h ⊢;obtain⟨a,xs,r,hq,l⟩:=h;exact⟨a,xs,r,e.seq hq,aH.Lk e ds xs l⟩
 | .tup ds,v,h=>by unfold Rv at h ⊢;obtain⟨a,xs,r,hq,l⟩:=h;exact⟨a,xs,r,e.tup hq,aH.Lk e ds xs l⟩
 | .dk ks ds,v,h=>by unfold Rv at h ⊢;obtain⟨a,xs,r,hq,hl,l⟩:=h;exact⟨a,xs,r,e.rd hq,hl,aH.Lk e ds xs l⟩
 | .dt ks ds,v,h=>by unfold Rv at h ⊢;obtain⟨a,xs,r,hq,hl,l⟩:=h;exact⟨a,xs,r,e.rd hq,hl,aH.Lk e ds xs l⟩
 | .ins C nm ds,v,h=>by unfold Rv at h ⊢;obtain⟨a,dx,xs,r,hq,hl,l⟩:=h;exact⟨a,dx,xs,r,e _ _ hq,hl,aH.Lk e ds xs l⟩
theorem aH.Lk{K:aA}{H H':Hp}(e:aH H H'):∀(ds:List D)(xs:List V),bI K H ds xs→bI K H' ds xs
 | [],xs,h=>by unfold bI at h ⊢;exact h
 | d::ds,xs,h=>by unfold bI at h ⊢;obtain⟨y,ys,r,h1,h2⟩:=h;exact⟨y,ys,r,aH.rv e d y h1,aH.Lk e ds ys h2⟩
end
theorem bI.length{K:aA}{H:Hp}:∀{ds:List D} {xs:List V},bI K H ds xs→xs.length=ds.length
 | [],xs,h=>by unfold bI at h;subst h;rfl
 | d::ds,xs,h=>by unfold bI at h;obtain⟨y,ys,rfl,_,h2⟩:=h;rw[F3,F3,bI.length h2]
theorem bI.get{K:aA}{H:Hp}:∀{ds:List D} {xs:List V} {i:Nat} {d:D},bI K H ds xs→ds[i]?=some d→∃x,xs[i]?=some x∧Rv K H d x
 | [],xs,i,d,h,e=>by simp at e
 | d'::ds,xs,0,d,h,e=>by unfold bI at h;obtain⟨y,ys,rfl,h1,_⟩:=h;simp at e;subst e;exact⟨y,rfl,h1⟩
 | d'::ds,xs,i+1,d,h,e=>by
  unfold bI at h
  obtain⟨y,ys,rfl,_,h2⟩:=h
  obtain⟨x,e1,e2⟩:=bI.get (i:=i) (d:=d) h2 (by simpa using e)
  exact⟨x,by simpa using e1,e2⟩
def eQ{α β:Type}(R:α→Fp→β→Prop):List α→Fp→List β→Prop
 | [],A,ys=>None A∧ys=[]
 | d::ds,A,ys=>∃y yt A1 A2,ys=y::yt∧Apart A1 A2∧Is A (dH A1 A2)∧R d A1 y∧eQ R ds A2 yt
section
variable{α β:Type}{R R':α→Fp→β→Prop}
theorem eQ.congr:∀{ds:List α} {A A':Fp} {ys:List β},eQ R ds A ys→Is A A'→eQ R ds A' ys
 | [],A,A',ys,h,e=>⟨λx q=>h.1 x ((e x).mpr q),h.2⟩
 | d::ds,A,A',ys,⟨y,yt,A1,A2,h1,h2,h3,h4⟩,e=>⟨y,yt,A1,A2,h1,h2,λx=>((e x).symm).trans (h3 x),h4⟩
theorem eQ.mono:∀{ds:List α} {A:Fp} {ys:List β},eQ R ds A ys→(∀e B z,(∀x,B x→A x)→R e B z→R' e B z)→eQ R' ds A ys
 | [],A,ys,h,_=>h
 | d::ds,A,ys,⟨y,yt,A1,A2,h1,h2,h3,h4,h5⟩,m=>
  ⟨y,yt,A1,A2,h1,h2,h3,m _ _ _ (λx q=>(h3 x).mpr (.inl q)) h4,h5.mono λe B z hb=>m e B z λx q=>(h3 x).mpr (.inr (hb x q))⟩
theorem eQ.focus:∀{ds:List α} {A:Fp} {ys:List β} {i:Nat} {d:α},eQ R ds A ys→ds[i]?=some d→∃y A1 C,ys[i]?=some y∧Apart A1 C∧Is A (dH A1 C)∧R d A1 y ∧
    ∀(R':α→Fp→β→Prop),(∀e B z,(∀x,B x→C x)→R e B z→R' e B z)→∀d' y' Ux,Apart Ux C→R' d' Ux y'→eQ R' (ds.set i d') (dH Ux C) (ys.set i y')
  | [],A,ys,i,d,h,e=>by simp at e
  | d0::ds,A,ys,0,d,⟨y,yt,A1,A2,h1,h2,h3,h4,h5⟩,e=>by
    simp at e
    subst e h1
    exact⟨y,A1,A2,rfl,h2,h3,h4,λR' m d' y' Ux ap r=>⟨y',yt,Ux,A2,rfl,ap,λx=>Iff.rfl,r,h5.mono m⟩⟩
  | d0::ds,A,ys,i+1,d,⟨y,yt,A1,A2,h1,h2,h3,h4,h5⟩,e=>by
    subst h1
    obtain⟨z,B1,C,e1,ap,hA,r,k⟩:=eQ.focus (i:=i) (d:=d) h5 (by simpa using e)
    refine⟨z,B1,dH A1 C,by simpa using e1,?_,?_,r,λR' m d' y' Ux ap' r'=>?_⟩
    · intro x hx hc
      rcases hc with hc | hc
      · exact h2 x hc ((hA x).mpr (.inl hx))
      · exact ap x hx hc
    · intro x
      rw[h3 x]
      constructor
      · rintro(q | q)
        · exact .inr (.inl q)
        · rcases(hA x).mp q with q | q
          · exact .inl q
          · exact .inr (.inr q)
      · rintro(q | q | q)
        · exact .inr ((hA x).mpr (.inl q))
        · exact .inl q
        · exact .inr ((hA x).mpr (.inr q))
    · refine⟨y,_,A1,dH Ux C,rfl,?_,?_,m _ _ _ (λx q=>.inl q) h4,k R' (λe B z hb=>m e B z λx q=>.inr (hb x q)) d' y' Ux (λx q q'=>ap' x q (.inr q')) r'⟩
      · intro x q q'
        rcases q' with q' | q'
        · exact ap' x q' (.inl q)
        · exact h2 x q ((hA x).mpr (.inr q'))
      · intro x
        show (Ux x∨A1 x∨C x)↔(A1 x∨Ux x∨C x)
        constructor
        · rintro(q | q | q)
          · exact .inr (.inl q)
          · exact .inl q
          · exact .inr (.inr q)
        · rintro(q | q | q)
          · exact .inr (.inl q)
          · exact .inl q
          · exact .inr (.inr q)
theorem eQ.snoc:∀{ds:List α} {A A1:Fp} {ys:List β} {d:α} {y:β},eQ R ds A ys→R d A1 y→Apart A A1→eQ R (ds++[d]) (dH A A1) (ys++[y])
 | [],A,A1,ys,d,y,h,r,ap=>by
  rw[h.2]
  exact⟨y,[],A1,λ_=>False,rfl,λ_ _ z=>z,λx=>⟨λq=>q.elim (λq=>absurd q (h.1 x)) .inl,λq=>q.elim .inr False.elim⟩,r,λ_ z=>z,rfl⟩
 | d0::ds,A,A1,ys,d,y,⟨y0,yt,B1,B2,h1,h2,h3,h4,h5⟩,r,ap=>by
  subst h1
  refine⟨y0,yt++[y],B1,dH B2 A1,rfl,?_,?_,h4,eQ.snoc h5 r λx q=>ap x ((h3 x).mpr (.inr q))⟩
  ·intro x q q'
   rcases q' with q' | q'
   ·exact h2 x q q'
   ·exact ap x ((h3 x).mpr (.inl q)) q'
  ·intro x
   show (A x∨A1 x)↔(B1 x∨B2 x∨A1 x)
   rw[h3 x]
   exact or_assoc
end
mutual
def Ow(K:aA)(H:Hp):D→Fp→V→Prop
 | .non,A,v=>None A∧v=.non
 | .bl b,A,v=>None A∧v=.bl b
 | .int i,A,v=>None A∧v=.int i
 | .str x,A,v=>None A∧v=.str x
 | .lst ds,A,v=>∃a xs B,v=.ref a∧H a=some (.lst xs)∧¬B a∧Is A (dH (·=a) B)∧cA K H ds B xs
 | .tup ds,A,v=>∃a xs,v=.ref a∧lB K H a xs∧cA K H ds A xs
 | .dk ks ds,A,v=>∃a xs B,v=.ref a∧H a=some (.dK (ks.zip xs))∧ks.length=xs.length∧¬B a∧Is A (dH (·=a) B)∧cA K H ds B xs
 | .dt ks ds,A,v=>∃a xs B,v=.ref a∧H a=some (.dT (ks.zip xs))∧ks.length=xs.length∧¬B a∧Is A (dH (·=a) B)∧cA K H ds B xs
 | .ins C nm ds,A,v=>∃a dx xs B,v=.ref a∧H a=some (.ins C dx (nm.zip xs))∧H dx=some (.own a)∧nm.length=xs.length∧¬B a∧¬B dx∧Is A (dH (λx=>x=a∨x=dx) B)∧cA K H ds B xs
def cA(K:aA)(H:Hp):List D→Fp→List V→Prop
 | [],A,ys=>None A∧ys=[]
 | d::ds,A,ys=>∃y yt A1 A2,ys=y::yt∧Apart A1 A2∧Is A (dH A1 A2)∧Ow K H d A1 y∧cA K H ds A2 yt
end
theorem dI{K:aA}{H:Hp}:∀{ds:List D} {A:Fp} {ys:List V},cA K H ds A ys↔eQ (Ow K H) ds A ys
 | [],A,ys=>by unfold cA eQ;exact Iff.rfl
 | d::ds,A,ys=>by
  unfold cA eQ
  constructor
  ·rintro⟨y,yt,A1,A2,h1,h2,h3,h4,h5⟩;exact⟨y,yt,A1,A2,h1,h2,h3,h4,dI.mp h5⟩
  ·rintro⟨y,yt,A1,A2,h1,h2,h3,h4,h5⟩;exact⟨y,yt,A1,A2,h1,h2,h3,h4,dI.mpr h5⟩
def qT(K:aA)(H H':Hp):Prop:=∀a xs,lB K H a xs→lB K H' a xs
theorem aH.tk{K:aA}{H H':Hp}(e:aH H H'):qT K H H':=λ_ _ h=>e.tup h
theorem Ow.congr{K:aA}{H:Hp}{d:D}{A A':Fp}{v:V}(h:Ow K H d A v)(e:Is A A'):Ow K H d A' v:=by
 cases d with
 | non=>unfold Ow at h ⊢;exact⟨λx q=>h.1 x ((e x).mpr q),h.2⟩
 | bl b=>unfold Ow at h ⊢;exact⟨λx q=>h.1 x ((e x).mpr q),h.2⟩
 | int b=>unfold Ow at h ⊢;exact⟨λx q=>h.1 x ((e x).mpr q),h.2⟩
 | str b=>unfold Ow at h ⊢;exact⟨λx q=>h.1 x ((e x).mpr q),h.2⟩
 | lst ds=>unfold Ow at h ⊢;obtain⟨a,xs,B,h1,h2,h3,h4,h5⟩:=h;exact⟨a,xs,B,h1,h2,h3,λx=>(e x).symm.trans (h4 x),h5⟩
 | tup ds=>unfold Ow at h ⊢;obtain⟨a,xs,h1,h2,h3⟩:=h;exact⟨a,xs,h1,h2,dI.mpr ((dI.mp h3).congr e)⟩
 | dk ks ds=>unfold Ow at h ⊢;obtain⟨a,xs,B,h1,h2,h2',h3,h4,h5⟩:=h;exact⟨a,xs,B,h1,h2,h2',h3,λx=>(e x).symm.trans (h4 x),h5⟩
 | dt ks ds=>unfold Ow at h ⊢;obtain⟨a,xs,B,h1,h2,h2',h3,h4,h5⟩:=h;exact⟨a,xs,B,h1,h2,h2',h3,λx=>(e x).symm.trans (h4 x),h5⟩
 | ins C nm ds=>unfold Ow at h ⊢;obtain⟨a,dx,xs,B,h1,h2,h2',h3,h3',h3'',h4,h5⟩:=h;exact⟨a,dx,xs,B,h1,h2,h2',h3,h3',h3'',λx=>(e x).symm.trans (h4 x),h5⟩
mutual
theorem Ow.frame{K:aA}{H H':Hp}(t:qT K H H'):∀(d:D)(A:Fp)(v:V),Ow K H d A v→(∀a,A a→H' a=H a)→Ow K H' d A v
 | .non,A,v,h,f=>by unfold Ow at h ⊢;exact h
 | .bl _,A,v,h,f=>by unfold Ow at h ⊢;exact h
 | .int _,A,v,h,f=>by unfold Ow at h ⊢;exact h
 | .str _,A,v,h,f=>by unfold Ow at h ⊢;exact h
 | .lst ds,A,v,h,f=>by
  unfold Ow at h ⊢
  obtain⟨a,xs,B,h1,h2,h3,h4,h5⟩:=h
  exact⟨a,xs,B,h1,(f a ((h4 a).mpr (.inl rfl))).trans h2,h3,h4,cA.frame t ds B xs h5 λb q=>f b ((h4 b).mpr (.inr q))⟩
 | .tup ds,A,v,h,f=>by unfold Ow at h ⊢;obtain⟨a,xs,h1,h2,h3⟩:=h;exact⟨a,xs,h1,t _ _ h2,cA.frame t ds A xs h3 f⟩
 | .dk ks ds,A,v,h,f=>by
  unfold Ow at h ⊢
  obtain⟨a,xs,B,h1,h2,h2',h3,h4,h5⟩:=h
  exact⟨a,xs,B,h1,(f a ((h4 a).mpr (.inl rfl))).trans h2,h2',h3,h4,cA.frame t ds B xs h5 λb q=>f b ((h4 b).mpr (.inr q))⟩
 | .dt ks ds,A,v,h,f=>by
  unfold Ow at h ⊢
  obtain⟨a,xs,B,h1,h2,h2',h3,h4,h5⟩:=h
  exact⟨a,xs,B,h1,(f a ((h4 a).mpr (.inl rfl))).trans h2,h2',h3,h4,cA.frame t ds B xs h5 λb q=>f b ((h4 b).mpr (.inr q))⟩
 | .ins C nm ds,A,v,h,f=>by
  unfold Ow at h ⊢
  obtain⟨a,dx,xs,B,h1,h2,h2',h3,h3',h3'',h4,h5⟩:=h
  exact⟨a,dx,xs,B,h1,(f a ((h4 a).mpr (.inl (.inl rfl)))).trans h2,(f dx ((h4 dx).mpr (.inl (.inr rfl)))).trans h2',h3,h3',h3'',h4,cA.frame t ds B xs h5 λb q=>f b ((h4 b).mpr (.inr q))⟩
theorem cA.frame{K:aA}{H H':Hp}(t:qT K H H'):∀(ds:List D)(A:Fp)(ys:List V),cA K H ds A ys→(∀a,A a→H' a=H a)→cA K H' ds A ys
 | [],A,ys,h,f=>by unfold cA at h ⊢;exact h
 | d::ds,A,ys,h,f=>by
  unfold cA at h ⊢
  obtain⟨y,yt,A1,A2,h1,h2,h3,h4,h5⟩:=h
  exact⟨y,yt,A1,A2,h1,h2,h3,Ow.frame t d A1 y h4 λb q=>f b ((h3 b).mpr (.inl q)),cA.frame t ds A2 yt h5 λb q=>f b ((h3 b).mpr (.inr q))⟩
end
mutual
theorem Ow.rv{K:aA}{H:Hp}:∀(d:D)(A:Fp)(v:V),Ow K H d A v→Rv K H d v
 | .non,A,v,h=>by unfold Ow at h;unfold Rv;exact h.2
 | .bl _,A,v,h=>by unfold Ow at h;unfold Rv;exact h.2
 | .int _,A,v,h=>by unfold Ow at h;unfold Rv;exact h.2
 | .str _,A,v,h=>by unfold Ow at h;unfold Rv;exact h.2
 | .lst ds,A,v,h=>by unfold Ow at h;unfold Rv;obtain⟨a,xs,B,h1,h2,h3,h4,h5⟩:=h;exact⟨a,xs,h1,iY.of h2,cA.rv ds B xs h5⟩
 | .tup ds,A,v,h=>by unfold Ow at h;unfold Rv;obtain⟨a,xs,h1,h2,h3⟩:=h;exact⟨a,xs,h1,h2,cA.rv ds A xs h3⟩
 | .dk ks ds,A,v,h=>by unfold Ow at h;unfold Rv;obtain⟨a,xs,B,h1,h2,h2',h3,h4,h5⟩:=h;exact⟨a,xs,h1,.inl h2,h2',cA.rv ds B xs h5⟩
 | .dt ks ds,A,v,h=>by unfold Ow at h;unfold Rv;obtain⟨a,xs,B,h1,h2,h2',h3,h4,h5⟩:=h;exact⟨a,xs,h1,.inl h2,h2',cA.rv ds B xs h5⟩
 | .ins C nm ds,A,v,h=>by unfold Ow at h;unfold Rv;obtain⟨a,dx,xs,B,h1,h2,h2',h3,h3',h3'',h4,h5⟩:=h;exact⟨a,dx,xs,h1,h2,h3,cA.rv ds B xs h5⟩
theorem cA.rv{K:aA}{H:Hp}:∀(ds:List D)(A:Fp)(ys:List V),cA K H ds A ys→bI K H ds ys
 | [],A,ys,h=>by unfold cA at h;unfold bI;exact h.2
 | d::ds,A,ys,h=>by unfold cA at h;unfold bI;obtain⟨y,yt,A1,A2,h1,h2,h3,h4,h5⟩:=h;exact⟨y,yt,h1,Ow.rv d A1 y h4,cA.rv ds A2 yt h5⟩
end
def lG(H:Hp)(a:Addr):Prop:=(∃o,H a=some o)∧pH H a
mutual
theorem Ow.cells{K:aA}{H:Hp}:∀(d:D)(A:Fp)(v:V),Ow K H d A v→∀a,A a→lG H a
 | .non,A,v,h,a,q=>by unfold Ow at h;exact absurd q (h.1 a)
 | .bl _,A,v,h,a,q=>by unfold Ow at h;exact absurd q (h.1 a)
 | .int _,A,v,h,a,q=>by unfold Ow at h;exact absurd q (h.1 a)
 | .str _,A,v,h,a,q=>by unfold Ow at h;exact absurd q (h.1 a)
 | .lst ds,A,v,h,a,q=>by
  unfold Ow at h
  obtain⟨p,xs,B,h1,h2,h3,h4,h5⟩:=h
  rcases(h4 a).mp q with z | z
  ·cases z;exact⟨⟨_,h2⟩,mX h2⟩
  ·exact cA.cells ds B xs h5 a z
 | .tup ds,A,v,h,a,q=>by unfold Ow at h;obtain⟨p,xs,h1,h2,h3⟩:=h;exact cA.cells ds A xs h3 a q
 | .dk ks ds,A,v,h,a,q=>by
  unfold Ow at h
  obtain⟨p,xs,B,h1,h2,h2',h3,h4,h5⟩:=h
  rcases(h4 a).mp q with z | z
  ·cases z;exact⟨⟨_,h2⟩,pI h2⟩
  ·exact cA.cells ds B xs h5 a z
 | .dt ks ds,A,v,h,a,q=>by
  unfold Ow at h
  obtain⟨p,xs,B,h1,h2,h2',h3,h4,h5⟩:=h
  rcases(h4 a).mp q with z | z
  ·cases z;exact⟨⟨_,h2⟩,λys e=>(by rw[h2]at e;cases e),λo ys e=>(by rw[h2]at e;cases e)⟩
  ·exact cA.cells ds B xs h5 a z
 | .ins C nm ds,A,v,h,a,q=>by
  unfold Ow at h
  obtain⟨p,dx,xs,B,h1,h2,h2',h3,h3',h3'',h4,h5⟩:=h
  rcases(h4 a).mp q with (z | z) | z
  ·cases z;exact⟨⟨_,h2⟩,λys e=>(by rw[h2]at e;cases e),λo ys e=>(by rw[h2]at e;cases e)⟩
  ·cases z;exact⟨⟨_,h2'⟩,λys e=>(by rw[h2']at e;cases e),λo ys e=>(by rw[h2']at e;cases e)⟩
  ·exact cA.cells ds B xs h5 a z
theorem cA.cells{K:aA}{H:Hp}:∀(ds:List D)(A:Fp)(ys:List V),cA K H ds A ys→∀a,A a→lG H a
 | [],A,ys,h,a,q=>by unfold cA at h;exact absurd q (h.1 a)
 | d::ds,A,ys,h,a,q=>by
  unfold cA at h
  obtain⟨y,yt,A1,A2,h1,h2,h3,h4,h5⟩:=h
  rcases(h3 a).mp q with z | z
  ·exact Ow.cells d A1 y h4 a z
  ·exact cA.cells ds A2 yt h5 a z
end
mutual
def D.fO:D→Bool
  | .non=>true | .bl _=>true | .int _=>true | .str _=>true
  | .tup ds=>D.cF ds
  | _=>false
def D.cF:List D→Bool
  | []=>true
  | d::ds=>D.fO d&&D.cF ds
end
abbrev nil:Fp:=λ_=>False
mutual
theorem qU{K:aA}{H:Hp}:∀(d:D)(v:V),d.fO=true→Rv K H d v→Ow K H d nil v
 | .non,v,_,h=>by unfold Rv at h;unfold Ow;exact⟨λ_ z=>z,h⟩
 | .bl _,v,_,h=>by unfold Rv at h;unfold Ow;exact⟨λ_ z=>z,h⟩
 | .int _,v,_,h=>by unfold Rv at h;unfold Ow;exact⟨λ_ z=>z,h⟩
 | .str _,v,_,h=>by unfold Rv at h;unfold Ow;exact⟨λ_ z=>z,h⟩
 | .tup ds,v,i,h=>by unfold D.fO at i;unfold Rv at h;unfold Ow;obtain⟨a,xs,h1,h2,h3⟩:=h;exact⟨a,xs,h1,h2,zW ds xs i h3⟩
 | .lst ds,v,i,h=>by unfold D.fO at i;cases i
 | .dk _ ds,v,i,h=>by unfold D.fO at i;cases i
 | .dt _ ds,v,i,h=>by unfold D.fO at i;cases i
 | .ins _ _ ds,v,i,h=>by unfold D.fO at i;cases i
theorem zW{K:aA}{H:Hp}:∀(ds:List D)(ys:List V),D.cF ds=true→bI K H ds ys→cA K H ds nil ys
 | [],ys,_,h=>by unfold bI at h;unfold cA;exact⟨λ_ z=>z,h⟩
 | d::ds,ys,i,h=>by
  unfold D.cF at i
  rw[J6]at i
  unfold bI at h
  unfold cA
  obtain⟨y,yt,h1,h2,h3⟩:=h
  exact⟨y,yt,nil,nil,h1,λ_ z _=>z,λx=>⟨False.elim,λz=>z.elim id id⟩,qU d y i.1 h2,zW ds yt i.2 h3⟩
end
open Classical in
noncomputable def out(H:Hp)(A:Fp):Hp:=λa=>if A a then none else H a
theorem HN{H:Hp}{A:Fp}{a:Addr}(h:¬A a):out H A a=H a:=by unfold out;rw[if_neg h]
theorem aZ{H:Hp}{A:Fp}{a:Addr}{o:HO}:out H A a=some o↔¬A a∧H a=some o:=by
 unfold out
 split
 ·rename_i h;exact⟨λz=>(by cases z),λz=>absurd h z.1⟩
 ·rename_i h;exact⟨λz=>⟨h,z⟩,λz=>z.2⟩
theorem dG(H:Hp)(A:Fp):aH (out H A) H:=λb o h=>(aZ.mp h).2
theorem Oz{K:aA}{H:Hp}{A:Fp}(h:∀a,A a→pH H a):qT K H (out H A):=λa xs q=>by
 rcases q with (q | ⟨o,q⟩) | q
 ·exact .inl (.inl (aZ.mpr ⟨λz=>(h a z).1 _ q,q⟩))
 ·exact .inl (.inr ⟨o,aZ.mpr ⟨λz=>(h a z).2 _ _ q,q⟩⟩)
 ·exact .inr q
theorem Ow.out{K:aA}{H:Hp}{d:D}{A A':Fp}{v:V}(h:Ow K H d A' v)(ap:Apart A' A)(c:∀a,A a→pH H a):Rv K (out H A) d v:=
 Ow.rv d A' v (Ow.frame (Oz c) d A' v h λa q=>HN (ap a q))
end L2


namespace L2
open PySem PySem.Spec PyProof.Rows
abbrev DE:=List (Option D)
abbrev FE:=DE→Option D
abbrev FA:=DE→Option (List D)
abbrev FT:=DE→Option Bool
def mY(K:aA)(H:Hp)(e:DE)(σ:St):Prop:=∀(i:Nat)(d:D),e[i]?=some (some d)→∃v,σ[i]?=some (some v)∧Rv K H d v
theorem mY.same{K:aA}{H H':Hp}{e:DE}{σ:St}(h:mY K H e σ)(s:aH H H'):mY K H' e σ:=λi d q=>let ⟨v,h1,h2⟩:=h i d q;⟨v,h1,s.rv _ _ h2⟩
structure Zn(K:aA)(N:Fp)(Z H:Hp):Prop where
 sm:aH Z H
 tk:qT K H Z
 no:∀a,N a→Z a=none∧¬H a=none
theorem Zn.self(K:aA)(H:Hp):Zn K nil H H:=⟨aH.refl _,λ_ _ h=>h,λ_ z=>z.elim⟩
theorem qT.trans{K:aA}{H H1 H2:Hp}(a:qT K H H1)(b:qT K H1 H2):qT K H H2:=λp xs h=>b p xs (a p xs h)
theorem Ow.same{K:aA}{H H':Hp}{d:D}{A:Fp}{v:V}(h:Ow K H d A v)(s:aH H H'):Ow K H' d A v:=
 Ow.frame s.tk d A v h λa q=>by
  obtain⟨⟨o,e⟩,_⟩:=Ow.cells d A v h a q
  rw[e];exact s a o e
theorem cA.same{K:aA}{H H':Hp}{ds:List D}{A:Fp}{vs:List V}(h:cA K H ds A vs)(s:aH H H'):cA K H' ds A vs:=
 cA.frame s.tk ds A vs h λa q=>by
  obtain⟨⟨o,e⟩,_⟩:=cA.cells ds A vs h a q
  rw[e];exact s a o e
def By(K:aA)(H H':Hp)(d:D)(v:V):Prop:=∃A,Ow K H' d A v∧∀a,A a→H a=none
def xN(K:aA)(H H':Hp)(ds:List D)(vs:List V):Prop:=∃A,cA K H' ds A vs∧∀a,A a→H a=none
theorem By.rv{K:aA}{H H':Hp}{d:D}{v:V}(h:By K H H' d v):Rv K H' d v:=let ⟨A,o,_⟩:=h;Ow.rv d A v o
theorem xN.rv{K:aA}{H H':Hp}{ds:List D}{vs:List V}(h:xN K H H' ds vs):bI K H' ds vs:=let ⟨A,o,_⟩:=h;cA.rv ds A vs o
theorem By.back{K:aA}{H0 H H':Hp}{d:D}{v:V}(h:By K H H' d v)(s:aH H0 H):By K H0 H' d v:=let ⟨A,o,f⟩:=h;⟨A,o,λa q=>s.free (f a q)⟩
theorem By.fO{K:aA}{H H':Hp}{d:D}{v:V}(i:d.fO=true)(h:Rv K H' d v):By K H H' d v:=⟨nil,qU d v i h,λ_ z=>z.elim⟩
theorem xN.cF{K:aA}{H H':Hp}{ds:List D}{vs:List V}(i:D.cF ds=true)(h:bI K H' ds vs):xN K H H' ds vs:=⟨nil,zW ds vs i h,λ_ z=>z.elim⟩
open Classical in
noncomputable def zY(Z H H':Hp):Hp:=λa=>if H a=none then H' a else Z a
theorem pK{Z H H':Hp}{a:Addr}(h:H a=none):zY Z H H' a=H' a:=by unfold zY;rw[if_pos h]
theorem uX{Z H H':Hp}{a:Addr}(h:¬H a=none):zY Z H H' a=Z a:=by unfold zY;rw[if_neg h]
theorem qW{K:aA}{N:Fp}{Z H H':Hp}(z:Zn K N Z H):aH Z (zY Z H H'):=λb o e=>by
 rw[uX (by rw[z.sm b o e];intro q;cases q)];exact e
theorem zZ{K:aA}{N:Fp}{Z H H':Hp}(z:Zn K N Z H)(s:aH H H'):Zn K N (zY Z H H') H' where
  sm:=λb o e=>by
    by_cases c:H b=none
    · rw[pK c]at e;exact e
    · rw[uX c]at e;exact s b o (z.sm b o e)
  tk:=λa xs h=>by
    by_cases c:H a=none
    · rcases h with (h | ⟨o,h⟩) | h
      · exact .inl (.inl (by rw[pK c];exact h))
      · exact .inl (.inr ⟨o,by rw[pK c];exact h⟩)
      · exact .inr h
    · have q:lB K H a xs:=by
        rcases h with (h | ⟨o,h⟩) | h
        · cases e:H a with
          | none=>exact absurd e c
          | some o=>have:=s a o e;rw[h]at this;cases this;exact .inl (.inl e)
        · cases e:H a with
          | none=>exact absurd e c
          | some o=>have:=s a o e;rw[h]at this;cases this;exact .inl (.inr ⟨_,e⟩)
        · exact .inr h
      exact(qW z).tup (z.tk a xs q)
  no:=λa q=>⟨by rw[uX (z.no a q).2];exact(z.no a q).1,λh=>(z.no a q).2 (s.free h)⟩
theorem By.zone{K:aA}{N:Fp}{Z H H':Hp}{d:D}{v:V}(h:By K H H' d v)(z:Zn K N Z H)(s:aH H H'):Rv K (zY Z H H') d v:=by
 obtain⟨A,o,f⟩:=h
 exact Ow.rv d A v (Ow.frame (zZ z s).tk d A v o λa q=>pK (f a q))
def Aa(K:aA)(t:TE)(f:FE):Prop:=∀{N:Fp}(σ:St)(H Z:Hp)(e:DE)(d:D)(Q:VK),Zn K N Z H→mY K Z e σ→f e=some d →
 (∀v H' Z',aH H H'→aH Z Z'→Zn K N Z' H'→Rv K Z' d v→Q v H')→t σ H Q
def Ab(K:aA)(t:TE)(f:FE):Prop:=∀(σ:St)(H:Hp)(e:DE)(d:D)(Q:VK),mY K H e σ→f e=some d →
 (∀v H',aH H H'→By K H H' d v→Q v H')→t σ H Q
def My(K:aA)(t:TT)(f:FT):Prop:=∀(σ:St)(H:Hp)(e:DE)(b:Bool)(Q:Bool→Hp→Prop),mY K H e σ→f e=some b→(∀H',aH H H'→Q b H')→t σ H Q
def RJ(K:aA)(t:TA)(f:FA):Prop:=∀{N:Fp}(σ:St)(H Z:Hp)(e:DE)(ds:List D)(Q:List V→Hp→Prop),Zn K N Z H→mY K Z e σ→f e=some ds →
 (∀vs H' Z',aH H H'→aH Z Z'→Zn K N Z' H'→bI K Z' ds vs→Q vs H')→t σ H Q
def RK(K:aA)(t:TA)(f:FA):Prop:=∀(σ:St)(H:Hp)(e:DE)(ds:List D)(Q:List V→Hp→Prop),mY K H e σ→f e=some ds →
 (∀vs H',aH H H'→xN K H H' ds vs→Q vs H')→t σ H Q
theorem Ab.r{K:aA}{t:TE}{f:FE}(h:Ab K t f):Aa K t f:=λσ H Z e d Q z r q k=>
 h σ H e d Q (r.same z.sm) q λv H' s n=>k v H' (zY Z H H') s (qW z) (zZ z s) (n.zone z s)
def gD(f:FE):FE:=λe=>(f e).bind λd=>if d.fO=true then some d else none
theorem yK{f:FE}{e:DE}{d:D}:gD f e=some d↔f e=some d∧d.fO=true:=by
 unfold gD
 cases q:f e with
 | none=>simp
 | some a=>
  simp only[C7]
  split
  ·rename_i h;constructor
   ·intro z;cases z;exact⟨rfl,h⟩
   ·rintro⟨z,_⟩;exact z
  ·rename_i h;constructor
   ·intro z;cases z
   ·rintro⟨z,z2⟩;cases z;exact absurd z2 h
theorem Aa.n{K:aA}{t:TE}{f:FE}(h:Aa K t f):Ab K t (gD f):=λσ H e d Q r q k=>by
 obtain⟨q1,q2⟩:=yK.mp q
 exact h σ H H e d Q (Zn.self K H) r q1 λv H' Z' s1 s2 z' rv=>k v H' s1 (.fO q2 (z'.sm.rv _ _ rv))
def aD(i:Nat):FE:=λe=>(e[i]?).getD none
theorem HQ{K:aA}(i:Nat):Aa K (iW i) (aD i):=λσ H Z e d Q z r q k=>by
 have e1:e[i]?=some (some d):=by
  unfold aD at q
  cases h:e[i]? with
  | none=>rw[h]at q;cases q
  | some o=>rw[h]at q;cases q;rfl
 obtain⟨v,h1,h2⟩:=r i d e1
 exact⟨v,h1,k v H Z (aH.refl _) (aH.refl _) z h2⟩
def fC(d:D):FE:=λ_=>some d
theorem HR{K:aA}(i:Int):Ab K (tC (.int i)) (fC (.int i)):=λσ H e d Q r q k=>by cases q;exact k _ H (aH.refl _) (.fO rfl (by unfold Rv;rfl))
theorem VJ{K:aA}(i:Bool):Ab K (tC (.bl i)) (fC (.bl i)):=λσ H e d Q r q k=>by cases q;exact k _ H (aH.refl _) (.fO rfl (by unfold Rv;rfl))
theorem Pa{K:aA}(i:Str):Ab K (tC (.str i)) (fC (.str i)):=λσ H e d Q r q k=>by cases q;exact k _ H (aH.refl _) (.fO rfl (by unfold Rv;rfl))
def f2(φ:D→D→Option D)(f g:FE):FE:=λe=>(f e).bind λa=>(g e).bind λb=>φ a b
theorem pL{φ:D→D→Option D}{f g:FE}{e:DE}{d:D}(h:f2 φ f g e=some d):∃a b,f e=some a∧g e=some b∧φ a b=some d:=by
 unfold f2 at h
 obtain⟨a,h1,h2⟩:=aX h
 obtain⟨b,h3,h4⟩:=aX h2
 exact⟨a,b,h1,h3,h4⟩
def rm(K:aA)(r:R2)(φ:D→D→Option D):Prop:=∀{N:Fp}(x y:V)(H Z:Hp)(a b d:D)(Q:VK),Zn K N Z H→Rv K Z a x→Rv K Z b y→φ a b=some d →
 (∀v H' Z',aH H H'→aH Z Z'→Zn K N Z' H'→Rv K Z' d v→Q v H')→r x y H Q
def Mz(K:aA)(r:R2)(φ:D→D→Option D):Prop:=∀(x y:V)(H:Hp)(a b d:D)(Q:VK),Rv K H a x→Rv K H b y→φ a b=some d →
 (∀v H',aH H H'→By K H H' d v→Q v H')→r x y H Q
theorem VL{K:aA}{r:R2}{φ:D→D→Option D}{ta tb:TE}{f g:FE}(o:rm K r φ)(ha:Aa K ta f)(hb:Aa K tb g):Aa K (Cj r ta tb) (f2 φ f g):=λσ H Z e d Q z re q k=>by
 obtain⟨a,b,h1,h2,h3⟩:=pL q
 refine ha σ H Z e a _ z re h1 λx H1 Z1 s1 t1 z1 rx=>hb σ H1 Z1 e b _ z1 (re.same t1) h2 λy H2 Z2 s2 t2 z2 ry=>?_
 exact o x y H2 Z2 a b d Q z2 (t2.rv _ _ rx) ry h3 λv H3 Z3 s3 t3 z3 rv=>k v H3 Z3 (s1.trans (s2.trans s3)) (t1.trans (t2.trans t3)) z3 rv
theorem Pb{K:aA}{r:R2}{φ:D→D→Option D}{ta tb:TE}{f g:FE}(o:Mz K r φ)(ha:Aa K ta f)(hb:Aa K tb g):Ab K (Cj r ta tb) (f2 φ f g):=λσ H e d Q re q k=>by
 obtain⟨a,b,h1,h2,h3⟩:=pL q
 refine ha σ H H e a _ (Zn.self K H) re h1 λx H1 Z1 s1 t1 z1 rx=>hb σ H1 Z1 e b _ z1 (re.same t1) h2 λy H2 Z2 s2 t2 z2 ry=>?_
 exact o x y H2 a b d Q (z2.sm.rv _ _ (t2.rv _ _ rx)) (z2.sm.rv _ _ ry) h3 λv H3 s3 n=>k v H3 (s1.trans (s2.trans s3)) (n.back (s1.trans s2))
def uY(C:Int→Int→Prop) [∀i j,Decidable (C i j)] (g:Int→Int→D):D→D→Option D
 | .int i,.int j=>if C i j then some (g i j)else none
 | _,_=>none
theorem uZ{C:Int→Int→Prop} [∀i j,Decidable (C i j)] {g:Int→Int→D} {a b d:D} (h:uY C g a b=some d):∃i j,a=.int i∧b=.int j∧C i j∧d=g i j:=by
 unfold uY at h
 split at h
 ·split at h
  ·rename_i i j c;cases h;exact⟨i,j,rfl,rfl,c,rfl⟩
  ·cases h
 ·cases h
theorem vA{K:aA}{C:Int→Int→Prop} [∀i j,Decidable (C i j)] {C':Int→Int→Prop} (hC:∀i j,C i j→C' i j) {g:Int→Int→Int}:Mz K (rI C' λi j=>.int (g i j)) (uY C λi j=>.int (g i j)):=λx y H a b d Q ra rb q k=>by
 obtain⟨i,j,rfl,rfl,c,rfl⟩:=uZ q
 unfold Rv at ra rb
 exact⟨i,j,ra,rb,hC i j c,k _ H (aH.refl _) (.fO rfl (by unfold Rv;rfl))⟩
theorem Wn{K:aA}{g:Int→Int→Int}:Mz K (Nt λi j=>.int (g i j)) (uY (λ_ _=>True) λi j=>.int (g i j)):=λx y H a b d Q ra rb q k=>by
 obtain⟨i,j,rfl,rfl,c,rfl⟩:=uZ q
 unfold Rv at ra rb
 exact⟨i,j,ra,rb,k _ H (aH.refl _) (.fO rfl (by unfold Rv;rfl))⟩
theorem oF{K:aA}{g:Int→Int→Bool}:Mz K (Nt λi j=>.bl (g i j)) (uY (λ_ _=>True) λi j=>.bl (g i j)):=λx y H a b d Q ra rb q k=>by
 obtain⟨i,j,rfl,rfl,c,rfl⟩:=uZ q
 unfold Rv at ra rb
 exact⟨i,j,ra,rb,k _ H (aH.refl _) (.fO rfl (by unfold Rv;rfl))⟩
def aF:FA:=λ_=>some []
def aB(f:FE)(fs:FA):FA:=λe=>(f e).bind λa=>(fs e).bind λr=>some (a::r)
theorem lH{f:FE}{fs:FA}{e:DE}{ds:List D}(h:aB f fs e=some ds):∃a r,f e=some a∧fs e=some r∧ds=a::r:=by
 unfold aB at h
 obtain⟨a,h1,h2⟩:=aX h
 obtain⟨b,h3,h4⟩:=aX h2
 cases h4
 exact⟨a,b,h1,h3,rfl⟩
theorem Pg{K:aA}:RJ K lD aF:=λσ H Z e ds Q z re q k=>by cases q;exact k [] H Z (aH.refl _) (aH.refl _) z (by unfold bI;rfl)
theorem Im{K:aA}{te:TE}{t:TA}{f:FE}{fs:FA}(h:Aa K te f)(hs:RJ K t fs):RJ K (cY te t) (aB f fs):=λσ H Z e ds Q z re q k=>by
 obtain⟨a,r,h1,h2,rfl⟩:=lH q
 refine h σ H Z e a _ z re h1 λx H1 Z1 s1 t1 z1 rx=>hs σ H1 Z1 e r _ z1 (re.same t1) h2 λvs H2 Z2 s2 t2 z2 rs=>?_
 exact k _ H2 Z2 (s1.trans s2) (t1.trans t2) z2 (by unfold bI;exact⟨x,vs,rfl,t2.rv _ _ rx,rs⟩)
theorem HS{K:aA}:RK K lD aF:=λσ H e ds Q re q k=>by cases q;exact k [] H (aH.refl _) (.cF rfl (by unfold bI;rfl))
theorem Wo{K:aA}{te:TE}{t:TA}{f:FE}{fs:FA}(h:Ab K te f)(hs:RK K t fs):RK K (cY te t) (aB f fs):=λσ H e ds Q re q k=>by
 obtain⟨a,r,h1,h2,rfl⟩:=lH q
 refine h σ H e a _ re h1 λx H1 s1 n1=>hs σ H1 e r _ (re.same s1) h2 λvs H2 s2 n2=>?_
 refine k _ H2 (s1.trans s2) ?_
 obtain⟨A,oA,fA⟩:=n1
 obtain⟨B,oB,fB⟩:=n2
 refine⟨dH A B,?_,λp q=>q.elim (fA p) λz=>s1.free (fB p z)⟩
 unfold cA
 refine⟨x,vs,A,B,rfl,λp qa qb=>?_,λ_=>Iff.rfl,oA.same s2,oB⟩
 obtain⟨⟨o,e1⟩,_⟩:=Ow.cells _ _ _ oA p qa
 rw[fB p qb]at e1;cases e1
def cap(n:Nat)(d:D):Option D:=if n≤100000 then some d else none
theorem pM{n:Nat}{d d':D}(h:cap n d=some d'):n≤100000∧d'=d:=by
 unfold cap at h
 split at h
 ·rename_i c;cases h;exact⟨c,rfl⟩
 ·cases h
theorem vB{n:Nat}(h:n≤100000):n≤sizeLine:=by rw[sizeLine_eq];omega
theorem Ph{n:Nat}(h:n≤100000):n<sizeLine:=by rw[sizeLine_eq];omega
def fU(fs:FA):FE:=λe=>(fs e).bind λds=>cap ds.length (.lst ds)
def nP(fs:FA):FE:=λe=>(fs e).bind λds=>cap ds.length (.tup ds)
theorem jT{K:aA}{H H1:Hp}{ds:List D}{xs:List V}{p:Addr}(s:aH H H1)(n:xN K H H1 ds xs)(hp:H1 p=none):By K H (upd H1 p (.lst xs)) (.lst ds) (.ref p):=by
 obtain⟨A,o,f⟩:=n
 refine⟨dH (·=p) A,?_,λa q=>q.elim (λz=>by cases z;exact s.free hp) (f a)⟩
 unfold Ow
 refine⟨p,xs,A,rfl,bB,λz=>?_,λ_=>Iff.rfl,o.same (bM hp _)⟩
 obtain⟨⟨u,e⟩,_⟩:=cA.cells _ _ _ o p z
 rw[hp]at e;cases e
theorem Wq{K:aA}{H H1:Hp}{ds:List D}{xs:List V}{p:Addr}(n:xN K H H1 ds xs)(hp:H1 p=none):By K H (upd H1 p (.tup xs)) (.tup ds) (.ref p):=by
 obtain⟨A,o,f⟩:=n
 refine⟨A,?_,f⟩
 unfold Ow
 exact⟨p,xs,rfl,lB.of bB,o.same (bM hp _)⟩
theorem HW{K:aA}{t:TA}{fs:FA}(h:RK K t fs):Ab K (Kw t) (fU fs):=λσ H e d Q re q k=>by
 unfold fU at q
 obtain⟨ds,h1,h2⟩:=aX q
 obtain⟨hc,rfl⟩:=pM h2
 refine h σ H e ds _ re h1 λxs H1 s1 n=>⟨vB (by rw[n.rv.length];exact hc),λp hp=>?_⟩
 exact k _ _ (s1.trans (bM hp _)) (jT s1 n hp)
theorem HX{K:aA}{t:TA}{fs:FA}(h:RK K t fs):Ab K (Nx t) (nP fs):=λσ H e d Q re q k=>by
 unfold nP at q
 obtain⟨ds,h1,h2⟩:=aX q
 obtain⟨hc,rfl⟩:=pM h2
 refine h σ H e ds _ re h1 λxs H1 s1 n=>⟨vB (by rw[n.rv.length];exact hc),λp hp=>?_⟩
 exact k _ _ (s1.trans (bM hp _)) (Wq n hp)
theorem Pj{K:aA}{N:Fp}{Z H:Hp}{p:Addr}{o:HO}(z:Zn K N Z H)(hp:H p=none):aH Z (upd Z p o)∧Zn K N (upd Z p o) (upd H p o):=by
 have hz:Z p=none:=z.sm.free hp
 refine⟨bM hz o,⟨λb u e=>?_,λa xs h=>?_,λa q=>?_⟩⟩
 ·by_cases c:b=p
  ·subst c;rw[bB]at e;rw[bB];exact e
  ·rw[aR c]at e;rw[aR c];exact z.sm b u e
 ·by_cases c:a=p
  ·subst c
   rcases h with (h | ⟨u,h⟩) | h
   ·rw[bB]at h;exact .inl (.inl (by rw[bB];exact h))
   ·rw[bB]at h;exact .inl (.inr ⟨u,by rw[bB];exact h⟩)
   ·exact .inr h
  ·have q:lB K H a xs:=by
    rcases h with (h | ⟨u,h⟩) | h
    ·rw[aR c]at h;exact .inl (.inl h)
    ·rw[aR c]at h;exact .inl (.inr ⟨u,h⟩)
    ·exact .inr h
   exact(bM hz o).tup (z.tk a xs q)
 ·have c:a≠p:=λz'=>(z.no a q).2 (by rw[z'];exact hp)
  rw[aR c,aR c];exact z.no a q
theorem HY{K:aA}{t:TA}{fs:FA}(h:RJ K t fs):Aa K (Kw t) (fU fs):=λσ H Z e d Q z re q k=>by
 unfold fU at q
 obtain⟨ds,h1,h2⟩:=aX q
 obtain⟨hc,rfl⟩:=pM h2
 refine h σ H Z e ds _ z re h1 λxs H1 Z1 s1 t1 z1 rs=>⟨vB (by rw[rs.length];exact hc),λp hp=>?_⟩
 obtain⟨a1,a2⟩:=Pj (o:=.lst xs) z1 hp
 exact k _ _ _ (s1.trans (bM hp _)) (t1.trans a1) a2 (by unfold Rv;exact⟨p,xs,rfl,iY.of bB,a1.Lk _ _ rs⟩)
end L2


namespace L2
open PySem PySem.Spec PyProof.Rows
structure XR(K:aA)(X:Cx)(e:Expr)(t:TE)(f:FE):Prop where
 hk:X.K=K
 pe:PE X e t
 ev:Aa K t f
structure XN(K:aA)(X:Cx)(e:Expr)(t:TE)(f:FE):Prop where
 hk:X.K=K
 pe:PE X e t
 ev:Ab K t f
structure XT(K:aA)(X:Cx)(e:Expr)(t:TT)(f:FT):Prop where
 hk:X.K=K
 pt:PT X e t
 ev:My K t f
structure XW(K:aA)(X:Cx)(e:Expr)(t:TT)(f:FT):Prop where
 hk:X.K=K
 pw:PW X e t
 ev:My K t f
structure XA(K:aA)(X:Cx)(es:List Expr)(t:TA)(f:FA):Prop where
 hk:X.K=K
 pa:PA X es t
 ev:RJ K t f
structure XB(K:aA)(X:Cx)(es:List Expr)(t:TA)(f:FA):Prop where
 hk:X.K=K
 pa:PA X es t
 ev:RK K t f
section
variable{K:aA}{X:Cx}{e a b c:Expr}{es:List Expr}{t ta tb:TE}{f g:FE}{tA:TA}{fs:FA}{pos:Pos}
theorem XN.r(h:XN K X e t f):XR K X e t f:=⟨h.hk,h.pe,h.ev.r⟩
theorem XR.n(h:XR K X e t f):XN K X e t (gD f):=⟨h.hk,h.pe,Aa.n h.ev⟩
theorem aM{i:Nat}(h:PE X e (iW i))(hk:X.K=K:=by rfl):XR K X e (iW i) (aD i):=⟨hk,h,HQ i⟩
theorem aJ{i:Int}{j:Nat}(hk:X.K=K:=by rfl):XN K X (.Constant (.int i) j pos) (tC (.int i)) (fC (.int i)):=⟨hk,CJ,HR i⟩
theorem eU{i:Bool}{j:Nat}(hk:X.K=K:=by rfl):XN K X (.Constant (.bool i) j pos) (tC (.bl i)) (fC (.bl i)):=⟨hk,RW,VJ i⟩
theorem iV{x:Str}{j:Nat}(hk:X.K=K:=by rfl):XN K X (.Constant (.str x) j pos) (tC (.str x)) (fC (.str x)):=⟨hk,CK,Pa x⟩
theorem vC{op:Operator}{r:R2}{φ:D→D→Option D}(ho:nR X (binaryOp op) r)(hd:Mz K r φ)(ha:XR K X a ta f)(hb:XR K X b tb g):XN K X (.BinOp a op b pos) (Cj r ta tb) (f2 φ f g):=⟨ha.hk,SM ho ha.pe hb.pe,Pb hd ha.ev hb.ev⟩
def Cy:D→D→Option D:=uY (λ_ _=>True) λi j=>.int (i-j)
instance (i j:Int):Decidable (zM i j):=by unfold zM;exact inferInstance
instance (i j:Int):Decidable (Ku i j):=by unfold Ku;exact inferInstance
instance (i j:Int):Decidable (Kv i j):=by unfold Kv;exact inferInstance
def Cz:D→D→Option D:=uY zM λi j=>.int (i*j)
def lJ:D→D→Option D:=uY Ku λi j=>.int (i/j)
def dC:D→D→Option D:=uY (λ_ j=>0<j) λi j=>.int (i%j)
def lK:D→D→Option D:=uY Kv λi j=>.int (i ^ j.toNat)
theorem Ac(ha:XR K X a ta f)(hb:XR K X b tb g):XN K X (.BinOp a .Sub b pos) (Cj (Nt λi j=>.int (i-j)) ta tb) (f2 Cy f g):=vC DW Wn ha hb
theorem Ad(ha:XR K X a ta f)(hb:XR K X b tb g):XN K X (.BinOp a .Mult b pos) (Cj (rI zM λi j=>.int (i*j)) ta tb) (f2 Cz f g):=vC DX (vA λ_ _ h=>h) ha hb
theorem jU(ha:XR K X a ta f)(hb:XR K X b tb g):XN K X (.BinOp a .FloorDiv b pos) (Cj (rI Ku λi j=>.int (i/j)) ta tb) (f2 lJ f g):=vC Vj (vA λ_ _ h=>h) ha hb
theorem bZ(ha:XR K X a ta f)(hb:XR K X b tb g):XN K X (.BinOp a .Mod b pos) (Cj (rI (λ_ j=>0<j) λi j=>.int (i%j)) ta tb) (f2 dC f g):=vC DY (vA λ_ _ h=>h) ha hb
theorem oG(ha:XR K X a ta f)(hb:XR K X b tb g):XN K X (.BinOp a .Pow b pos) (Cj (rI Kv λi j=>.int (i ^ j.toNat)) ta tb) (f2 lK f g):=vC EY (vA λ_ _ h=>h) ha hb
theorem Fz{op:CmpOp}{r:R2}{φ:D→D→Option D}(ho:nR X (compareOp op) r)(hd:Mz K r φ)(ha:XR K X a ta f)(hb:XR K X b tb g)(hm:behindInMarks op b=false):XN K X (.Compare a [op] [b] pos) (Cj r ta tb) (f2 φ f g):=⟨ha.hk,Vn ho ha.pe hb.pe hm,Pb hd ha.ev hb.ev⟩
def fB(f:FE):FT:=λe=>(f e).bind λd=>match d with | .bl b=>some b | _=>none
theorem Ae{f:FE}{e:DE}{b:Bool}(h:fB f e=some b):f e=some (.bl b):=by
 unfold fB at h
 obtain⟨d,h1,h2⟩:=aX h
 split at h2
 ·cases h2;exact h1
 ·cases h2
theorem Wr(h:Aa K t f):My K (Nv t) (fB f):=λσ H e b Q re q k=>h σ H H e _ _ (Zn.self K H) re (Ae q) λv H' Z' s1 s2 z rv=>by
 unfold Rv at rv
 exact⟨b,rv,k H' s1⟩
theorem Zk(h:Aa K t f):My K (tB t) (fB f):=λσ H e b Q re q k=>h σ H H e _ _ (Zn.self K H) re (Ae q) λv H' Z' s1 s2 z rv=>by
 unfold Rv at rv
 exact⟨b,rv,k H' s1⟩
theorem fV{op:CmpOp}{r:R2}{φ:D→D→Option D}(ho:nR X (compareOp op) r)(hd:Mz K r φ)(ha:XR K X a ta f)(hb:XR K X b tb g)(hm:behindInMarks op b=false):XT K X (.Compare a [op] [b] pos) (Nv (Cj r ta tb)) (fB (f2 φ f g)):=⟨ha.hk,Vo ho ha.pe hb.pe hm,Wr (Pb hd ha.ev hb.ev).r⟩
theorem lM(h:XR K X e t f)(he:∀whole,isTrue e X.env whole=(do let v ←whole;standAt e.pos;holding [v] (truthy v)):=by intro _;rfl):XT K X e (tB t) (fB f):=⟨h.hk,CP h.pe he,Zk h.ev⟩
def Ga:D→D→Option D:=uY (λ_ _=>True) λi j=>.bl (decide (i<j))
def xu:D→D→Option D:=uY (λ_ _=>True) λi j=>.bl (decide (i≤j))
def dw:D→D→Option D:=uY (λ_ _=>True) λi j=>.bl (decide (j<i))
def xx:D→D→Option D:=uY (λ_ _=>True) λi j=>.bl (decide (j≤i))
def toV:D→Option V
  | .non=>some .non | .bl b=>some (.bl b) | .int i=>some (.int i) | .str x=>some (.str x)
  | _=>none
theorem Pk{H:Hp}{d:D}{v x:V}(h:toV d=some v)(r:Rv K H d x):x=v:=by
 cases d<;>unfold toV at h<;>first | (cases h;unfold Rv at r;exact r) | cases h
mutual
def cW:D→Option DV
 | .int i=>some (.int i)
 | .non=>some .non
 | .lst ds=>(lN ds).map DV.lst
 | .tup ds=>(lN ds).map DV.tup
 | _=>none
def lN:List D→Option (List DV)
 | []=>some []
 | d::ds=>(cW d).bind λx=>(lN ds).bind λxs=>some (x::xs)
end
mutual
theorem Af{H:Hp}:∀(d:D)(x:DV)(v:V),cW d=some x→Rv K H d v→Reads K H x v
 | .int i,x,v,h,r=>by unfold cW at h;cases h;unfold Rv at r;unfold Reads;exact r
 | .lst ds,x,v,h,r=>by
  unfold cW at h
  obtain⟨xs,h1,rfl⟩:=fJ h
  unfold Rv at r;unfold Reads
  obtain⟨a,vs,r1,r2,r3⟩:=r
  exact⟨a,vs,r1,r2,vD ds xs vs h1 r3⟩
 | .tup ds,x,v,h,r=>by
  unfold cW at h
  obtain⟨xs,h1,rfl⟩:=fJ h
  unfold Rv at r;unfold Reads
  obtain⟨a,vs,r1,r2,r3⟩:=r
  exact⟨a,vs,r1,r2,vD ds xs vs h1 r3⟩
 | .non,x,v,h,r=>by unfold cW at h;cases h;unfold Rv at r;unfold Reads;exact r
 | .bl _,x,v,h,r=>by unfold cW at h;cases h
 | .str _,x,v,h,r=>by unfold cW at h;cases h
 | .dk _ _,x,v,h,r=>by unfold cW at h;cases h
 | .dt _ _,x,v,h,r=>by unfold cW at h;cases h
 | .ins _ _ _,x,v,h,r=>by unfold cW at h;cases h
theorem vD{H:Hp}:∀(ds:List D)(xs:List DV)(vs:List V),lN ds=some xs→bI K H ds vs→bG K H xs vs
 | [],xs,vs,h,r=>by unfold lN at h;cases h;unfold bI at r;unfold bG;exact r
 | d::ds,xs,vs,h,r=>by
  unfold lN at h
  obtain⟨x,h1,h2⟩:=aX h
  obtain⟨xt,h3,h4⟩:=aX h2
  cases h4
  unfold bI at r;unfold bG
  obtain⟨y,ys,r1,r2,r3⟩:=r
  exact⟨y,ys,r1,Af d x y h1 r2,vD ds xt ys h3 r3⟩
end
mutual
theorem Pn:∀(d e:D)(x:DV),cW d=some x→cW e=some x→d=e
 | .int i,e,x,h,h'=>by
  unfold cW at h;cases h
  cases e<;>unfold cW at h'<;>first | (cases h';rfl) | cases h' | (obtain⟨xs,q1,q2⟩:=fJ h';cases q2)
 | .lst ds,e,x,h,h'=>by
  unfold cW at h
  obtain⟨xs,h1,rfl⟩:=fJ h
  cases e with
  | lst es=>unfold cW at h';obtain⟨ys,q1,q2⟩:=fJ h';cases q2;rw[qX ds es xs h1 q1]
  | tup es=>unfold cW at h';obtain⟨ys,q1,q2⟩:=fJ h';cases q2
  | _=>unfold cW at h';cases h'
 | .tup ds,e,x,h,h'=>by
  unfold cW at h
  obtain⟨xs,h1,rfl⟩:=fJ h
  cases e with
  | tup es=>unfold cW at h';obtain⟨ys,q1,q2⟩:=fJ h';cases q2;rw[qX ds es xs h1 q1]
  | lst es=>unfold cW at h';obtain⟨ys,q1,q2⟩:=fJ h';cases q2
  | _=>unfold cW at h';cases h'
 | .non,e,x,h,h'=>by
  unfold cW at h;cases h
  cases e<;>unfold cW at h'<;>first | (cases h';rfl) | cases h' | (obtain⟨xs,q1,q2⟩:=fJ h';cases q2)
 | .bl _,e,x,h,h'=>by unfold cW at h;cases h
 | .str _,e,x,h,h'=>by unfold cW at h;cases h
 | .dk _ _,e,x,h,h'=>by unfold cW at h;cases h
 | .dt _ _,e,x,h,h'=>by unfold cW at h;cases h
 | .ins _ _ _,e,x,h,h'=>by unfold cW at h;cases h
theorem qX:∀(ds es:List D)(xs:List DV),lN ds=some xs→lN es=some xs→ds=es
 | [],[],xs,h,h'=>rfl
 | [],e::es,xs,h,h'=>by
  unfold lN at h h'
  cases h
  obtain⟨x,h1,h2⟩:=aX h'
  obtain⟨xt,h3,h4⟩:=aX h2
  cases h4
 | d::ds,[],xs,h,h'=>by
  unfold lN at h h'
  cases h'
  obtain⟨x,h1,h2⟩:=aX h
  obtain⟨xt,h3,h4⟩:=aX h2
  cases h4
 | d::ds,e::es,xs,h,h'=>by
  unfold lN at h h'
  obtain⟨x,h1,h2⟩:=aX h
  obtain⟨xt,h3,h4⟩:=aX h2
  cases h4
  obtain⟨y,k1,k2⟩:=aX h'
  obtain⟨yt,k3,k4⟩:=aX k2
  cases k4
  rw[Pn d e x h1 k1,qX ds es xt h3 k3]
end
noncomputable def Ca(a b:D):Option D:=match toV a,toV b with
 | some x,some y=>if Nu x y=true then some (.bl (decide (x=y)))else none
 | _,_=>match cW a,cW b with
  | some x,some y=>if x.depth≤32 then some (.bl (pF x y))else none
  | _,_=>none
theorem yL:Mz K (λx y H Q=>cu x y H Q∨HF K false x y H Q) Ca:=λx y H a b d Q ra rb q k=>by
 unfold Ca at q
 split at q
 ·rename_i u v h1 h2
  split at q
  ·rename_i hs
   cases q
   rw[Pk h1 ra,Pk h2 rb]
   exact .inl ⟨hs,k _ H (aH.refl _) (.fO rfl (by unfold Rv;rfl))⟩
  ·cases q
 ·split at q
  ·rename_i u v h1 h2
   split at q
   ·rename_i hs
    cases q
    exact .inr ⟨u,v,Af a u x h1 ra,Af b v y h2 rb,hs,k _ H (aH.refl _) (.fO rfl (by unfold Rv;rfl))⟩
   ·cases q
  ·cases q
noncomputable def yc(a b:D):Option D:=match toV a,toV b with
 | some x,some y=>if Nu x y=true then some (.bl (!decide (x=y)))else none
 | _,_=>match cW a,cW b with
  | some (.lst x),some (.lst y)=>if dR x≤32 then some (.bl (!pF (.lst x) (.lst y)))else none
  | some (.tup x),some (.tup y)=>if dR x≤32 then some (.bl (!pF (.tup x) (.tup y)))else none
  | _,_=>none
theorem or_eq(hu:X.A.units+64<cLine)(hk:X.K=K):nR X (compareOp .Eq) (λx y H Q=>cu x y H Q∨HF K false x y H Q):=by subst hk;exact TJ.or (HH hu)
def pN:D→Option (List D)
 | .lst ds=>some ds
 | .tup ds=>some ds
 | _=>none
theorem Io{H:Hp}{d:D}{ds:List D}{v:V}(h:pN d=some ds)(r:Rv K H d v):∃p xs,v=.ref p∧(iY K H p xs∨lB K H p xs)∧bI K H ds xs:=by
 cases d with
 | lst es=>unfold pN at h;cases h;unfold Rv at r;obtain⟨p,xs,r1,r2,r3⟩:=r;exact⟨p,xs,r1,.inl r2,r3⟩
 | tup es=>unfold pN at h;cases h;unfold Rv at r;obtain⟨p,xs,r1,r2,r3⟩:=r;exact⟨p,xs,r1,.inr r2,r3⟩
 | _=>unfold pN at h;cases h
end
section
variable{κ:Type} [DecidableEq κ] {K:aA} {H:Hp}
def posK:List κ→κ→Option Nat
 | [],_=>none
 | a::ks,k=>if a=k then some 0 else(posK ks k).map (·+1)
theorem jA:∀{ks:List κ} {xs:List V} {k:κ},ks.length=xs.length→kJ (ks.zip xs) k=(posK ks k).bind λj=>xs[j]?
 | [],xs,k,h=>by unfold posK;rfl
 | a::ks,[],k,h=>by simp at h
 | a::ks,x::xs,k,h=>by
  have ih:=jA (ks:=ks) (xs:=xs) (k:=k) (by simpa using h)
  unfold posK
  rw[G7]
  unfold kJ at ih ⊢
  rw[K9]
  by_cases c:a=k
  ·rw[if_pos c,decide_eq_true c];rfl
  ·rw[if_neg c,decide_eq_false c]
   show Option.map _ (List.find? _ (ks.zip xs))=_
   rw[ih]
   cases posK ks k<;>rfl
theorem uA:∀{ks:List κ} {k:κ} {j:Nat},posK ks k=some j→j<ks.length∧ks[j]?=some k
 | [],k,j,h=>by unfold posK at h;cases h
 | a::ks,k,j,h=>by
  unfold posK at h
  split at h
  ·rename_i c;cases h;exact⟨by simp,by simp[c]⟩
  ·obtain⟨i,h1,rfl⟩:=fJ h
   obtain⟨a1,a2⟩:=uA h1
   exact⟨by simpa using a1,by simpa using a2⟩
theorem qY:∀{ks:List κ} {k:κ},posK ks k=none↔k∉ks
  | [],k=>by unfold posK;simp
  | a::ks,k=>by
    unfold posK
    have ih:=qY (ks:=ks) (k:=k)
    split
    · rename_i c;simp[c]
    · rename_i c
      rw[Option.map_eq_none_iff,ih,D6]
      constructor
      · rintro h (q | q)
        · exact c q.symm
        · exact h q
      · intro h q;exact h (.inr q)
def vG(ks:List κ)(k:κ):List κ:=if(posK ks k).isSome then ks else ks++[k]
def putD{β:Type}(ks:List κ)(ds:List β)(k:κ)(d:β):List β:=if(posK ks k).isSome then P0 (λk' d'=>if k'=k then d else d') ks ds else ds++[d]
theorem Dc{β:Type}{ks:List κ}{ds:List β}{k:κ}{d:β}(h:ks.length=ds.length):(vG ks k).length=(putD ks ds k d).length:=by
 unfold vG putD
 split
 ·rw[List.length_zipWith,h,U3]
 ·rw[F1,F1,h];rfl
theorem Pq{ks:List κ}{xs:List V}{k:κ}{v:V}(h:ks.length=xs.length):putK (ks.zip xs) k v=(vG ks k).zip (putD ks xs k v):=by
 have ha:((ks.zip xs).any λkv=>decide (kv.1=k))=(posK ks k).isSome:=by
  rw[uP,jA h]
  cases q:posK ks k with
  | none=>rfl
  | some j=>
   obtain⟨h1,h2⟩:=uA q
   rw[C7,B0 (by omega)]
   rfl
 unfold putK vG putD
 rw[ha]
 by_cases c:(posK ks k).isSome=true
 ·rw[if_pos c,if_pos c,if_pos c]
  clear ha c
  induction ks generalizing xs with
  | nil=>rfl
  | cons a ks ih=>
   cases xs with
   | nil=>simp at h
   | cons x xs=>
    rw[G7,B5,K1,G7,ih (by simpa using h)]
    split<;>rfl
 ·rw[if_neg c,if_neg c,if_neg c,List.zip_append h]
  rfl
end
def Ln:D→Option Key
 | .int i=>some (.inl i)
 | .str x=>some (.inr x)
 | _=>none
theorem uB{K:aA}{H:Hp}{d:D}{k:Key}{v:V}(h:Ln d=some k)(r:Rv K H d v):v=kV k:=by
 cases d<;>unfold Ln at h<;>first | (cases h;unfold Rv at r;exact r) | cases h
def kD:Key→D
 | .inl i=>.int i
 | .inr x=>.str x
section
variable{K:aA}{X:Cx}{e a b c:Expr}{es:List Expr}{t ta tb:TE}{f g:FE}{pos:Pos}
def eE(neg:Bool)(k d:D):Option D:=match d with
 | .dk ks ds=>(Ln k).bind λk=>some (.bl (if neg then !(posK ks k).isSome else(posK ks k).isSome))
 | _=>none
def Lp(d k:D):Option D:=match d with
 | .dk ks ds=>(Ln k).bind λk=>(posK ks k).bind λj=>ds[j]?
 | _=>none
theorem Gb{ks:List Key}{xs:List V}{k:Key}(h:ks.length=xs.length):(kJ (ks.zip xs) k).isSome=(posK ks k).isSome:=by
 rw[jA h]
 cases q:posK ks k with
 | none=>rfl
 | some j=>
  obtain⟨h1,h2⟩:=uA q
  rw[C7,B0 (by omega)]
  rfl
theorem Dd{H:Hp}{x y:V}{ka d r:D}{neg:Bool}(h:eE neg ka d=some r)(rk:Rv K H ka y)(rd:Rv K H d x):∃p o,x=.ref p∧Cr H p y o∧r=.bl (if neg then !o.isSome else o.isSome):=by
 unfold eE at h
 split at h
 ·rename_i ks ds
  obtain⟨k,h1,h2⟩:=aX h
  cases h2
  unfold Rv at rd
  obtain⟨p,xs,r1,r2,r3,r4⟩:=rd
  refine⟨p,kJ (ks.zip xs) k,r1,.inl ⟨_,k,r2,uB h1 rk,rfl⟩,?_⟩
  rw[Gb r3]
 ·cases h
theorem IK(hu:X.A.units+1<cLine)(ha:XR K X a ta f)(hb:XR K X b tb g)(h1:behindInMarks .In b=false:=by first | exact nobehind _ (by decide) (by decide) | rfl):XN K X (.Compare a [.In] [b] pos) (GQ ta tb) (f2 (eE false) f g):=
 ⟨ha.hk,Nk (Oc hu ha.pe hb.pe) h1,λσ H e d Q re q k=>by
  obtain⟨da,db,q1,q2,q3⟩:=pL q
  refine ha.ev σ H H e da _ (Zn.self K H) re q1 λx H1 Z1 s1 t1 z1 rx=>hb.ev σ H1 Z1 e db _ z1 (re.same t1) q2 λy H2 Z2 s2 t2 z2 ry=>?_
  obtain⟨p,o,e1,e2,e3⟩:=Dd q3 (z2.sm.rv _ _ (t2.rv _ _ rx)) (z2.sm.rv _ _ ry)
  subst e3
  exact⟨p,o,e1,e2,k _ H2 (s1.trans s2) (.fO rfl (by unfold Rv;rfl))⟩⟩
theorem Lq(hu:X.A.units+1<cLine)(ha:XR K X a ta f)(hb:XR K X b tb g)(h1:behindInMarks .NotIn b=false:=by first | exact nobehind _ (by decide) (by decide) | rfl):XN K X (.Compare a [.NotIn] [b] pos) (zU ta tb) (f2 (eE true) f g):=
 ⟨ha.hk,Nk (yG hu ha.pe hb.pe) h1,λσ H e d Q re q k=>by
  obtain⟨da,db,q1,q2,q3⟩:=pL q
  refine ha.ev σ H H e da _ (Zn.self K H) re q1 λx H1 Z1 s1 t1 z1 rx=>hb.ev σ H1 Z1 e db _ z1 (re.same t1) q2 λy H2 Z2 s2 t2 z2 ry=>?_
  obtain⟨p,o,e1,e2,e3⟩:=Dd q3 (z2.sm.rv _ _ (t2.rv _ _ rx)) (z2.sm.rv _ _ ry)
  subst e3
  exact⟨p,o,e1,e2,k _ H2 (s1.trans s2) (.fO rfl (by unfold Rv;rfl))⟩⟩
theorem Zm{op:CmpOp}(h:XN K X (.Compare a [op] [b] pos) t f)(pc:PC X op a b t)(h1:behindInMarks op b=false):XT K X (.Compare a [op] [b] pos) (tB t) (fB f):=⟨h.hk,CN pc h1,Zk h.ev.r⟩
theorem qZ(hu:X.A.units+1<cLine)(ha:XR K X a ta f)(hb:XR K X b tb g)(h1:behindInMarks .In b=false:=by first | exact nobehind _ (by decide) (by decide) | rfl):XT K X (.Compare a [.In] [b] pos) (tB (GQ ta tb)) (fB (f2 (eE false) f g)):=Zm (IK hu ha hb h1) (Oc hu ha.pe hb.pe) h1
theorem jB(hu:X.A.units+1<cLine)(ha:XR K X a ta f)(hb:XR K X b tb g)(h1:behindInMarks .NotIn b=false:=by first | exact nobehind _ (by decide) (by decide) | rfl):XT K X (.Compare a [.NotIn] [b] pos) (tB (zU ta tb)) (fB (f2 (eE true) f g)):=Zm (Lq hu ha hb h1) (yG hu ha.pe hb.pe) h1
theorem Ws(hu:X.A.units+1<cLine)(ha:XR K X a ta f)(hb:XR K X b tb g)(hs:GP b):XR K X (.Subscript a b pos) (Zh ta tb) (f2 Lp f g):=
 ⟨ha.hk,Wa hu ha.pe hb.pe hs,λσ H Z e d Q z re q k=>by
  obtain⟨da,db,q1,q2,q3⟩:=pL q
  refine ha.ev σ H Z e da _ z re q1 λx H1 Z1 s1 t1 z1 rx=>hb.ev σ H1 Z1 e db _ z1 (re.same t1) q2 λy H2 Z2 s2 t2 z2 ry=>?_
  have jt:=t2.rv _ _ rx
  unfold Lp at q3
  split at q3
  ·rename_i ks ds
   obtain⟨kk,h1,h2⟩:=aX q3
   obtain⟨j,h3,h4⟩:=aX h2
   unfold Rv at jt
   obtain⟨p,xs,r1,r2,r3,r4⟩:=jt
   obtain⟨v,e1,e2⟩:=r4.get h4
   refine⟨p,v,r1,.inl ⟨_,kk,z2.sm.rd r2,uB h1 ry,?_⟩,k v H2 Z2 (s1.trans s2) (t1.trans t2) z2 e2⟩
   rw[jA r3,h3]
   exact e1.symm
  ·cases q3⟩
def oZ(a i:D):Option D:=match i with
 | .int i=>(pN a).bind λds=>Oa ds i
 | _=>none
theorem Zo{H:Hp}{ds:List D}{xs:List V}{i:Int}{d:D}(r:bI K H ds xs)(h:Oa ds i=some d):∃v,Oa xs i=some v∧Rv K H d v:=by
 unfold Oa at h ⊢
 obtain⟨j,h1,h2⟩:=aX h
 rw[r.length,h1]
 exact r.get h2
theorem VM(hk:X.K=K):Uv X (di K):=by subst hk;exact GF
theorem gK(ha:XR K X a ta f)(hb:XR K X b tb g)(hs:Ie b):XR K X (.Subscript a b pos) (Cj (di K) ta tb) (f2 oZ f g):=
 ⟨ha.hk,TY (VM ha.hk) ha.pe hb.pe hs,VL (λx y H Z da db d Q z ra rb q k=>by
  unfold oZ at q
  split at q
  ·rename_i i
   obtain⟨ds,h1,h2⟩:=aX q
   unfold Rv at rb
   cases da with
   | lst es=>
    unfold pN at h1;cases h1
    unfold Rv at ra
    obtain⟨p,xs,r1,r2,r3⟩:=ra
    obtain⟨v,e1,e2⟩:=Zo r3 h2
    exact .inl ⟨p,xs,i,v,r1,rb,z.sm.seq r2,e1,k v H Z (aH.refl _) (aH.refl _) z e2⟩
   | tup es=>
    unfold pN at h1;cases h1
    unfold Rv at ra
    obtain⟨p,xs,r1,r2,r3⟩:=ra
    obtain⟨v,e1,e2⟩:=Zo r3 h2
    exact .inr (.inl ⟨p,xs,i,v,r1,rb,z.sm.tup r2,e1,k v H Z (aH.refl _) (aH.refl _) z e2⟩)
   | _=>unfold pN at h1;cases h1
  ·cases q) ha.ev hb.ev⟩
end
end L2


namespace L2
open PySem PySem.Spec PyProof.Rows
section
variable{K:aA}{X:Cx}{e a b c:Expr}{es rest:List Expr}{t ta tb:TE}{f g:FE}{tA:TA}{fs:FA}{pos:Pos}{tc:TT}{fc fd:FT}{td:TT}
theorem aQ(hk:X.K=K:=by rfl):XA K X [] lD aF:=⟨hk,iU,Pg⟩
theorem aG(h:XR K X e t f)(hs:XA K X es tA fs)(hst:starEach (e::es) X.env=(false,eval e X.env)::starEach es X.env:=by rfl):XA K X (e::es) (cY t tA) (aB f fs):=⟨h.hk,bN h.pe hs.pa hst,Im h.ev hs.ev⟩
theorem fW(hk:X.K=K:=by rfl):XB K X [] lD aF:=⟨hk,iU,HS⟩
theorem aV(h:XN K X e t f)(hs:XB K X es tA fs)(hst:starEach (e::es) X.env=(false,eval e X.env)::starEach es X.env:=by rfl):XB K X (e::es) (cY t tA) (aB f fs):=⟨h.hk,bN h.pe hs.pa hst,Wo h.ev hs.ev⟩
theorem oH(h:XB K X es tA fs):XN K X (.List es pos) (Kw tA) (fU fs):=⟨h.hk,Fi h.pa,HW h.ev⟩
theorem rA(h:XA K X es tA fs):XR K X (.List es pos) (Kw tA) (fU fs):=⟨h.hk,Fi h.pa,HY h.ev⟩
theorem rB{x1:Nat}(h:XB K X es tA fs):XN K X (.Tuple es x1 pos) (Nx tA) (nP fs):=⟨h.hk,Ny h.pa,HX h.ev⟩
theorem Wt:Ab K Fq (fC (.dk [] [])):=λσ H e d Q re q k=>by
 cases q
 intro p hp
 refine k _ _ (bM hp _) ⟨(·=p),?_,λa q=>by cases q;exact hp⟩
 unfold Ow
 exact⟨p,[],nil,rfl,bB,rfl,λz=>z,λx=>⟨.inl,λz=>z.elim id False.elim⟩,by unfold cA;exact⟨λ_ z=>z,rfl⟩⟩
theorem pO(hk:X.K=K:=by rfl):XN K X (.Dict [] [] pos) Fq (fC (.dk [] [])):=⟨hk,Oe,Wt⟩
def dU(f g:FT):FT:=λe=>(f e).bind λc=>if c=true then g e else some false
def yd(f g:FT):FT:=λe=>(f e).bind λc=>if c=true then some true else g e
def oJ(f:FT):FT:=λe=>(f e).map λc=>!c
theorem IV(h1:My K tc fc)(h2:My K td fd):My K (CQ tc td) (dU fc fd):=λσ H e b Q re q k=>by
 unfold dU at q
 obtain⟨c,q1,q2⟩:=aX q
 refine h1 σ H e c _ re q1 λH1 s1=>?_
 cases c with
 | true=>rw[if_pos rfl]at q2 ⊢;exact h2 σ H1 e b Q (re.same s1) q2 λH2 s2=>k H2 (s1.trans s2)
 | false=>rw[if_neg (by decide)]at q2 ⊢;cases q2;exact k H1 s1
theorem IW(h1:My K tc fc):My K (CT tc) (oJ fc):=λσ H e b Q re q k=>by
 unfold oJ at q
 obtain⟨c,q1,rfl⟩:=fJ q
 exact h1 σ H e c _ re q1 k
theorem XW.xt(h:XW K X e tc fc):XT K X e tc fc:=⟨h.hk,h.pw.pt,h.ev⟩
theorem eV(h:XT K X a tc fc):XW K X (.BoolOp .And [a] pos) tc fc:=⟨h.hk,Vf h.pt,h.ev⟩
theorem iB(h:XT K X a tc fc)(h2:XW K X (.BoolOp .And (b::rest) pos) td fd):XW K X (.BoolOp .And (a::b::rest) pos) (CQ tc td) (dU fc fd):=⟨h.hk,CV h.pt h2.pw,IV h.ev h2.ev⟩
theorem Gd(h:XT K X a tc fc):XT K X (.UnaryOp .Not a pos) (CT tc) (oJ fc):=⟨h.hk,CW h.pt,IW h.ev⟩
def De(f g:FE):FE:=λe=>(fB f e).bind λc=>if c=true then g e else some (.bl false)
theorem Wu{op:BoolOp}(h:XN K X a t f):XN K X (.BoolOp op [a] pos) t f:=⟨h.hk,CZ h.pe,h.ev⟩
theorem JB(h:XR K X a ta f)(h2:XN K X (.BoolOp .And (b::rest) pos) tb g):XN K X (.BoolOp .And (a::b::rest) pos) (Yy ta tb) (De f g):=⟨h.hk,DG h.pe h2.pe,λσ H e d Q re q k=>by
 unfold De at q
 obtain⟨c,q1,q2⟩:=aX q
 refine h.ev σ H H e _ _ (Zn.self K H) re (Ae q1) λv H1 Z1 s1 t1 z1 rv=>?_
 unfold Rv at rv
 refine⟨c,rv,?_⟩
 cases c with
 | true=>rw[if_pos rfl]at q2 ⊢;exact h2.ev σ H1 e d Q (re.same s1) q2 λv H2 s2 n=>k v H2 (s1.trans s2) (n.back s1)
 | false=>rw[if_neg (by decide)]at q2 ⊢;cases q2;exact k _ H1 s1 (.fO rfl (by unfold Rv;rfl))⟩
theorem JC(ha:XR K X a ta f):XN K X (.UnaryOp .USub a pos) (SJ (rU λi=>.int (-i)) ta) (λe=>(f e).bind λd=>match d with | .int i=>some (.int (-i)) | _=>none):=⟨ha.hk,SN FJ ha.pe,λσ H e d Q re q k=>by
 obtain⟨c,q1,q2⟩:=aX q
 split at q2
 ·rename_i i
  cases q2
  refine ha.ev σ H H e _ _ (Zn.self K H) re q1 λv H1 Z1 s1 t1 z1 rv=>?_
  unfold Rv at rv
  exact⟨i,rv,k _ H1 s1 (.fO rfl (by unfold Rv;rfl))⟩
 ·cases q2⟩
def fL(φ:List D→Option D)(fs:FA):FE:=λe=>(fs e).bind φ
def vH(K:aA)(r:List V→Hp→VK→Prop)(φ:List D→Option D):Prop:=∀(vs:List V)(H:Hp)(ds:List D)(d:D)(Q:VK),bI K H ds vs→φ ds=some d →
 (∀v H',aH H H'→By K H H' d v→Q v H')→r vs H Q
theorem Pu{r:List V→Hp→VK→Prop}{φ:List D→Option D}(o:vH K r φ)(h:RJ K tA fs):Ab K (Nz r tA) (fL φ fs):=λσ H e d Q re q k=>by
 obtain⟨ds,q1,q2⟩:=aX q
 exact h σ H H e ds _ (Zn.self K H) re q1 λvs H1 Z1 s1 t1 z1 rs=>o vs H1 ds d Q (z1.sm.Lk _ _ rs) q2 λv H2 s2 n=>k v H2 (s1.trans s2) (n.back s1)
theorem Ip{r:List V→Hp→VK→Prop}{φ:List D→Option D}{x:Str}{id:String}{p:Pos}(o:vH K r φ)(hc:fM X (.builtin id) r)(hg:Gl X x)(hm:X.mg x=none)(hv:bootBuiltins x=some (.builtin id))(ha:XA K X (e::es) tA fs)(hn:x ≠ "__name__" := by decide) (hdb:(x==("__debug__" : Str))=false:=by decide)
  (he:starEach (e::es) X.env=(false,eval e X.env)::starEach es X.env:=by rfl) (hpl:(backTo pos (starEach es X.env)).any (·.1)=false:=by rfl):XN K X (.Call (.Name x p) (e::es) [] pos) (Nz r tA) (fL φ fs):=⟨ha.hk,lE hc hg hm hv ha.pa hn hdb he hpl,Pu o ha.ev⟩
theorem Ir{r:List V→Hp→VK→Prop}{φ:List D→Option D}{x:Str}{id:String}{p:Pos}(o:vH K r φ)(hc:fM X (.type id) r)(hg:Gl X x)(hm:X.mg x=none)(hv:bootBuiltins x=some (.type id))(ha:XA K X (e::es) tA fs)(hn:x ≠ "__name__" := by decide) (hdb:(x==("__debug__" : Str))=false:=by decide)
  (he:starEach (e::es) X.env=(false,eval e X.env)::starEach es X.env:=by rfl) (hpl:(backTo pos (starEach es X.env)).any (·.1)=false:=by rfl):XN K X (.Call (.Name x p) (e::es) [] pos) (Nz r tA) (fL φ fs):=⟨ha.hk,La hc hg hm hv ha.pa hn hdb he hpl,Pu o ha.ev⟩
theorem Ag{H:Hp}{d:D}{vs:List V}(h:bI K H [d] vs):∃v,vs=[v]∧Rv K H d v:=by
 unfold bI at h
 obtain⟨y,ys,rfl,h1,h2⟩:=h
 unfold bI at h2
 subst h2
 exact⟨y,rfl,h1⟩
def vI:List D→Option D
 | [d]=>(pN d).map λds=>.int ds.length
 | _=>none
def VN(K:aA):List V→Hp→VK→Prop:=λxs H Q=>∃p ys,xs=[.ref p]∧(iY K H p ys∨lB K H p ys)∧Q (.int ys.length) H
theorem Ah:vH K (VN K) vI:=λvs H ds d Q rs q k=>by
 unfold vI at q
 split at q
 ·rename_i d0
  obtain⟨es,q1,rfl⟩:=fJ q
  obtain⟨v,rfl,r⟩:=Ag rs
  obtain⟨p,xs,rfl,r2,r3⟩:=Io q1 r
  refine⟨p,xs,rfl,r2,k _ H (aH.refl _) (.fO rfl ?_)⟩
  rw[r3.length];unfold Rv;rfl
 ·cases q
theorem Ai(hk:X.K=K):fM X (.builtin "len") (VN K):=by subst hk;exact zQ
def dList:List D→Option D
 | [d]=>(pN d).bind λds=>if D.cF ds=true then some (.lst ds)else none
 | _=>none
def Zq(K:aA):List V→Hp→VK→Prop:=λxs H Q=>∃p ys,xs=[.ref p]∧(iY K H p ys∨lB K H p ys)∧∀l,H l=none→Q (.ref l) (upd H l (.lst ys))
theorem Iu:vH K (Zq K) dList:=λvs H ds d Q rs q k=>by
 unfold dList at q
 split at q
 ·rename_i d0
  obtain⟨es,q1,q2⟩:=aX q
  split at q2
  ·rename_i hi
   cases q2
   obtain⟨v,rfl,r⟩:=Ag rs
   obtain⟨p,xs,rfl,r2,r3⟩:=Io q1 r
   exact⟨p,xs,rfl,r2,λl hl=>k _ _ (bM hl _) (jT (aH.refl _) (.cF hi r3) hl)⟩
  ·cases q2
 ·cases q
theorem Iv(hk:X.K=K):fM X (.type "list") (Zq K):=by subst hk;exact zR
def intsOf:List D→Option (List Int)
 | []=>some []
 | .int i::ds=>(intsOf ds).map (i::·)
 | _=>none
theorem lO:∀{ds:List D} {ns:List Int},intsOf ds=some ns→ds=ns.map D.int
 | [],ns,h=>by unfold intsOf at h;cases h;rfl
 | d::ds,ns,h=>by
  cases d with
  | int i=>
   unfold intsOf at h
   obtain⟨ms,h1,rfl⟩:=fJ h
   rw[B5,←lO h1]
  | _=>unfold intsOf at h;cases h
theorem jC{H:Hp}:∀{ns:List Int} {xs:List V},bI K H (ns.map D.int) xs↔xs=ns.map V.int
 | [],xs=>by rw[F5,F5];unfold bI;rfl
 | n::ns,xs=>by
  rw[B5,B5]
  unfold bI
  constructor
  ·rintro⟨y,ys,rfl,h1,h2⟩
   unfold Rv at h1
   rw[h1,jC.mp h2]
  ·rintro rfl
   exact⟨_,_,rfl,by unfold Rv;rfl,jC.mpr rfl⟩
theorem vJ:∀ns:List Int,D.cF (ns.map D.int)=true
 | []=>by rw[F5];unfold D.cF;rfl
 | n::ns=>by rw[B5];unfold D.cF D.fO;rw[vJ ns];rfl
def ju:List D→Option D
 | [.int i,.int j]=>some (.int (if j > i then j else i))
 | _=>none
def jw:List D→Option D
 | [.int i,.int j]=>some (.int (if j<i then j else i))
 | _=>none
end
end L2


namespace L2
open PySem PySem.Spec PyProof.Rows
section
variable{K:aA}{X:Cx}{e a b c:Expr}{es rest:List Expr}{t ta tb:TE}{f g:FE}{tA:TA}{fs:FA}{pos:Pos}{tc:TT}{fc fd:FT}{td:TT}
abbrev FO:=DE→Option (Option Int)
def rn(K:aA)(t:TO)(f:FO):Prop:=∀(σ:St)(H:Hp)(e:DE)(o:Option Int)(Q:Option Int→Hp→Prop),mY K H e σ→f e=some o→(∀H',aH H H'→Q o H')→t σ H Q
structure XO(K:aA)(X:Cx)(e:Option Expr)(t:TO)(f:FO):Prop where
 po:PO X e t
 ev:rn K t f
def eX:FO:=λ_=>some none
def cL(f:FE):FO:=λe=>(f e).bind λd=>match d with | .int i=>some (some i) | _=>none
theorem pP:XO K X none Ib eX:=⟨Vs,λσ H e o Q re q k=>by cases q;exact k H (aH.refl _)⟩
theorem jV(h:XR K X e t f):XO K X (some e) (Ze t) (cL f):=⟨Vt h.pe,λσ H e o Q re q k=>by
 unfold cL at q
 obtain⟨d,q1,q2⟩:=aX q
 split at q2
 ·rename_i i
  cases q2
  refine h.ev σ H H e _ _ (Zn.self K H) re q1 λv H1 Z1 s1 t1 z1 rv=>?_
  unfold Rv at rv
  exact⟨i,rv,k H1 s1⟩
 ·cases q2⟩
def kO{α:Type}(xs:List α)(lo hi:Option Int):List α:=(xs.drop (HT.tO xs.length 0 lo)).take (HT.tO xs.length xs.length hi-HT.tO xs.length 0 lo)
theorem bI.drop{H:Hp}:∀{ds:List D} {xs:List V} (n:Nat),bI K H ds xs→bI K H (ds.drop n) (xs.drop n)
 | ds,xs,0,h=>h
 | [],xs,n+1,h=>by unfold bI at h;subst h;simp;unfold bI;rfl
 | d::ds,xs,n+1,h=>by unfold bI at h;obtain⟨y,ys,rfl,_,h2⟩:=h;simpa using bI.drop n h2
theorem bI.take{H:Hp}:∀{ds:List D} {xs:List V} (n:Nat),bI K H ds xs→bI K H (ds.take n) (xs.take n)
 | ds,xs,0,h=>by simp;unfold bI;rfl
 | [],xs,n+1,h=>by unfold bI at h;subst h;simp;unfold bI;rfl
 | d::ds,xs,n+1,h=>by unfold bI at h;obtain⟨y,ys,rfl,h1,h2⟩:=h;rw[T5,T5];unfold bI;exact⟨y,_,rfl,h1,bI.take n h2⟩
theorem Iw{H:Hp}{ds:List D}{xs:List V}(lo hi:Option Int)(h:bI K H ds xs):bI K H (kO ds lo hi) (Fj xs lo hi):=by
 unfold kO Fj
 rw[h.length]
 exact(h.drop _).take _
def Cd(fO:Bool)(f:FE)(l h:FO):FE:=λe=>(f e).bind λd=>(l e).bind λlo=>(h e).bind λhi=>match d with
 | .lst ds=>if fO=false∨D.cF (kO ds lo hi)=true then some (.lst (kO ds lo hi))else none
 | _=>none
theorem Df{fO:Bool}{f:FE}{l h:FO}{e:DE}{d:D}(q:Cd fO f l h e=some d):∃ds lo hi,f e=some (.lst ds)∧l e=some lo∧h e=some hi∧(fO=false∨D.cF (kO ds lo hi)=true)∧d=.lst (kO ds lo hi):=by
 unfold Cd at q
 obtain⟨d0,q1,q⟩:=aX q
 obtain⟨lo,q2,q⟩:=aX q
 obtain⟨hi,q3,q⟩:=aX q
 split at q
 ·split at q
  ·rename_i c;cases q;exact⟨_,lo,hi,q1,q2,q3,c,rfl⟩
  ·cases q
 ·cases q
theorem Iz(hk:X.K=K):dg X (Vw K):=by subst hk;exact Vx
variable{lo hi:Option Expr}{tl th:TO}{fl fh:FO}{p2:Pos}
theorem pQ(h:XR K X e t f)(hl:XO K X lo tl fl)(hu:XO K X hi th fh):XR K X (.Subscript e (.Slice lo hi none p2) pos) (dh (Vw K) t tl th) (Cd false f fl fh):=⟨h.hk,Cp (Iz h.hk) h.pe hl.po hu.po,λσ H Z e d Q z re q k=>by
 obtain⟨ds,lo,hi,q1,q2,q3,_,rfl⟩:=Df q
 refine h.ev σ H Z e _ _ z re q1 λv H1 Z1 s1 t1 z1 rv=>hl.ev σ H1 e lo _ (re.same (z.sm.trans s1)) q2 λH2 s2=>hu.ev σ H2 e hi _ (re.same (z.sm.trans (s1.trans s2))) q3 λH3 s3=>?_
 have z3:=zZ z1 (s2.trans s3)
 have t3:aH Z1 (zY Z1 H1 H3):=qW z1
 unfold Rv at rv
 obtain⟨p,xs,rfl,r2,r3⟩:=rv
 refine⟨p,xs,rfl,z3.sm.seq (t3.seq r2),λl hl=>?_⟩
 obtain⟨a1,a2⟩:=Pj (o:=.lst (Fj xs lo hi)) z3 hl
 exact k _ _ _ (s1.trans (s2.trans (s3.trans (bM hl _)))) (t1.trans (t3.trans a1)) a2 (by unfold Rv;exact⟨l,_,rfl,iY.of bB,a1.Lk _ _ (t3.Lk _ _ (Iw lo hi r3))⟩)⟩
theorem Dg(h:XR K X e t f)(hl:XO K X lo tl fl)(hu:XO K X hi th fh):XN K X (.Subscript e (.Slice lo hi none p2) pos) (dh (Vw K) t tl th) (Cd true f fl fh):=⟨h.hk,Cp (Iz h.hk) h.pe hl.po hu.po,λσ H e d Q re q k=>by
 obtain⟨ds,lo,hi,q1,q2,q3,qi,rfl⟩:=Df q
 refine h.ev σ H H e _ _ (Zn.self K H) re q1 λv H1 Z1 s1 t1 z1 rv=>hl.ev σ H1 e lo _ (re.same s1) q2 λH2 s2=>hu.ev σ H2 e hi _ (re.same (s1.trans s2)) q3 λH3 s3=>?_
 have jx:=(z1.sm.trans (s2.trans s3)).rv _ _ rv
 unfold Rv at jx
 obtain⟨p,xs,rfl,r2,r3⟩:=jx
 refine⟨p,xs,rfl,r2,λl hl=>?_⟩
 have Px:=s1.trans (s2.trans s3)
 exact k _ _ (Px.trans (bM hl _)) (jT Px (.cF (qi.resolve_left (by decide)) (Iw lo hi r3)) hl)⟩
def Py(K:aA):R2:=λx y H Q=>∃l b xs zs,x=.ref l∧y=.ref b∧iY K H l xs∧iY K H b zs∧xs.length+zs.length≤sizeLine∧∀p,H p=none→Q (.ref p) (upd H p (.lst (xs++zs)))
theorem Wv(hk:X.K=K):nR X (binaryOp .Add) (Py K):=by
 subst hk
 intro pins s σ H x y v u Q I rx ry h
 obtain⟨l,b,xs,zs,rfl,rfl,h1,h2,hz,q⟩:=h
 cases rx
 cases ry
 obtain⟨its,r,pl,_⟩:=I.list h1
 obtain⟨its2,r2,tZ,_⟩:=I.list h2
 obtain⟨⟨cl,dd,da,sl⟩,ho,hc,n,hd⟩:=pl.isList
 obtain⟨⟨cl2,dd2,da2,sl2⟩,ho2,hc2,n2,hd2⟩:=tZ.isList
 dsimp only at hc hd hc2 hd2
 subst hc hd hc2 hd2
 have hlen:its.toArray.size+its2.toArray.size≤sizeLine:=by rw[B4,B4,←r.length,←r2.length];exact hz
 have ea:its.toArray++its2.toArray=(its++its2).toArray:=by simp
 refine concat_meets ⟨_,ho,rfl⟩ ⟨_,ho2,rfl⟩ noFill_list_add seq_list_add PySem.F.slot_list_add PySem.F.entry_list_add (PySem.F.args_list_add_2 _ _)
  (list_addW l b its.toArray its2.toArray n n2 dd dd2 sl sl2 hlen) ⟨ho,ho2,?_⟩
 rw[ea]
 exact⟨.ref _,_,I.UW (t':=s.toks) (r.append r2) (by rw[F1];exact hz),rfl,q _ I.fresh⟩
def dW(a b:D):Option D:=match a,b with
 | .int i,.int j=>some (.int (i+j))
 | .lst x,.lst y=>if D.cF (x++y)=true∧x.length+y.length≤100000 then some (.lst (x++y))else none
 | _,_=>none
theorem bI.append{H:Hp}:∀{ds es:List D} {xs ys:List V},bI K H ds xs→bI K H es ys→bI K H (ds++es) (xs++ys)
 | [],es,xs,ys,h,h'=>by unfold bI at h;subst h;exact h'
 | d::ds,es,xs,ys,h,h'=>by unfold bI at h;obtain⟨y,yt,rfl,h1,h2⟩:=h;rw[N3,N3];unfold bI;exact⟨y,_,rfl,h1,bI.append h2 h'⟩
theorem Ww:Mz K (λx y H Q=>Nt (λi j=>.int (i+j)) x y H Q∨Py K x y H Q) dW:=λx y H a b d Q ra rb q k=>by
 unfold dW at q
 split at q
 ·cases q;unfold Rv at ra rb;exact .inl ⟨_,_,ra,rb,k _ H (aH.refl _) (.fO rfl (by unfold Rv;rfl))⟩
 ·split at q
  ·rename_i c
   cases q
   unfold Rv at ra rb
   obtain⟨p,xs,rfl,r2,r3⟩:=ra
   obtain⟨p',xs',rfl,r2',r3'⟩:=rb
   refine .inr ⟨p,p',xs,xs',rfl,rfl,r2,r2',vB (by rw[r3.length,r3'.length];exact c.2),λl hl=>?_⟩
   exact k _ _ (bM hl _) (jT (aH.refl _) (.cF c.1 (r3.append r3')) hl)
  ·cases q
 ·cases q
theorem eY(ha:XR K X a ta f)(hb:XR K X b tb g):XN K X (.BinOp a .Add b pos) (Cj (λx y H Q=>Nt (λi j=>.int (i+j)) x y H Q∨Py K x y H Q) ta tb) (f2 dW f g):=vC (DR.or (Wv ha.hk)) Ww ha hb
def dz(K:aA)(wi:TI)(fi:FA):Prop:=∀{N:Fp}(σ:St)(H Z:Hp)(e:DE)(ds:List D)(R:It→Hp→Prop),Zn K N Z H→mY K Z e σ→fi e=some ds →
 (∀J H' Z' P vs,aH H H'→aH Z Z'→Zn K N Z' H'→GX J P vs→(∀H2,aH Z' H2→P H2)→bI K Z' ds vs→R J H')→wi σ H R
structure XI(K:aA)(X:Cx)(tg iter:Expr)(wi:TI)(fi:FA):Prop where
 hk:X.K=K
 pi:PI X tg iter wi
 ev:dz K wi fi
def tR(f:FE):FA:=λe=>(f e).bind pN
def VP(K:aA)(t:TE):TI:=λσ H R=>Zc K t σ H R∨RZ K t σ H R
theorem oK{tg:Expr}(h:XR K X e t f):XI K X tg e (VP K t) (tR f):=⟨h.hk,by
 have hk:=h.hk
 subst hk
 exact λpins s σ H R I q=>q.elim (Vi h.pe pins s σ H R I) (DP h.pe pins s σ H R I),λσ H Z e ds R z re q k=>by
 unfold tR at q
 obtain⟨d,q1,q2⟩:=aX q
 cases d with
 | lst es=>
  unfold pN at q2;cases q2
  refine .inl (h.ev σ H Z e _ _ z re q1 λv H1 Z1 s1 t1 z1 rv=>?_)
  unfold Rv at rv
  obtain⟨p,xs,rfl,r2,r3⟩:=rv
  exact⟨p,rfl,⟨xs,z1.sm.seq r2⟩,k _ H1 Z1 _ xs s1 t1 z1 Cw (λH2 s=>s.seq r2) r3⟩
 | tup es=>
  unfold pN at q2;cases q2
  refine .inr (h.ev σ H Z e _ _ z re q1 λv H1 Z1 s1 t1 z1 rv=>?_)
  unfold Rv at rv
  obtain⟨p,xs,rfl,r2,r3⟩:=rv
  exact⟨p,rfl,⟨xs,z1.sm.tup r2⟩,k _ H1 Z1 _ xs s1 t1 z1 Wf (λH2 s=>s.tup r2) r3⟩
 | _=>unfold pN at q2;cases q2⟩
def fj(lo:Int)(n:Nat):List D:=(D7 n).map λi:Nat=>D.int (lo+(i:Int))
def lim(i:Int):Bool:=decide (-100000≤i∧i≤100000)
def lQ(e:DE)(fr:List Nat):DE:=fr.map λi=>(e[i]?).getD none
theorem Wx{H:Hp}{e:DE}{σ:St}{fr:List Nat}{d:D}{x:V}(re:mY K H e σ)(r:Rv K H d x):mY K H (some d::lQ e fr) (some x::Fw σ fr):=λi d' h=>by
 cases i with
 | zero=>simp at h;subst h;exact⟨x,rfl,r⟩
 | succ i=>
  rw[List.getElem?_cons_succ]at h ⊢
  unfold lQ at h
  unfold Fw
  rw[C5]at h ⊢
  cases q:fr[i]? with
  | none=>rw[q]at h;cases h
  | some j=>
   rw[q]at h
   have h:(e[j]?).getD none=some d':=F2 h
   have h2:e[j]?=some (some d'):=by
    cases q2:e[j]? with
    | none=>rw[q2]at h;cases h
    | some o=>rw[q2]at h;rw[show o=some d' from h]
   obtain⟨v,h3,h4⟩:=re j d' h2
   refine⟨v,?_,h4⟩
   show some (σ.getD j none)=_
   rw[B6,h3]
   rfl
def pR(c:D→Option Bool)(el:D→Option D):List D→Option (List D)
 | []=>some []
 | x::xs=>(c x).bind λb=>if b=true then(el x).bind λy=>(pR c el xs).map (y::·)else pR c el xs
def yM(fi:FA)(fr:List Nat)(fc:FT)(fe:FE):FE:=λe=>(fi e).bind λxs=>if xs.length≤100000 then(pR (λx=>fc (some x::lQ e fr)) (λx=>fe (some x::lQ e fr)) xs).map D.lst else none
theorem rC{H:Hp}{p:Addr}{o:HO}(n:pH H p):qT K H (upd H p o):=λa xs h=>h.upd n
def Pz:FT:=λ_=>some true
structure ye(K:aA)(X:Cx)(ifs:List Expr)(t:TT)(f:FT):Prop where
 yf:VH X ifs t
 ev:My K t f
def lA(K:aA)(n:Nat)(F:List D→Option D):Sp:=λvs H Q _=>∃ds d,ds.length=n∧bI K H ds vs∧F ds=some d∧∀v H',aH H H'→By K H H' d v→Q v H'
def aP(n:Nat)(F:List D→Option D)(fs:FA):FE:=λe=>(fs e).bind λds=>if ds.length=n then F ds else none
theorem bF{x:Str}{k n:Nat}{F:List D→Option D}{p:Pos}(C:jP X.prog X.w X.K X.mg X.base x k n (lA K n F))(hr:fK k X.A)(hg:Gl X x)(ha:XA K X (e::es) tA fs)(hdb:(x==("__debug__" : Str))=false:=by decide)
  (he:starEach (e::es) X.env=(false,eval e X.env)::starEach es X.env:=by rfl) (hpl:(backTo pos (starEach es X.env)).any (·.1)=false:=by rfl):XN K X (.Call (.Name x p) (e::es) [] pos) (uL (lA K n F) [] E0 tA) (aP n F fs):=
 ⟨ha.hk,Ox C hr hg ha.pa hdb he hpl,λσ H e d Q re q k=>by
  unfold aP at q
  obtain⟨ds,q1,q2⟩:=aX q
  split at q2
  ·rename_i hl
   refine call_of (ha.ev σ H H e ds _ (Zn.self K H) re q1 λvs H1 Z1 s1 t1 z1 rs=>?_)
   exact⟨ds,d,hl,z1.sm.Lk _ _ rs,q2,λv H2 s2 n=>k v H2 (s1.trans s2) (n.back s1)⟩
  ·cases q2⟩
end
end L2


namespace L2
open PySem PySem.Spec PyProof.Rows
inductive SD where
  | no | fro (d:D) | own (d:D) | inn (v:V) (d:D)
def SD.z:SD→Option D
 | .fro d=>some d
 | .own d=>if d.fO=true then some d else none
 | .inn _ d=>if d.fO=true then some d else none
 | .no=>none
def SD.r:SD→Option D
 | .fro d=>some d
 | .own d=>some d
 | .inn _ d=>some d
 | .no=>none
abbrev EN:=List SD
def zE(env:EN):DE:=env.map SD.z
def rE(env:EN):DE:=env.map SD.r
def fP(K:aA)(H Z:Hp):SD→Fp→Option V→Prop
 | .no,A,_=>None A
 | .fro d,A,y=>None A∧∃v,y=some v∧Rv K Z d v
 | .own d,A,y=>∃v,y=some v∧Ow K H d A v
 | .inn v d,A,y=>y=some v∧Ow K H d A v
def Rel(K:aA)(B:Hp)(env:EN)(σ:St)(H:Hp):Prop:=∃A,eQ (fP K H (out H A)) env A σ∧aH B (out H A)
section
variable{K:aA}{B B' H H' Z Z':Hp}{env:EN}{σ:St}{A:Fp}
theorem eQ.all{α β:Type}{R:α→Fp→β→Prop}{Pr:Addr→Prop}:∀{ds:List α} {A:Fp} {ys:List β},eQ R ds A ys→(∀d B y,R d B y→∀a,B a→Pr a)→∀a,A a→Pr a
 | [],A,ys,h,_,a,q=>absurd q (h.1 a)
 | d::ds,A,ys,⟨y,yt,A1,A2,h1,h2,h3,h4,h5⟩,m,a,q=>((h3 a).mp q).elim (m _ _ _ h4 a) (eQ.all h5 m a)
theorem fP.cells{s:SD}{y:Option V}(h:fP K H Z s A y):∀a,A a→lG H a:=by
 cases s with
 | no=>exact λa q=>absurd q (h a)
 | fro d=>exact λa q=>absurd q (h.1 a)
 | own d=>obtain⟨v,_,o⟩:=h;exact Ow.cells d A v o
 | inn v d=>exact Ow.cells d A v h.2
theorem dX(h:eQ (fP K H Z) env A σ):∀a,A a→lG H a:=eQ.all h λ_ _ _ q=>q.cells
theorem Rel.mono(h:Rel K B' env σ H)(s:aH B B'):Rel K B env σ H:=let ⟨A,a,b⟩:=h;⟨A,a,s.trans b⟩
theorem fD{A A':Fp}(s:aH H H')(h:∀a,A' a→A a∨H a=none):aH (out H A) (out H' A'):=λb o e=>by
 obtain⟨e1,e2⟩:=aZ.mp e
 refine aZ.mpr ⟨λq=>?_,s b o e2⟩
 rcases h b q with q | q
 ·exact e1 q
 ·rw[q]at e2;cases e2
theorem fP.same{s:SD}{y:Option V}(h:fP K H Z s A y)(e:aH H H')(z:aH Z Z'):fP K H' Z' s A y:=by
 cases s with
 | no=>exact h
 | fro d=>obtain⟨h1,v,h2,h3⟩:=h;exact⟨h1,v,h2,z.rv _ _ h3⟩
 | own d=>obtain⟨v,h1,h2⟩:=h;exact⟨v,h1,h2.same e⟩
 | inn v d=>exact⟨h.1,h.2.same e⟩
theorem Rel.same(h:Rel K B env σ H)(s:aH H H'):Rel K B env σ H':=by
 obtain⟨A,a,b⟩:=h
 have g:aH (out H A) (out H' A):=fD s λa q=>.inl q
 exact⟨A,a.mono λe C z _ q=>q.same s g,b.trans g⟩
theorem Aj(h:eQ (fP K H (out H A)) env A σ):Zn K A (out H A) H:=⟨dG H A,Oz λa q=>(dX h a q).2,λa q=>⟨by
 unfold out;rw[if_pos q],λz=>by obtain⟨⟨o,e⟩,_⟩:=dX h a q;rw[z]at e;cases e⟩⟩
theorem Rel.r(h:Rel K B env σ H):mY K H (rE env) σ:=λi d q=>by
 obtain⟨A,a,b⟩:=h
 unfold rE at q
 rw[C5]at q
 cases e:env[i]? with
 | none=>rw[e]at q;cases q
 | some s=>
  rw[e]at q
  obtain⟨y,A1,C,h1,h2,h3,h4,_⟩:=a.focus e
  cases s with
  | no=>cases q
  | fro d0=>cases q;obtain⟨_,v,rfl,h5⟩:=h4;exact⟨v,h1,(dG H A).rv _ _ h5⟩
  | own d0=>cases q;obtain⟨v,rfl,h5⟩:=h4;exact⟨v,h1,Ow.rv _ _ _ h5⟩
  | inn v d0=>cases q;obtain⟨rfl,h5⟩:=h4;exact⟨v,h1,Ow.rv _ _ _ h5⟩
theorem Zr(a:eQ (fP K H (out H A)) env A σ):mY K (out H A) (zE env) σ:=λi d q=>by
 unfold zE at q
 rw[C5]at q
 cases e:env[i]? with
 | none=>rw[e]at q;cases q
 | some s=>
  rw[e]at q
  obtain⟨y,A1,C,h1,h2,h3,h4,_⟩:=a.focus e
  cases s with
  | no=>cases q
  | fro d0=>cases q;obtain⟨_,v,rfl,h5⟩:=h4;exact⟨v,h1,h5⟩
  | own d0=>
   obtain⟨v,rfl,h5⟩:=h4
   have q:(if d0.fO=true then some d0 else none)=some d:=F2 q
   split at q
   ·rename_i im
    cases q
    exact⟨v,h1,(qU _ v im (Ow.rv _ _ _ h5)).out (λ_ z=>z.elim) λx hx=>(dX a x hx).2⟩
   ·cases q
  | inn v d0=>
   obtain⟨rfl,h5⟩:=h4
   have q:(if d0.fO=true then some d0 else none)=some d:=F2 q
   split at q
   ·rename_i im
    cases q
    exact⟨v,h1,(qU _ v im (Ow.rv _ _ _ h5)).out (λ_ z=>z.elim) λx hx=>(dX a x hx).2⟩
   ·cases q
theorem Rel.own{i:Nat}{d:D}{v:V}(h:Rel K B env σ H)(hi:i<env.length)(s:aH H H')(n:By K H H' d v):Rel K B (env.set i (.own d)) (σ.set i (some v)) H':=by
 obtain⟨A,a,b⟩:=h
 obtain⟨N,o,f⟩:=n
 have cl:=dX a
 obtain⟨y,A1,C,h1,h2,h3,h4,k⟩:=a.focus (B0 hi)
 have g:aH (out H A) (out H' (dH N C)):=fD s λx q=>q.elim (λq=>.inr (f x q)) λq=>.inl ((h3 x).mpr (.inr q))
 refine⟨dH N C,k (fP K H' (out H' (dH N C))) (λe D z _ q=>q.same s g) (.own d) (some v) N (λx q c=>?_) ⟨v,rfl,o⟩,b.trans g⟩
 obtain⟨⟨u,e⟩,_⟩:=cl x ((h3 x).mpr (.inr c))
 rw[f x q]at e;cases e
theorem Ja{i:Nat}{d:D}{v:V}(a:eQ (fP K H (out H A)) env A σ)(b:aH B (out H A))(hi:i<env.length)(s:aH H H')(t:aH (out H A) Z')(z:Zn K A Z' H')(r:Rv K Z' d v):Rel K B (env.set i (.fro d)) (σ.set i (some v)) H':=by
 obtain⟨y,A1,C,h1,h2,h3,h4,k⟩:=a.focus (B0 hi)
 have hC:∀x,dH nil C x→A x:=λx q=>q.elim False.elim λq=>(h3 x).mpr (.inr q)
 have g:aH (out H A) (out H' (dH nil C)):=fD s λx q=>.inl (hC x q)
 have g2:aH Z' (out H' (dH nil C)):=λx o e=>aZ.mpr ⟨λq=>(by rw[(z.no x (hC x q)).1]at e;cases e),z.sm x o e⟩
 exact⟨dH nil C,k (fP K H' (out H' (dH nil C))) (λe D z _ q=>q.same s g) (.fro d) (some v) nil (λx q c=>q) ⟨λ_ z=>z,v,rfl,g2.rv _ _ r⟩,b.trans g⟩
def Qa(env:EN)(j:Nat):EN:=match env[j]? with
 | some (.own d)=>env.set j (.fro d)
 | _=>env
def gW(js:List Nat)(env:EN):EN:=js.foldl Qa env
theorem set_same{α:Type}{l:List α}{i:Nat}{x:α}(h:l[i]?=some x):l.set i x=l:=by
 apply Q3
 intro j
 rw[List.getElem?_set]
 by_cases c:i=j
 ·subst c
  rw[if_pos rfl,h]
  split
  ·rfl
  ·rename_i q;rw[J5 (by omega)]at h;cases h
 ·rw[if_neg c]
theorem Rel.Qa{j:Nat}(h:Rel K B env σ H):Rel K B (Qa env j) σ H:=by
 unfold L2.Qa
 cases e:env[j]? with
 | none=>exact h
 | some s=>
  cases s with
  | no=>exact h
  | fro d=>exact h
  | inn v d=>exact h
  | own d=>
   obtain⟨A,a,b⟩:=h
   have cl:=dX a
   obtain⟨y,A1,C,h1,h2,h3,h4,k⟩:=a.focus e
   obtain⟨v,rfl,o⟩:=h4
   have g:aH (out H A) (out H (dH nil C)):=fD (aH.refl _) λx q=>q.elim False.elim λq=>.inl ((h3 x).mpr (.inr q))
   have:=k (fP K H (out H (dH nil C))) (λe D z _ q=>q.same (aH.refl _) g) (.fro d) (some v) nil (λx q c=>q)
    ⟨λ_ z=>z,v,rfl,o.out (λx q c=>h2 x q (c.elim False.elim id)) λx q=>(cl x ((h3 x).mpr (.inr (q.elim False.elim id)))).2⟩
   rw[set_same h1]at this
   exact⟨dH nil C,this,b.trans g⟩
theorem Rel.gW{js:List Nat}(h:Rel K B env σ H):Rel K B (gW js env) σ H:=by
 unfold L2.gW
 induction js generalizing env with
 | nil=>exact h
 | cons j js ih=>exact ih h.Qa
end
inductive SR where
  | next (env:EN) | ret (d:D) | brk (env:EN) | cont (env:EN) | bad | rete (d:D) (env:EN)
def Ak(K:aA)(B:Hp)(E:Ends):SR→Prop
 | .next env=>∀σ H,Rel K B env σ H→E.nx σ H
 | .ret d=>∀v H A,aH B (out H A)→Ow K H d A v→E.rt v H
 | .brk env=>∀σ H,Rel K B env σ H→E.bk σ H
 | .cont env=>∀σ H,Rel K B env σ H→E.ct σ H
 | .bad=>False
 | .rete d env=>∀v σ H,Rel K B (env++[.own d]) (σ++[some v]) H→E.rt v H
theorem Ak.mono{K:aA}{B B':Hp}{E:Ends}{r:SR}(h:Ak K B E r)(s:aH B B'):Ak K B' E r:=by
 cases r with
 | next env=>exact λσ H q=>h σ H (q.mono s)
 | ret d=>exact λv H A q=>h v H A (s.trans q)
 | brk env=>exact λσ H q=>h σ H (q.mono s)
 | cont env=>exact λσ H q=>h σ H (q.mono s)
 | bad=>exact h
 | rete d env=>exact λv σ H q=>h v σ H (q.mono s)
abbrev GS:=EN→SR
def DS(K:aA)(t:TS)(g:GS):Prop:=∀(B:Hp)(E:Ends)(σ:St)(H:Hp)(env:EN),Rel K B env σ H→Ak K B E (g env)→t E σ H
def VR(K:aA)(B:Hp)(E:Ends)(σ:St):SR→Prop
 | .next env=>∀H,Rel K B env σ H→E.nx σ H
 | r=>Ak K B E r
def WD(K:aA)(t:TS)(g:GS):Prop:=∀(B:Hp)(E:Ends)(σ:St)(H:Hp)(env:EN),Rel K B env σ H→VR K B E σ (g env)→t E σ H
theorem WD.ds{K:aA}{t:TS}{g:GS}(h:WD K t g):DS K t g:=λB E σ H env r p=>h B E σ H env r (by
 cases q:g env with
 | next e=>rw[q]at p;exact λH' r'=>p σ H' r'
 | ret d=>rw[q]at p;exact p
 | brk e=>rw[q]at p;exact p
 | cont e=>rw[q]at p;exact p
 | bad=>rw[q]at p;exact p
 | rete d e=>rw[q]at p;exact p)
structure YS(K:aA)(X:Cx)(st:Stmt)(t:TS)(g:GS):Prop where
 ps:PS X st t
 ev:DS K t g
structure YB(K:aA)(X:Cx)(st:List Stmt)(t:TS)(g:GS):Prop where
 ps:xR X st t
 ev:DS K t g
section
variable{K:aA}{X:Cx}{st:Stmt}{sts:List Stmt}{t u:TS}{g g1 g2:GS}{e a b c:Expr}{te ta tb:TE}{f fa fb:FE}{tc:TT}{fc:FT}{pos:Pos}
def aO(g1 g2:GS):GS:=λenv=>match g1 env with
 | .next env'=>g2 env'
 | r=>r
theorem JD(h1:DS K t g1)(h2:DS K u g2):DS K (Ff t u) (aO g1 g2):=λB E σ H env r p=>by
 unfold aO at p
 refine h1 B {E with nx:=u E} σ H env r ?_
 cases q:g1 env with
 | next env'=>rw[q]at p;exact λσ' H' r'=>h2 B E σ' H' env' r' p
 | ret d=>rw[q]at p;exact p
 | brk d=>rw[q]at p;exact p
 | cont d=>rw[q]at p;exact p
 | bad=>rw[q]at p;exact p
 | rete d e=>rw[q]at p;exact p
def bW:GS:=λenv=>.next env
theorem cR:YB K X [] Za bW:=⟨Vg,λB E σ H env r p=>p σ H r⟩
theorem aU(h:YS K X st t g):YB K X [st] t g:=⟨Hz h.ps,h.ev⟩
theorem aN(h:YS K X st t g1)(h2:YB K X sts u g2):YB K X (st::sts) (Ff t u) (aO g1 g2):=⟨pA h.ps h2.ps,JD h.ev h2.ev⟩
def bT(i:Nat)(f:FE):GS:=λenv=>match f (rE env)with
 | some d=>if i<env.length then .next (env.set i (.own d))else .bad
 | none=>.bad
theorem Qc{i:Nat}(h:Ab K te f):DS K (xJ te (cO i)) (bT i f):=λB E σ H env r p=>by
 unfold bT at p
 split at p
 ·rename_i d q
  split at p
  ·rename_i hi
   exact h σ H (rE env) d _ r.r q λv H' s n=>p _ _ (r.own hi s n)
  ·exact p.elim
 ·exact p.elim
theorem bQ{i:Nat}{x:Str}{pos':Pos}(h:XN K X e te f)(hp:PE X e te→PS X (.Assign [.Name x pos'] e pos) (xJ te (cO i))):YS K X (.Assign [.Name x pos'] e pos) (xJ te (cO i)) (bT i f):=⟨hp h.pe,Qc h.ev⟩
def fX(f:FE):GS:=λenv=>match f (rE env)with
 | some d=>.ret d
 | none=>.bad
theorem cT(h:XN K X e te f):YS K X (.Return (some e) pos) (Vh te) (fX f):=⟨Nm h.pe,λB E σ H env r p=>by
 unfold fX at p
 split at p
 ·rename_i d q
  refine h.ev σ H (rE env) d _ r.r q λv H' s ⟨N,o,fr⟩=>p v H' N (λx u ex=>?_) o
  obtain⟨A,a,b⟩:=r
  have h1:=(aZ.mp (b x u ex)).2
  exact aZ.mpr ⟨λz=>(by rw[fr x z]at h1;cases h1),s x u h1⟩
 ·exact p.elim⟩
def sZ(i:Nat):GS:=λenv=>match env[i]? with
 | some (.own d)=>.ret d
 | some (.fro d)=>if d.fO=true then .ret d else .bad
 | _=>.bad
theorem Al{i:Nat}(h:PE X e (iW i)):YS K X (.Return (some e) pos) (Vh (iW i)) (sZ i):=⟨Nm h,λB E σ H env r p=>by
 unfold sZ at p
 obtain⟨A,a,b⟩:=r
 split at p
 ·rename_i d q
  obtain⟨y,A1,C,h1,h2,h3,h4,_⟩:=a.focus q
  obtain⟨v,rfl,o⟩:=h4
  exact⟨v,h1,p v H A1 (b.trans (fD (aH.refl _) λx z=>.inl ((h3 x).mpr (.inl z)))) o⟩
 ·rename_i d q
  split at p
  ·rename_i im
   obtain⟨y,A1,C,h1,h2,h3,h4,_⟩:=a.focus q
   obtain⟨_,v,rfl,rv⟩:=h4
   exact⟨v,h1,p v H nil (b.trans (fD (aH.refl _) λx z=>z.elim)) (qU d v im ((dG H A).rv _ _ rv))⟩
  ·exact p.elim
 ·exact p.elim⟩
def tD(f:FE):GS:=λenv=>match f (rE env)with
 | some _=>.next env
 | none=>.bad
theorem Wy(h:Aa K te f):DS K (kI te) (tD f):=λB E σ H env r p=>by
 unfold tD at p
 split at p
 ·rename_i d q
  exact h σ H H (rE env) d _ (Zn.self K H) r.r q λv H' Z' s t z rv=>p _ _ (r.same s)
 ·exact p.elim
def jD(f:FT)(g1 g2:GS):GS:=λenv=>match f (rE env)with
 | some true=>g1 env
 | some false=>g2 env
 | none=>.bad
theorem fQ{s1 s2:List Stmt}(hc:XT K X c tc fc)(h1:YB K X s1 t g1)(h2:YB K X s2 u g2):YS K X (.If c s1 s2 pos) (DK tc t u) (jD fc g1 g2):=⟨Zb hc.pt h1.ps h2.ps,λB E σ H env r p=>by
 unfold jD at p
 split at p
 ·rename_i q
  refine hc.ev σ H (rE env) true _ r.r q λH' s=>?_
  rw[if_pos rfl]
  exact h1.ev B E σ H' env (r.same s) p
 ·rename_i q
  refine hc.ev σ H (rE env) false _ r.r q λH' s=>?_
  rw[if_neg (by decide)]
  exact h2.ev B E σ H' env (r.same s) p
 ·exact p.elim⟩
def rD(i:Nat)(g:GS):List D→EN→SR
 | [],env=>.next env
 | x::xs,env=>if i<env.length then match g (env.set i (.fro x))with
   | .next env'=>rD i g xs env'
   | .cont env'=>rD i g xs env'
   | .brk env'=>.next env'
   | r=>r
  else .bad
def pU(js:List Nat)(i:Nat)(fi:FA)(g:GS):GS:=λenv=>match fi (zE (gW js env))with
 | some xs=>rD i g xs (gW js env)
 | none=>.bad
theorem JF{js:List Nat}{i:Nat}{wi:TI}{fi:FA}{tb:TS}(hi:dz K wi fi)(h:DS K tb g):DS K (Kr wi (cO i) tb) (pU js i fi g):=λB E σ H env r p=>by
 unfold pU at p
 have r':Rel K B (gW js env) σ H:=r.gW
 generalize gW js env=gF at r' p
 split at p
 ·rename_i xs q
  obtain⟨A,a,b⟩:=r'
  refine hi σ H (out H A) (zE gF) xs _ (Aj a) (Zr a) q λJ H1 Z1 P vs s t z hJ hP rvs=>?_
  have hl:=rvs.length
  have g0:aH Z1 (out H1 A):=λx o e=>aZ.mpr ⟨λqa=>(by rw[(z.no x qa).1]at e;cases e),z.sm x o e⟩
  have JG:Rel K Z1 gF σ H1:=⟨A,a.mono λe D y _ qq=>qq.same s (fD s λx q=>.inl q),g0⟩
  have bz:aH B Z1:=b.trans t
  have p':=p.mono bz
  refine Il hJ (λk σ2 H2=>∃nQ,Rel K Z1 nQ σ2 H2∧Ak K Z1 E (rD i g (xs.drop k) nQ)) ⟨gF,JG,by simpa using p'⟩ (λk σ2 H2 _ ⟨nQ,⟨A2,a2,b2⟩,_⟩=>hP H2 (b2.trans (dG H2 A2))) ?_ ?_
  ·rintro k x σ2 H2 hx ⟨nQ,r2,p2⟩
   have hk:k<xs.length:=by
    have:=B8.mp hx
    obtain⟨h1,_⟩:=this
    omega
   rw[L6 hk]at p2
   unfold rD at p2
   obtain⟨x',hx',rx⟩:=rvs.get (B0 hk)
   rw[hx]at hx'
   cases hx'
   split at p2
   ·rename_i hlen
    obtain⟨A2,a2,b2⟩:=r2
    have r3:Rel K Z1 (nQ.set i (.fro xs[k])) (σ2.set i (some x)) H2:=Ja a2 b2 hlen (aH.refl _) (aH.refl _) (Aj a2) (b2.rv _ _ rx)
    refine h Z1 _ _ H2 _ r3 ?_
    split at p2
    ·rename_i env' q2;rw[q2];exact λσ' H' r'=>⟨env',r',p2⟩
    ·rename_i env' q2;rw[q2];exact λσ' H' r'=>⟨env',r',p2⟩
    ·rename_i env' q2;rw[q2];exact p2
    ·rename_i n1 n2 n3
     cases q2:g (nQ.set i (.fro xs[k]))with
     | next e=>exact absurd q2 (n1 e)
     | cont e=>exact absurd q2 (n2 e)
     | brk e=>exact absurd q2 (n3 e)
     | ret d=>rw[q2]at p2;exact p2
     | bad=>rw[q2]at p2;exact p2
     | rete d e=>rw[q2]at p2;exact p2
   ·exact p2.elim
  ·rintro σ2 H2 ⟨nQ,r2,p2⟩
   rw[hl,Q6]at p2
   exact p2 σ2 H2 r2
 ·exact p.elim
theorem rF{tg iter:Expr}{body:List Stmt}{wi:TI}{fi:FA}{tb:TS}{i:Nat}(js:List Nat)(hp:PassesOwn (model X.prog X.w) X.A X.env X.xe)(WK:X.calm=true)(hi:XI K X tg iter wi fi)(hg:PG X tg (cO i))(hb:YB K X body tb g)
  (hs:∀x,foldedSetIterable iter X.env x=pure x:=by intro _;rfl):YS K X (.For tg iter body [] pos) (Kr wi (cO i) tb) (pU js i fi g):=⟨Nr hp WK hi.pi hg hb.ps hs,JF hi.ev hb.ev⟩
end
end L2


namespace L2
open PySem PySem.Spec PyProof.Rows
inductive Step where
  | ix (k:Nat) | key (k:Key) | fld (C:Addr) (f:Str)
def kids:D→List D
 | .lst ds=>ds
 | .dk _ ds=>ds
 | .ins _ _ ds=>ds
 | _=>[]
def vK:D→List D→D
 | .lst _,ds=>.lst ds
 | .dk ks _,ds=>.dk ks ds
 | .ins C nm _,ds=>.ins C nm ds
 | d,_=>d
def Am:Step→D→Option Nat
 | .ix k,.lst ds=>some k
 | .key k,.dk ks _=>posK ks k
 | .fld C f,.ins C' nm _=>if C'=C then posK nm f else none
 | _,_=>none
def pW:List Step→D→Option D
 | [],d=>some d
 | s::p,d=>(Am s d).bind λj=>((kids d)[j]?).bind (pW p)
def pX:List Step→D→D→D
 | [],_,d'=>d'
 | s::p,d,d'=>match Am s d with
  | some j=>(match (kids d)[j]? with
   | some c=>vK d ((kids d).set j (pX p c d'))
   | none=>d)
  | none=>d
def stepV(H:Hp)(s:Step)(v:V):Option V:=match v with
 | .ref a=>(match s,H a with
  | .ix k,some (.lst xs)=>xs[k]?
  | .key k,some (.dK kvs)=>kJ kvs k
  | .fld C f,some (.ins C' _ fs)=>if C'=C then fs.lookup f else none
  | _,_=>none)
 | _=>none
def Nb(H:Hp):List Step→V→Option V
 | [],v=>some v
 | s::p,v=>(stepV H s v).bind (Nb H p)
theorem Ge{H H':Hp}(e:aH H H'){s:Step}{v w:V}(h:stepV H s v=some w):stepV H' s v=some w:=by
 cases v with
 | ref a=>
  unfold stepV at h ⊢
  dsimp only at h ⊢
  cases q:H a with
  | none=>rw[q]at h;cases s<;>cases h
  | some o=>rw[e a o q];rw[q]at h;exact h
 | _=>unfold stepV at h;cases h
theorem Dh{H H':Hp}(e:aH H H'):∀{p:List Step} {v w:V},Nb H p v=some w→Nb H' p v=some w
 | [],v,w,h=>h
 | s::p,v,w,h=>by
  unfold Nb at h ⊢
  obtain⟨u,h1,h2⟩:=aX h
  rw[Ge e h1]
  exact Dh e h2
theorem Gf{nm:List Str}{xs:List V}{f:Str}(h:nm.length=xs.length):(nm.zip xs).lookup f=(posK nm f).bind λj=>xs[j]?:=by
 induction nm generalizing xs with
 | nil=>unfold posK;rfl
 | cons a nm ih=>
  cases xs with
  | nil=>simp at h
  | cons x xs=>
   have ih:=ih (xs:=xs) (by simpa using h)
   unfold posK
   rw[G7,O5]
   by_cases c:a=f
   ·subst c;simp
   ·have c2:(f==a)=false:=by
     rw[beq_eq_false_iff_ne];exact λz=>c z.symm
    rw[c2,if_neg c,ih]
    cases posK nm f<;>rfl
theorem Ow.kids{K:aA}{H:Hp}{d:D}{A:Fp}{v:V}{s:Step}{j:Nat}(h:Ow K H d A v)(q:Am s d=some j):∃xs T Bt,(∀x,xs[j]?=some x→stepV H s v=some x)∧cA K H (kids d) Bt xs∧Is A (dH T Bt)∧Apart T Bt ∧
  ∀H' ds' B',ds'.length=(kids d).length→cA K H' ds' B' xs→(∀a,T a→H' a=H a)→Apart T B'→Ow K H' (vK d ds') (dH T B') v:=by
 cases d with
 | lst ds=>
  unfold Ow at h
  obtain⟨a,xs,B,rfl,h2,h3,h4,h5⟩:=h
  cases s with
  | ix k=>
   unfold Am at q
   cases q
   refine⟨xs,(·=a),B,λx hx=>?_,h5,h4,λx qx qb=>h3 (qx▸qb),λH' ds' B' hl o f ap=>?_⟩
   ·unfold stepV;dsimp only;rw[h2];exact hx
   ·show Ow K H' (.lst ds') _ _
    unfold Ow
    exact⟨a,xs,B',rfl,(f a rfl).trans h2,ap a rfl,λ_=>Iff.rfl,o⟩
  | _=>unfold Am at q;cases q
 | dk ks ds=>
  unfold Ow at h
  obtain⟨a,xs,B,rfl,h2,h2',h3,h4,h5⟩:=h
  cases s with
  | key k=>
   have q:posK ks k=some j:=q
   refine⟨xs,(·=a),B,λx hx=>?_,h5,h4,λx qx qb=>h3 (qx▸qb),λH' ds' B' hl o f ap=>?_⟩
   ·unfold stepV;dsimp only;rw[h2];show kJ (ks.zip xs) k=_;rw[jA h2',q];exact hx
   ·show Ow K H' (.dk ks ds') _ _
    unfold Ow
    exact⟨a,xs,B',rfl,(f a rfl).trans h2,h2',ap a rfl,λ_=>Iff.rfl,o⟩
  | _=>unfold Am at q;cases q
 | ins C nm ds=>
  unfold Ow at h
  obtain⟨a,dx,xs,B,rfl,h2,h2',h3,h3',h3'',h4,h5⟩:=h
  cases s with
  | fld C0 k=>
   have q:(if C=C0 then posK nm k else none)=some j:=q
   by_cases hc:C=C0
   rotate_left
   ·rw[if_neg hc]at q;cases q
   rw[if_pos hc]at q
   refine⟨xs,(λx=>x=a∨x=dx),B,λx hx=>?_,h5,h4,λx qx qb=>qx.elim (λz=>h3' (z▸qb)) λz=>h3'' (z▸qb),λH' ds' B' hl o f ap=>?_⟩
   ·unfold stepV;dsimp only;rw[h2];show (if C=C0 then(nm.zip xs).lookup k else none)=_;rw[if_pos hc,Gf h3,q];exact hx
   ·show Ow K H' (.ins C nm ds') _ _
    unfold Ow
    exact⟨a,dx,xs,B',rfl,(f a (.inl rfl)).trans h2,(f dx (.inr rfl)).trans h2',h3,ap a (.inl rfl),ap dx (.inr rfl),λ_=>Iff.rfl,o⟩
  | _=>unfold Am at q;cases q
 | _=>cases s<;>(unfold Am at q;cases q)
theorem Ow.at{K:aA}{H:Hp}:∀{p:List Step} {d d1:D} {A:Fp} {v:V},Ow K H d A v→pW p d=some d1→∃w A1 C,Nb H p v=some w∧Apart A1 C∧Is A (dH A1 C)∧Ow K H d1 A1 w ∧
    ∀H' d' A',Apart A' C→(∀a,C a→H' a=H a)→qT K H H'→Ow K H' d' A' w→Ow K H' (pX p d d') (dH A' C) v
  | [],d,d1,A,v,h,q=>by
    unfold pW at q
    cases q
    exact⟨v,A,nil,rfl,λ_ _ z=>z,λx=>⟨.inl,λz=>z.elim id False.elim⟩,h,λH' d' A' _ _ _ o=>o.congr λx=>⟨.inl,λz=>z.elim id False.elim⟩⟩
  | s::p,d,d1,A,v,h,q=>by
    unfold pW at q
    obtain⟨j,q1,q2⟩:=aX q
    obtain⟨c,q3,q4⟩:=aX q2
    obtain⟨xs,T,Bt,k1,k2,k3,k4,k5⟩:=h.kids q1
    obtain⟨y,B1,C1,f1,f2,f3,f4,f5⟩:=(dI.mp k2).focus q3
    obtain⟨w,A1,C2,g1,g2,g3,g4,g5⟩:=Ow.at f4 q4
    refine⟨w,A1,dH T (dH C1 C2),?_,?_,?_,g4,λH' d' A' ap fr tk o=>?_⟩
    · unfold Nb
      rw[k1 y f1]
      exact g1
    · intro x qx qc
      have b1:B1 x:=(g3 x).mpr (.inl qx)
      rcases qc with qc | qc | qc
      · exact k4 x qc ((f3 x).mpr (.inl b1))
      · exact f2 x b1 qc
      · exact g2 x qx qc
    · intro x
      rw[k3 x]
      constructor
      · rintro(z | z)
        · exact .inr (.inl z)
        · rcases(f3 x).mp z with z | z
          · rcases(g3 x).mp z with z | z
            · exact .inl z
            · exact .inr (.inr (.inr z))
          · exact .inr (.inr (.inl z))
      · rintro(z | z | z | z)
        · exact .inr ((f3 x).mpr (.inl ((g3 x).mpr (.inl z))))
        · exact .inl z
        · exact .inr ((f3 x).mpr (.inr z))
        · exact .inr ((f3 x).mpr (.inl ((g3 x).mpr (.inr z))))
    · have o1:Ow K H' (pX p c d') (dH A' C2) y:=g5 H' d' A' (λx a b=>ap x a (.inr (.inr b))) (λa z=>fr a (.inr (.inr z))) tk o
      have rz:Apart (dH A' C2) C1:=λx a b=>a.elim (λz=>ap x z (.inr (.inl b))) λz=>f2 x ((g3 x).mpr (.inr z)) b
      have o2:=f5 (Ow K H') (λe B z hb qq=>Ow.frame tk e B z qq λa za=>fr a (.inr (.inl (hb a za)))) (pX p c d') y (dH A' C2) rz o1
      rw[set_same f1]at o2
      have o3:=k5 H' ((L2.kids d).set j (pX p c d')) _ (by rw[W3]) (dI.mpr o2) (λa z=>fr a (.inl z)) (λx a b=>by
        rcases b with (b | b) | b
        · exact ap x b (.inl a)
        · exact k4 x a ((f3 x).mpr (.inl ((g3 x).mpr (.inr b))))
        · exact k4 x a ((f3 x).mpr (.inr b)))
      have e:pX (s::p) d d'=vK d ((L2.kids d).set j (pX p c d')):=by
        show (match Am s d with | some j=>_ | none=>_)=_
        rw[q1]
        show (match (L2.kids d)[j]? with | some c=>_ | none=>_)=_
        rw[q3]
      rw[e]
      refine o3.congr λx=>?_
      show (T x∨(A' x∨C2 x)∨C1 x)↔(A' x∨T x∨C1 x∨C2 x)
      constructor
      · rintro(z | (z | z) | z)
        · exact .inr (.inl z)
        · exact .inl z
        · exact .inr (.inr (.inr z))
        · exact .inr (.inr (.inl z))
      · rintro(z | z | z | z)
        · exact .inr (.inl (.inl z))
        · exact .inl z
        · exact .inr (.inr z)
        · exact .inr (.inl (.inr z))
section
variable{K:aA}{B H:Hp}{env:EN}{σ:St}
theorem Rel.at{i:Nat}{p:List Step}{d0 d:D}(h:Rel K B env σ H)(e:env[i]?=some (.own d0))(q:pW p d0=some d):∃v0 w A1 C,σ[i]?=some (some v0)∧Nb H p v0=some w∧Ow K H d A1 w∧Apart A1 C∧(∀a,C a→lG H a) ∧
    ∀H' d' A',Apart A' C→(∀a,C a→H' a=H a)→qT K H H'→Ow K H' d' A' w→aH (out H (dH A1 C)) (out H' (dH A' C))→Rel K B (env.set i (.own (pX p d0 d'))) σ H':=by
  obtain⟨A,a,b⟩:=h
  have cl:=dX a
  obtain⟨y,A1,C,h1,h2,h3,h4,k⟩:=a.focus e
  obtain⟨v0,rfl,o⟩:=h4
  obtain⟨w,B1,C1,g1,g2,g3,g4,g5⟩:=o.at q
  refine⟨v0,w,B1,dH C1 C,h1,g1,g4,λx z1 z2=>?_,λx z=>?_,λH' d' A' ap fr tk o' sm=>?_⟩
  · exact z2.elim (g2 x z1) (h2 x ((g3 x).mpr (.inl z1)))
  · exact cl x ((h3 x).mpr (z.elim (λz=>.inl ((g3 x).mpr (.inr z))) .inr))
  · have o2:=g5 H' d' A' (λx z1 z2=>ap x z1 (.inl z2)) (λx z=>fr x (.inl z)) tk o'
    have sr:Apart (dH A' C1) C:=λx z1 z2=>z1.elim (λz=>ap x z (.inr z2)) λz=>h2 x ((g3 x).mpr (.inr z)) z2
    have hA:Is A (dH B1 (dH C1 C)):=λx=>by
      rw[h3 x]
      constructor
      · rintro(z | z)
        · exact((g3 x).mp z).elim .inl λz=>.inr (.inl z)
        · exact .inr (.inr z)
      · rintro(z | z | z)
        · exact .inl ((g3 x).mpr (.inl z))
        · exact .inl ((g3 x).mpr (.inr z))
        · exact .inr z
    have g:aH (out H A) (out H' (dH (dH A' C1) C)):=λx u ex=>by
      obtain⟨e1,e2⟩:=aZ.mp ex
      have:=sm x u (aZ.mpr ⟨λz=>e1 ((hA x).mpr z),e2⟩)
      obtain⟨e3,e4⟩:=aZ.mp this
      exact aZ.mpr ⟨λz=>e3 (z.elim (λz=>z.elim .inl λz=>.inr (.inl z)) λz=>.inr (.inr z)),e4⟩
    have s:=k (fP K H' (out H' (dH (dH A' C1) C))) (λs D z hb qq=>by
      cases s with
      | no=>exact qq
      | fro d=>obtain⟨q1,v,q2,q3⟩:=qq;exact⟨q1,v,q2,g.rv _ _ q3⟩
      | inn v d=>exact⟨qq.1,Ow.frame tk _ _ _ qq.2 λx zx=>fr x (.inr (hb x zx))⟩
      | own d=>obtain⟨v,q1,q2⟩:=qq;exact⟨v,q1,Ow.frame tk _ _ _ q2 λx zx=>fr x (.inr (hb x zx))⟩) (.own (pX p d0 d')) (some v0) (dH A' C1) sr ⟨v0,rfl,o2⟩
    rw[set_same h1]at s
    exact⟨_,s,b.trans g⟩
theorem Rel.fu{i:Nat}{p:List Step}{d0:D}{ds:List D}(h:Rel K B env σ H)(e:env[i]?=some (.own d0))(q:pW p d0=some (.lst ds)):∃v0 a xs Bs,σ[i]?=some (some v0)∧Nb H p v0=some (.ref a)∧H a=some (.lst xs)∧¬Bs a∧cA K H ds Bs xs ∧
    ∀H2 ds' xs' Bn,aH H H2→cA K H2 ds' Bn xs'→(∀b,Bn b→Bs b∨H b=none)→Rel K B (env.set i (.own (pX p d0 (.lst ds')))) σ (upd H2 a (.lst xs')):=by
  obtain⟨v0,w,A1,C,h1,h2,h3,h4,h5,h6⟩:=h.at e q
  unfold Ow at h3
  obtain⟨a,xs,Bs,rfl,o2,o3,o4,o5⟩:=h3
  refine⟨v0,a,xs,Bs,h1,h2,o2,o3,o5,λH2 ds' xs' Bn s o hb=>?_⟩
  have WL:¬Bn a:=λz=>(hb a z).elim o3 λz=>by rw[o2]at z;cases z
  have hC:∀x,C x→¬x=a:=λx z y=>h4 x ((o4 x).mpr (.inl y)) z
  have Qd:H2 a=some (.lst xs):=s a _ o2
  refine h6 _ (.lst ds') (dH (·=a) Bn) (λx z1 z2=>?_) (λx z=>?_) (s.tk.trans (rC (mX Qd))) ?_ (λx u ex=>?_)
  · rcases z1 with z1 | z1
    · exact hC x z2 z1
    · rcases hb x z1 with z | z
      · exact h4 x ((o4 x).mpr (.inr z)) z2
      · obtain⟨⟨u,eu⟩,_⟩:=h5 x z2
        rw[z]at eu;cases eu
  · obtain⟨⟨u,eu⟩,_⟩:=h5 x z
    rw[aR (hC x z),eu,s x u eu]
  · unfold Ow
    refine⟨a,xs',Bn,rfl,bB,WL,λ_=>Iff.rfl,cA.frame (rC (mX Qd)) _ _ _ o λx zx=>aR λy=>WL (y▸zx)⟩
  · obtain⟨e1,e2⟩:=aZ.mp ex
    have na:x≠a:=λy=>e1 (.inl ((o4 x).mpr (.inl y)))
    refine aZ.mpr ⟨λz=>?_,by rw[aR na];exact s x u e2⟩
    rcases z with (z | z) | z
    · exact na z
    · rcases hb x z with z | z
      · exact e1 (.inl ((o4 x).mpr (.inr z)))
      · rw[z]at e2;cases e2
    · exact e1 (.inr z)
theorem Rel.WM{i:Nat}{p:List Step}{d0:D}{ks:List Key}{ds:List D}(h:Rel K B env σ H)(e:env[i]?=some (.own d0))(q:pW p d0=some (.dk ks ds)):∃v0 a xs Bs,σ[i]?=some (some v0)∧Nb H p v0=some (.ref a)∧H a=some (.dK (ks.zip xs))∧ks.length=xs.length∧¬Bs a∧cA K H ds Bs xs ∧
    ∀H2 ks' ds' xs' Bn,aH H H2→ks'.length=xs'.length→cA K H2 ds' Bn xs'→(∀b,Bn b→Bs b∨H b=none)→Rel K B (env.set i (.own (pX p d0 (.dk ks' ds')))) σ (upd H2 a (.dK (ks'.zip xs'))):=by
  obtain⟨v0,w,A1,C,h1,h2,h3,h4,h5,h6⟩:=h.at e q
  unfold Ow at h3
  obtain⟨a,xs,Bs,rfl,o2,o2',o3,o4,o5⟩:=h3
  refine⟨v0,a,xs,Bs,h1,h2,o2,o2',o3,o5,λH2 ks' ds' xs' Bn s hl o hb=>?_⟩
  have WL:¬Bn a:=λz=>(hb a z).elim o3 λz=>by rw[o2]at z;cases z
  have hC:∀x,C x→¬x=a:=λx z y=>h4 x ((o4 x).mpr (.inl y)) z
  have Qd:H2 a=some (.dK (ks.zip xs)):=s a _ o2
  refine h6 _ (.dk ks' ds') (dH (·=a) Bn) (λx z1 z2=>?_) (λx z=>?_) (s.tk.trans (rC (pI Qd))) ?_ (λx u ex=>?_)
  · rcases z1 with z1 | z1
    · exact hC x z2 z1
    · rcases hb x z1 with z | z
      · exact h4 x ((o4 x).mpr (.inr z)) z2
      · obtain⟨⟨u,eu⟩,_⟩:=h5 x z2
        rw[z]at eu;cases eu
  · obtain⟨⟨u,eu⟩,_⟩:=h5 x z
    rw[aR (hC x z),eu,s x u eu]
  · unfold Ow
    refine⟨a,xs',Bn,rfl,bB,hl,WL,λ_=>Iff.rfl,cA.frame (rC (pI Qd)) _ _ _ o λx zx=>aR λy=>WL (y▸zx)⟩
  · obtain⟨e1,e2⟩:=aZ.mp ex
    have na:x≠a:=λy=>e1 (.inl ((o4 x).mpr (.inl y)))
    refine aZ.mpr ⟨λz=>?_,by rw[aR na];exact s x u e2⟩
    rcases z with (z | z) | z
    · exact na z
    · rcases hb x z with z | z
      · exact e1 (.inl ((o4 x).mpr (.inr z)))
      · rw[z]at e2;cases e2
    · exact e1 (.inr z)
end
end L2


namespace L2
open PySem PySem.Spec PyProof.Rows
abbrev FP:=DE→Option (List Step)
def ZP(K:aA)(t:TE)(i:Nat)(π:FP):Prop:=∀(σ:St)(H:Hp)(e:DE)(v0:V)(p:List Step)(v:V)(Q:VK),mY K H e σ→σ[i]?=some (some v0)→π e=some p→Nb H p v0=some v→(∀H',aH H H'→Q v H')→t σ H Q
structure XP(K:aA)(X:Cx)(e:Expr)(t:TE)(i:Nat)(π:FP):Prop where
 hk:X.K=K
 pe:PE X e t
 ev:ZP K t i π
def jE:FP:=λ_=>some []
section
variable{K:aA}{X:Cx}{e a b c:Expr}{es:List Expr}{t ta tb te:TE}{f g:FE}{tA:TA}{fs:FA}{pos:Pos}{i j:Nat}{π:FP}{st:Stmt}
theorem Di(h:PE X e (iW i))(hk:X.K=K:=by rfl):XP K X e (iW i) i jE:=⟨hk,h,λσ H e v0 p v Q re h1 h2 h3 k=>by
 cases h2
 unfold Nb at h3
 cases h3
 exact⟨v0,h1,k H (aH.refl _)⟩⟩
def Gg(i:Nat)(π:FP)(f:FE):GS:=λenv=>match env[i]?,π (rE env),f (rE env)with
 | some (.own d0),some p,some d=>(match pW p d0 with
  | some (.lst ds)=>if ds.length<100000 then .next (env.set i (.own (pX p d0 (.lst (ds++[d])))))else .bad
  | _=>.bad)
 | _,_,_=>.bad
theorem JH{H H1:Hp}{A:Fp}{ds:List D}{xs:List V}{N:Fp}(o:cA K H ds A xs)(fr:∀a,N a→H a=none):Apart A N:=λx q1 q2=>by
 obtain⟨⟨u,eu⟩,_⟩:=cA.cells _ _ _ o x q1
 rw[fr x q2]at eu;cases eu
theorem JK(h:ZP K ta i π)(he:Ab K te f):WD K (kI (ZK K "list" tY ta (cY te lD))) (Gg i π f):=λB E σ H env r p=>by
 unfold Gg at p
 split at p
 ·rename_i d0 pp d q1 q2 q3
  split at p
  ·rename_i ds q4
   split at p
   ·rename_i hl
    obtain⟨v0,a,xs,Bs,k1,k2,k3,k4,k5,k6⟩:=r.fu q1 q4
    refine h σ H (rE env) v0 pp _ _ r.r k1 q2 k2 λH1 s1=>⟨.inl ⟨rfl,xs,iY.of (s1 _ _ k3)⟩,?_⟩
    refine he σ H1 (rE env) d _ (r.r.same s1) q3 λy H2 s2 n=>?_
    obtain⟨N,o,fr⟩:=n.back s1
    have s12:=s1.trans s2
    refine⟨a,xs,y,rfl,rfl,s12 _ _ k3,Ph (by rw[(cA.rv _ _ _ k5).length];omega),p _ ?_⟩
    exact k6 H2 (ds++[d]) (xs++[y]) (dH Bs N) s12 (dI.mpr ((dI.mp (k5.same s12)).snoc o (JH (H1:=H) k5 fr))) λb z=>z.imp id (fr b)
   ·exact p.elim
  ·exact p.elim
 ·exact p.elim
theorem JL{m:Str}{apos cpos:Pos}(h:XP K X a ta i π)(he:XN K X e te f)(hp:PE X a ta→PE X e te→PS X (.Expr (.Call (.Attribute a m apos) [e] [] cpos) pos) (kI (ZK K "list" tY ta (cY te lD)))):YS K X (.Expr (.Call (.Attribute a m apos) [e] [] cpos) pos) (kI (ZK K "list" tY ta (cY te lD))) (Gg i π f):=⟨hp h.pe he.pe,(JK h.ev he.ev).ds⟩
def iC(i:Nat)(π:FP)(g f:FE):GS:=λenv=>match env[i]?,π (rE env),g (rE env),f (rE env)with
 | some (.own d0),some p,some k,some d=>(match pW p d0,Ln k with
  | some (.dk ks ds),some k=>if d.fO=true∧ks.length<100000 then .next (env.set i (.own (pX p d0 (.dk (vG ks k) (putD ks ds k d)))))else .bad
  | _,_=>.bad)
 | _,_,_,_=>.bad
theorem Dj{H:Hp}{d:D}{v:V}(o:Ow K H d nil v)(k:Key):∀{ks:List Key} {ds:List D} {A:Fp} {xs:List V},ks.length=xs.length→cA K H ds A xs→∃A',(∀x,A' x→A x)∧cA K H (P0 (λk' d'=>if k'=k then d else d') ks ds) A' (P0 (λk' d'=>if k'=k then v else d') ks xs)
 | [],ds,A,xs,hl,h=>by
  cases xs with
  | nil=>exact⟨nil,λ_ z=>z.elim,by rw[S4,S4];unfold cA;exact⟨λ_ z=>z,rfl⟩⟩
  | cons x xs=>simp at hl
 | k0::ks,[],A,xs,hl,h=>by unfold cA at h;rw[h.2]at hl;simp at hl
 | k0::ks,d0::ds,A,xs,hl,h=>by
  unfold cA at h
  obtain⟨y,yt,A1,A2,rfl,h2,h3,h4,h5⟩:=h
  obtain⟨A',a1,a2⟩:=Dj o k (by simpa using hl) h5
  by_cases c:k0=k
  ·refine⟨A',λx q=>(h3 x).mpr (.inr (a1 x q)),?_⟩
   rw[K1,K1,if_pos c,if_pos c]
   unfold cA
   exact⟨v,_,nil,A',rfl,λ_ z=>z.elim,λx=>⟨.inr,λz=>z.elim False.elim id⟩,o,a2⟩
  ·refine⟨dH A1 A',λx q=>(h3 x).mpr (q.imp id (a1 x)),?_⟩
   rw[K1,K1,if_neg c,if_neg c]
   unfold cA
   exact⟨y,_,A1,A',rfl,λx z1 z2=>h2 x z1 (a1 x z2),λ_=>Iff.rfl,h4,a2⟩
theorem Wz(h:ZP K ta i π)(hx:Aa K tb g)(he:Aa K te f):WD K (Ih ta tb te) (iC i π g f):=λB E σ H env r p=>by
 unfold iC at p
 split at p
 ·rename_i d0 pp kd d q1 q2 q3 su
  split at p
  ·rename_i ks ds k q4 q5
   split at p
   ·rename_i hc
    obtain⟨v0,a,xs,Bs,k1,k2,k3,Zt,k4,k5,k6⟩:=r.WM q1 q4
    refine he σ H H (rE env) d _ (Zn.self K H) r.r su λy H1 Z1 s1 t1 z1 ry=>?_
    refine h σ H1 (rE env) v0 pp _ _ (r.r.same s1) k1 q2 (Dh s1 k2) λH2 s2=>hx σ H2 H2 (rE env) _ _ (Zn.self K H2) (r.r.same (s1.trans s2)) q3 λy' H3 Z3 s3 t3 z3 gf=>?_
    have Px:=s1.trans (s2.trans s3)
    have o:Ow K H3 d nil y:=qU d y hc.1 ((z1.sm.trans (s2.trans s3)).rv _ _ ry)
    have ek:=uB q5 (z3.sm.rv _ _ gf)
    refine⟨a,_,rfl,.inl ⟨ks.zip xs,k,Px _ _ k3,ek,Ph (by rw[List.length_zip];omega),rfl⟩,p _ ?_⟩
    rw[Pq Zt]
    have jy:=k5.same Px
    have hl3:=(cA.rv _ _ _ k5).length
    by_cases c:(posK ks k).isSome=true
    ·obtain⟨A',a1,a2⟩:=Dj o k Zt jy
     refine k6 H3 (vG ks k) (putD ks ds k d) (putD ks xs k y) A' Px (Dc Zt) ?_ λb z=>.inl (a1 b z)
     unfold putD
     rw[if_pos c,if_pos c]
     exact a2
    ·refine k6 H3 (vG ks k) (putD ks ds k d) (putD ks xs k y) (dH Bs nil) Px (Dc Zt) ?_ λb z=>z.elim .inl False.elim
     unfold putD
     rw[if_neg c,if_neg c]
     exact dI.mpr ((dI.mp jy).snoc o λ_ _ z=>z)
   ·exact p.elim
  ·exact p.elim
 ·exact p.elim
theorem mZ{pos':Pos}(h:XP K X a ta i π)(hx:XR K X b tb g)(he:XR K X e te f)(hp:PE X a ta→PE X b tb→PE X e te→PS X (.Assign [.Subscript a b pos'] e pos) (Ih ta tb te)):YS K X (.Assign [.Subscript a b pos'] e pos) (Ih ta tb te) (iC i π g f):=⟨hp h.pe hx.pe he.pe,(Wz h.ev hx.ev he.ev).ds⟩
end
end L2


namespace L2
open PySem PySem.Spec PyProof.Rows
def sy(K:aA)(B:Hp)(R:Fp)(env:EN)(σ:St)(H:Hp):Prop:=∃A,eQ (fP K H (out H (dH A R))) env A σ∧Apart A R∧aH B (out H (dH A R))
section
variable{K:aA}{B H H':Hp}{env:EN}{σ:St}{R R' A1:Fp}
end
section
variable{K:aA}{X:Cx}{e a b c:Expr}{es:List Expr}{t ta tb te:TE}{f g:FE}{tA:TA}{fs:FA}{pos:Pos}{i j:Nat}{π:FP}{st:Stmt}
inductive ZQ(K:aA)(H:Hp):V→Value→Prop where
 | bl (x:Bool):ZQ K H (.bl x) (.type "bool")
 | int (i:Int):ZQ K H (.int i) (.type "int")
 | lst {a:Addr} {xs:List V} (e:iY K H a xs):ZQ K H (.ref a) (.type "list")
 | tup {a:Addr} {xs:List V} (e:lB K H a xs):ZQ K H (.ref a) (.type "tuple")
structure jz(mg:Str→Option Value)(x:Str)(i:Int):Prop where
 ex:∃t,mg x=some (.int i t)
structure kh(K:aA)(mg:Str→Option Value)(x:Str)(ns:List Int):Prop where
 ex:∃a,mg x=some (.ref a)∧∀H:Hp,lB K H a (ns.map V.int)
def dTup(ns:List Int):D:=.tup (ns.map D.int)
end
def gH(n m:Nat)(g:GS):List D→Option D:=λds=>if ds.length=m then(match g (ds.map SD.fro++D9 (n-m) SD.no)with
  | .ret d=>some d
  | .next _=>some .non
  | _=>none)else none
theorem Dk{K:aA}{H Z:Hp}{k:Nat}:∀{ds:List D} {vs:List V},bI K Z ds vs→eQ (fP K H Z) (ds.map SD.fro++D9 k SD.no) nil (vs.map some++D9 k none)
 | [],vs,h=>by
  unfold bI at h
  subst h
  simp only[F5,W4]
  induction k with
  | zero=>exact⟨λ_ z=>z,rfl⟩
  | succ k ih=>
   rw[T6,T6]
   exact⟨none,_,nil,nil,rfl,λ_ z=>z.elim,λx=>⟨.inl,λz=>z.elim id id⟩,λ_ z=>z,ih⟩
 | d::ds,vs,h=>by
  unfold bI at h
  obtain⟨y,ys,rfl,h1,h2⟩:=h
  rw[B5,B5,N3,N3]
  exact⟨some y,_,nil,nil,rfl,λ_ z=>z.elim,λx=>⟨.inl,λz=>z.elim id id⟩,⟨λ_ z=>z,y,rfl,h1⟩,Dk h2⟩
theorem nA{K:aA}{H:Hp}{k:Nat}{ds:List D}{vs:List V}(h:bI K H ds vs):Rel K H (ds.map SD.fro++D9 k SD.no) (vs.map some++D9 k none) H:=by
 have g:aH H (out H nil):=λx u e=>aZ.mpr ⟨λz=>z,e⟩
 exact⟨nil,Dk (g.Lk _ _ h),g⟩
theorem Raw.tU{P:Program}{w:World}{K:aA}{mg:Str→Option Value}{base:Heap}{x:Str}{st:Stmt}{N ps:List Str}{k:Nat}{g:GS}(R:Raw K mg x st)(S:bL N ps (aK st))
  (hb:∀(kV doc pm:Value)(an:Option Addr)(cdv ct:Value)(us:List Value),us.length=ps.length→bindArgs (F4 x x (cJ st) (bO st) (aK st) .none kV doc pm an cdv ct) ⟨us,[]⟩=pure (ps.zip us))
  (hbody:∀(f:Addr)(cdv:Value)(A:Around)(outer:List Env)(s:Shared)(H:Hp)(E:XK),fK k (A.deeper (envOfC x (aK st) s.heap.objs.size f cdv)) →
   ∃t,YB K (dZ Lh P w K mg base N x (aK st) f cdv A outer s H E).Yz (bO st) t g):jP P w K mg base x (k+1) ps.length (lA K ps.length (gH N.length ps.length g)):=by
 refine R.cal S (λvs H Q E h=>?_) hb (λf cdv A outer s H vs Q E hr h=>?_)
 ·obtain⟨ds,d,h1,h2,_⟩:=h
  rw[h2.length];exact h1
 obtain⟨ds,d,h1,h2,h3,kk⟩:=h
 obtain⟨t,yb⟩:=hbody f cdv A outer s H E hr
 refine⟨t,yb.ps,yb.ev H _ _ H (ds.map SD.fro++D9 (N.length-ps.length) SD.no) ?_ ?_⟩
 ·have hl:vs.length=ps.length:=by rw[h2.length];exact h1
  have:=nA (k:=N.length-ps.length) h2
  unfold start
  rw[hl]
  exact this
 ·unfold gH at h3
  rw[if_pos h1]at h3
  cases q:g (ds.map SD.fro++D9 (N.length-ps.length) SD.no)with
  | ret d'=>
   rw[q]at h3
   cases h3
   refine λv H' A' s' o=>kk v H' (s'.trans (dG _ _)) ⟨A',o,λa qa=>?_⟩
   cases e:H a with
   | none=>rfl
   | some u=>exact absurd qa (aZ.mp (s' a u e)).1
  | next env'=>
   rw[q]at h3
   cases h3
   refine λσ' H' ⟨A',_,s'⟩=>kk .non H' (s'.trans (dG _ _)) (.fO rfl (by unfold Rv;rfl))
  | brk env'=>rw[q]at h3;cases h3
  | cont env'=>rw[q]at h3;cases h3
  | bad=>rw[q]at h3;cases h3
  | rete d e=>rw[q]at h3;cases h3
end L2


namespace L2
open PySem PySem.Spec PyProof.Rows
section
variable{K:aA}{X:Cx}{e a b c:Expr}{es:List Expr}{t ta tb te:TE}{f g:FE}{tA:TA}{fs:FA}{pos:Pos}{i j:Nat}{π:FP}{st:Stmt}{gb:GS}{tc:TT}{fc:FT}
def Qe(f:FE):FE:=λe=>(f e).bind λd=>match d with | .int i=>some (.int (-i)) | _=>none
theorem Xa(ha:XR K X a ta f):XN K X (.UnaryOp .USub a pos) (SJ (rU λi=>.int (-i)) ta) (Qe f):=JC ha
def tu(K:aA)(wi:TI)(fi:FA):Prop:=∀(σ:St)(H:Hp)(e:DE)(ds:List D)(R:It→Hp→Prop),mY K H e σ→fi e=some ds →
 (∀J H' P vs,aH H H'→GX J P vs→(∀H2,P H2)→(∀Z,bI K Z ds vs)→R J H')→wi σ H R
structure XJ(K:aA)(X:Cx)(tg iter:Expr)(wi:TI)(fi:FA):Prop where
 pi:PI X tg iter wi
 ev:tu K wi fi
def kj(i:Nat)(fi:FA)(g:GS):GS:=λenv=>match fi (rE env)with
 | some xs=>rD i g xs env
 | none=>.bad
end
theorem Gh{K:aA}{st:Stmt}{f:Addr}{fd:FuncData}(F:Uw K "law" "law" st f fd) (hb:∀(kV doc pm:Value)(an:Option Addr)(cdv ct:Value)(u:Value),bindArgs (F4 "law" "law" (cJ st) (bO st) (aK st) .none kV doc pm an cdv ct) ⟨[u],[]⟩=pure [(("script" : Str),u)]):∀(s:Shared)(u:Value),BindsTo s fd ⟨[u],[]⟩ [("script", u)]:=by
 obtain⟨oc,od,kV,doc,pm,an,cdv,ct,osl,rfl,lk,hcd⟩:=F.ex
 exact λs u=>.of_eq (hb kV doc pm an cdv ct u)
end L2


namespace L2
open PySem PySem.Spec PyProof.Rows
section
variable{K:aA}{X:Cx}{e a b c:Expr}{es:List Expr}{t ta tb te:TE}{f g:FE}{tA:TA}{fs:FA}{pos:Pos}{i j:Nat}{π:FP}{st:Stmt}
variable{lo hi:Option Expr}{tl th:TO}{fl fh:FO}{p2:Pos}
end
end L2


namespace L2
open PySem PySem.Spec PyProof.Rows
def Led(b:Bool)(t:SetTable):Prop:=t.led=b∧(t.plain=true→t.place.toList.Pairwise (·<·)∧t.dummies=#[])
end L2


namespace L2
open PySem PySem.Spec PyProof.Rows
section
variable{prog:Program}{w:World}{A:Around}{E:Value→Shared→Prop}{s:Shared}{b:Bool}
def uc(prog:Program)(w:World)(b:Bool)(h:Heap)(a:Addr)(S:Int→Bool)(n:Nat):Prop:=
 ∃o es ep t,h.get? a=some o∧o.ExactSet∧o.data=.set es ep t∧ElemsOf (intKind prog w) es.toList∧(∀k,S k=true↔∃e∈es.toList,(intKind prog w).is k e.2=true)∧es.size<scanBound∧t.fits es.size=true∧es.size=n∧Led b t
end
section
variable{prog:Program}{w:World}{A:Around}{R:Result→Shared→Prop}{I:Addr}{fp wr:List Addr}{G:Array GenState→Array GenState→Prop}{n:Nat}{P:Nat→Value→Prop}{St:Nat→Shared→Prop}{b:Bool}
end
end L2


namespace L2
open PySem PySem.Spec PyProof.Rows
section
variable{prog:Program}{w:World}{A:Around}{E:Value→Shared→Prop}{s:Shared}
end
end L2


namespace L2
open PySem PySem.Spec PyProof.Rows
def yg(h:Heap)(I:Addr)(f:Value)(i:Nat)(a:Addr)(n ep:Nat):Prop:=∃o,h.get? I=some o∧o.cls=.type "set_iterator" ∧ o.data=.fields #[f,.int (i:Int) 0,.ref a,.int (n:Int) 0,.int (ep:Int) 0]
def yh(h:Heap)(a:Addr)(es:Array (Int×Value))(ep:Nat)(t:SetTable):Prop:=∃o,h.get? a=some o∧o.cls=.type "set" ∧ o.data=.set es ep t∧t.fits es.size=true
section
variable{prog:Program}{w:World}{A:Around}{E:Value→Shared→Prop}{s:Shared}{I a T:Addr}{f:Value}{i n ep:Nat}{es:Array (Int×Value)}{t:SetTable}
end
end L2


namespace L2
open PySem PySem.Spec PyProof.Rows
section
variable{prog:Program}{w:World}{A:Around}{E:Value→Shared→Prop}{s:Shared}{I a T:Addr}{f:Value}{i n ep:Nat}{es:Array (Int×Value)}{t:SetTable}
end
end L2


namespace L2
open PySem PySem.Spec PySem.Calls PyProof.Rows PyProof.V
section
variable{prog:Program}{w:World}{A:Around}{E:Value→Shared→Prop}{s:Shared}{I a T:Addr}{n:Nat}{S:Int→Bool}
end
end L2


namespace L2
open PySem PySem.Spec PySem.Calls PyProof.Rows PyProof.V
section
variable{X:Cx}{e:Expr}{t:TE}{x y:Str}{p p2 pos pos2:Pos}
end
end L2


namespace L2
open PySem PySem.Spec PySem.Calls PyProof.Rows PyProof.V
section
variable{prog:Program}{w:World}{A:Around}{E:Value→Shared→Prop}{s:Shared}{I l:Addr}
end
section
variable{K:aA}{X:Cx}{e:Expr}{t:TE}{f:FE}{x y:Str}{p p2 pos pos2:Pos}
def ZR(φ:D→Option D)(f:FE):FE:=λe=>(f e).bind φ
end
end L2


namespace L2
open PySem PySem.Spec PySem.Calls PyProof.Rows PyProof.V PySem.W Att
abbrev Small(k:Int):Prop:=Builtin.Int.intBits k≤1048576
theorem Qf{ns:List Int}(h:WData.layableAll [WData.list (ns.map WData.int)]=true):∀k∈ns,Small k:=λk hk=>by
 have h1:(WData.list (ns.map WData.int)).layable=true:=by simpa[WData.layableAll]using h
 obtain⟨c,_,w⟩:=layableW_iff.mp h1
 have c':WData.canLayAll (ns.map WData.int)=true:=by simpa[WData.canLay]using c
 have w':WData.weightAll (ns.map WData.int)≤2 ^ 20:=by simpa[WData.weight]using w
 have:=(items_part (G0.mpr ⟨k,hk,rfl⟩) c').2.2
 have e:(WData.int k).weight=Builtin.Int.intBits k:=by simp only[WData.weight,Builtin.Int.intBits]
 rw[e]at this
 exact F8 this w'
theorem Dl{l:OpenLaw}{n:Nat}{q:Program}{loose:List Str}{XP:(Str→Option Value)→Heap→Prop}{YP:World→Heap→Prop}{d:DefRec}(hn:l.most=some n)(hdf:d.params.defaults=[])
  (call:∀(w:World)(s₀ s₁:Shared)(mg mb:Str→Option Value)(fa:Addr)(o:Obj)(pm cd doc:Value)(a:Addr)(vs:List Value)(ns:List Int),Ground q loose [] XP w s₀ mg mb s₁.heap→YP w s₁.heap →
   s₁.heap.get? fa=some o→o.data=.func (docDef d.name d.params d.body d.scope pm cd doc)→s₁.heap.CodeRec cd d.name→mg d.name=some (.ref fa) →
   s₁.heap.get? a=some {cls:=.type "list", data:=.seq vs.toArray}→IntsAre vs ns→ns.length≤n→(∀k∈ns,Small k)→s₁.gens=#[] →
   codeAny (model l.prog w) callerA (.call (.ref fa) ⟨[.ref a],[]⟩) (λr s'=>r=.ok (.ret (.bool true))∧OldK s₁.heap s'.heap∧s'.os=s₁.os∧AllBare s'.gens) s₁) :
  WalkO q loose XP YP l.row.toRowW d [] (λf vs=>W5 f vs):=by
 intro w s₀ s₁ mg mb G Y fa o pm cd doc dV kV ho hd hcd hD hmg hg args vals as hpre hlay hrd hwl hlo
 obtain rfl:dV=.none:=Dflts.none hD hdf
 obtain rfl:kV=.none:=Dflts.noKw hD
 obtain⟨a,vs,ns,rfl,rfl,hobj,hints,hlen⟩:=Lf hn hpre hwl
 refine enter_call (codeAny_mono (call w s₀ s₁ mg mb fa o pm cd doc a vs ns G Y ho (fd_plain hd) hcd hmg hobj hints hlen (Qf hlay) hg) λr s' hq=>?_)
 obtain⟨rfl,h2,h3,h4⟩:=hq
 exact⟨.inl ⟨.bool true,.bool true,[],rfl,λ_=>rfl,.bool true,Lg l _,λ_=>⟨List.Pairwise.nil,λ_ hm=>(nomatch hm)⟩⟩,h2,h3,h4⟩
theorem Lr{l:W6}{n k:Nat}{q:Program}{loose:List Str}{XP:(Str→Option Value)→Heap→Prop}{YP:World→Heap→Prop}{d:DefRec}{K:Params→aA}{CX:World→Ck}{sp:World→Sp}{x:Str}(hn:l.most=some n)(hn2:n≤sizeLine)(hdf:d.params.defaults=[])(hr:fK k callerA)
  (hY:∀(w:World)(h:Heap),YP w h→(K w.params).In h)
  (F:∀(w:World)(mg:Str→Option Value)(fa:Addr)(h:Heap),(K w.params).In h→h.Ns mainGlobals mg→mg d.name=some (.ref fa)→∃fd:FuncData,(∀(s:Shared)(u:Value),BindsTo s fd ⟨[u],[]⟩ [(x,u)])∧∀base:Heap,(K w.params).In base→base.Ns mainGlobals mg→pC l.prog w (K w.params) mg base (CX w) k fa fd [x] (sp w))
  (hsp:∀(w:World)(H:Hp)(a:Addr)(ns:List Int),ns.length≤n→(∀k∈ns,Small k)→Only H→iY (K w.params) H a (ns.map V.int)→sp w [.ref a] H (λv _=>v=.bl true) λ_ _ _=>False)
  (du:∀(w:World)(H:Hp)(s:Shared)(e:Value)(s':Shared),CX w [] H s (λ_ _ _=>False) e s'→False) :
  W9 q loose XP YP l.row.toRowW d [] (λf vs=>W5 f vs):=by
 refine Dl hn hdf λw s₀ s₁ mg mb fa o pm cd doc a vs ns G Y ho hd hcd hmg hobj hints hlen hsm hg=>?_
 have KX:=hY w _ Y
 obtain⟨fd,hb,hF⟩:=F w mg fa _ KX G.T.g hmg
 exact Oi KX G.T.g G.T.b G.T.builtins G.T.nolimit hg hobj hints (F8 hlen hn2) hr hF hb (λH hO hS=>hsp w H a ns hlen hsm hO hS) λH e s'=>du w H s₁ e s'
def gj(K:aA):Sp:=λvs H Q _=>∃(a:Addr)(ns:List Int),vs=[.ref a]∧iY K H a (ns.map V.int)∧ns.length≤63∧(∀k∈ns,Small k)∧∀H',Q (.bl true) H'
theorem Uw.ud{P:Program}{w:World}{K:aA}{mg:Str→Option Value}{base:Heap}{x:Str}{st:Stmt}{N:List Str}{k:Nat}{g:GS}{f:Addr}{fd:FuncData}(F:Uw K x x st f fd)(S:bL N ["script"] (aK st))
  (hbody:∀(cdv:Value)(A:Around)(outer:List Env)(s:Shared)(H:Hp)(E:XK),fK k (A.deeper (envOfC x (aK st) s.heap.objs.size f cdv))→∃t,YB K (dZ Lh P w K mg base N x (aK st) f cdv A outer s H E).Yz (bO st) t g)
  (JM:∀ns:List Int,ns.length≤63→(∀k∈ns,Small k)→gH N.length 1 g [.lst (ns.map D.int)]=some (.bl true)):pC P w K mg base Lh (k+1) f fd ["script"] (gj K):=by
 refine F.ok S (λvs H Q E h=>?_) (λcdv A outer s H vs Q E hr h=>?_)
 ·obtain⟨a,ns,rfl,_⟩:=h
  rfl
 obtain⟨a,ns,rfl,hS,hl,hb,q⟩:=h
 obtain⟨t,yb⟩:=hbody cdv A outer s H E hr
 have h3:=JM ns hl hb
 have rv:bI K H [.lst (ns.map D.int)] [.ref a]:=by
  unfold bI
  exact⟨_,_,rfl,by unfold Rv;exact⟨a,_,rfl,hS,jC.mpr rfl⟩,by unfold bI;rfl⟩
 refine⟨t,yb.ps,yb.ev H _ _ H ([D.lst (ns.map D.int)].map SD.fro++D9 (N.length-1) SD.no) (nA rv) ?_⟩
 unfold gH at h3
 rw[if_pos (show [D.lst (ns.map D.int)].length=1 from rfl)]at h3
 cases qq:g ([D.lst (ns.map D.int)].map SD.fro++D9 (N.length-1) SD.no)with
 | ret d'=>
  rw[qq]at h3
  cases h3
  refine λv H' A' s' o=>?_
  have:=Ow.rv _ _ _ o
  unfold Rv at this
  subst this
  exact q _
 | _=>
  rw[qq]at h3
  cases h3
section
variable{K:aA}{X:Cx}{e a b c:Expr}{es:List Expr}{t ta tb te:TE}{f g:FE}{pos:Pos}
def tE(i j:Int):Prop:=Builtin.Int.intBits i≤4000000∧Builtin.Int.intBits j≤4000000
instance (i j:Int):Decidable (tE i j):=by unfold tE;exact inferInstance
theorem tE.ok{i j:Int}(h:tE i j):IntMulOk i j:=PyProof.Rows.mulOk_of_bits h.1 h.2 (by decide)
theorem Xb:nR X (binaryOp .Mult) (rI tE λi j=>.int (i*j)):=SQ λ_ _ _ _ _ _ _ hc q=>mul_int q hc.ok
def Dm:D→D→Option D:=uY tE λi j=>.int (i*j)
theorem Jb(ha:XR K X a ta f)(hb:XR K X b tb g):XN K X (.BinOp a .Mult b pos) (Cj (rI tE λi j=>.int (i*j)) ta tb) (f2 Dm f g):=vC Xb (vA λ_ _ h=>h) ha hb
variable{lo hi:Option Expr}{tl th:TO}{fl fh:FO}{p2:Pos}
end
end L2


namespace L2
open PySem PySem.Spec PySem.Calls PyProof.Rows PyProof.V
section
variable{K:aA}{X:Cx}
def km:List D→Option D
 | [.bl c]=>some (.int (if c then 1 else 0))
 | _=>none
end
end L2


namespace L2
open PySem PySem.Spec PySem.Calls PyProof.Rows PyProof.V
section
variable{X:Cx}{pins:List (Addr×Obj)}{σ:St}{H:Hp}{s:Shared}{h':Heap}
end
section
variable{K:aA}{X:Cx}{e a b c:Expr}{es:List Expr}{t ta tb te:TE}{f g fe:FE}{tc:TT}{fc:FT}{pos p p2:Pos}{x:Str}
end
end L2


namespace L2
open PySem PySem.Spec PySem.Calls PyProof.Rows PyProof.V
section
variable{K:aA}{B H:Hp}{env:EN}{σ:St}{i:Nat}{v:V}{d:D}
end
section
variable{K:aA}{X:Cx}{st:Stmt}{sts:List Stmt}{t u tb:TS}{g g1 g2:GS}{e a b c:Expr}{es:List Expr}{te ta t0:TE}{f f0 fa fb:FE}{gk:FE}{tA:TA}{fs:FA}{tc:TT}{fc:FT}{pos:Pos}{i:Nat}{π:FP}
end
end L2


namespace L2
open PySem PySem.Spec PySem.Calls PyProof.Rows PyProof.V
section
variable{α β:Type}{R:α→Fp→β→Prop}
end
section
variable{K:aA}{B H H':Hp}{env:EN}{σ:St}{i:Nat}{v:V}{d:D}
end
def kW:GS:=λ_=>.bad
theorem lR{K:aA}{X:Cx}{st:Stmt}:YS K X st uI kW:=⟨Np,λ_ _ _ _ _ _ p=>p.elim⟩
section
variable{K:aA}{X:Cx}{st:Stmt}{sts:List Stmt}{t u tb:TS}{g g1 g2:GS}{e a b c o:Expr}{es:List Expr}{te ta t0 tv:TE}{f f0 fa fb:FE}{gk:FE}{tA:TA}{fs:FA}{tc:TT}{fc:FT}{pos apos:Pos}{i:Nat}{π:FP}
structure ue(K:aA)(C:Addr)(nm:List Str):Prop where
 cl:jk K C
 no:∀f∈nm,FQ K C f
end
section
variable{K:aA}{B H:Hp}{env:EN}{σ:St}
end
section
variable{K:aA}{X:Cx}{st:Stmt}{sts:List Stmt}{t u tb:TS}{g g1 g2:GS}{e a b c o:Expr}{es:List Expr}{te ta t0 tv:TE}{f f0 fa fb:FE}{gk:FE}{tA:TA}{fs:FA}{tc:TT}{fc:FT}{pos apos:Pos}{i:Nat}{π:FP}
end
end L2


namespace L2
open PySem PySem.Spec PySem.Calls PyProof.Rows PyProof.V
section
variable{K:aA}{B H H':Hp}{env:EN}{σ:St}{i:Nat}{p:List Step}{d0 d:D}
end
abbrev GM:=EN→Option (D×EN)
def uf(K:aA)(t:TE)(g:GM):Prop:=∀(B:Hp)(σ:St)(H:Hp)(env:EN)(d:D)(env':EN)(Q:VK),Rel K B env σ H→g env=some (d,env')→(∀v H',Rel K B (env'++[.own d]) (σ++[some v]) H'→Q v H')→t σ H Q
structure XM(K:aA)(X:Cx)(e:Expr)(t:TE)(g:GM):Prop where
 hk:X.K=K
 pe:PE X e t
 ev:uf K t g
abbrev GB:=EN→Option (Bool×EN)
def WN(K:aA)(t:TT)(g:GB):Prop:=∀(B:Hp)(σ:St)(H:Hp)(env:EN)(b:Bool)(env':EN)(Q:Bool→Hp→Prop),Rel K B env σ H→g env=some (b,env')→(∀H',Rel K B env' σ H'→Q b H')→t σ H Q
structure yj(K:aA)(X:Cx)(e:Expr)(t:TT)(g:GB):Prop where
 hk:X.K=K
 pt:PT X e t
 ev:WN K t g
structure yl(K:aA)(X:Cx)(e:Expr)(t:TT)(g:GB):Prop where
 hk:X.K=K
 pw:PW X e t
 ev:WN K t g
abbrev FA2:=DE→DE→Option (List D)
def gn(K:aA)(t:TA)(fs:FA2):Prop:=∀(A1:Fp)(σ:St)(H:Hp)(eF eZ:DE)(ds:List D)(Q:List V→Hp→Prop),(∀x,A1 x→lG H x)→mY K H eF σ→mY K (out H A1) eZ σ→fs eF eZ=some ds →
 (∀vs H',aH H H'→bI K (out H' A1) ds vs→Q vs H')→t σ H Q
structure ym(K:aA)(X:Cx)(es:List Expr)(t:TA)(fs:FA2):Prop where
 hk:X.K=K
 pa:PA X es t
 ev:gn K t fs
section
variable{K:aA}{X:Cx}{st:Stmt}{sts:List Stmt}{t u tb:TS}{g:GM}{g1 g2:GS}{e a b c o:Expr}{es rest:List Expr}{te ta t0 tv:TE}{f f0 fa fb:FE}{tA:TA}{fs:FA2}{tc td:TT}{fc:FT}{gb gc:GB}{pos apos:Pos}{i:Nat}{π:FP}
structure ug(P:Program)(w:World)(K:aA)(mg:Str→Option Value)(base:Heap)(C:Addr)(m:Str)(k n:Nat)(df:Bool)(sp:Sp):Prop where
 ex:∃f fd ps,ps.length=n∧pC P w K mg base Lh k f fd ps sp∧Binds K fd ps []∧(df=true→Binds K fd ps [Value.none])∧Meth K C m f
structure uh(P:Program)(w:World)(K:aA)(mg:Str→Option Value)(base:Heap)(x:Str)(C:Addr)(k n:Nat)(sp:Sp):Prop where
 ex:∃f fd ps,ps.length=n∧pC P w K mg base Lh k f fd ps sp∧Binds K fd ps []∧Mk K C f∧mg x=some (.ref C)
end
end L2


namespace L2
open PySem PySem.Spec PySem.Calls PyProof.Rows PyProof.V
def gq(K:aA)(dN:Bool)(dV:Value):Prop:=match dN with
 | false=>dV=.none
 | true=>∃T o n,dV=.ref T∧K.lookup T=some o∧o.data=.seq #[.none] n
structure WQ(K:aA)(f:Addr)(m q:Str)(st:Stmt)(dN:Bool):Prop where
 ex:∃(oc:Value)(od:Option Addr)(dV kV doc pm:Value)(an:Option Addr)(cdv ct:Value)(osl:Array (Option Value)),
  K.lookup f=some ⟨oc,od,.func (F4 m q (cJ st) (bO st) (aK st) dV kV doc pm an cdv ct),osl⟩∧M8 K cdv q=true∧gq K dN dV
structure um(K:aA)(C:Addr)(m q:Str)(st:Stmt)(dN:Bool):Prop where
 ex:∃f,WQ K f m q st dN∧Meth K C m f
structure uo(K:aA)(mg:Str→Option Value)(x:Str)(C:Addr)(q:Str)(st:Stmt):Prop where
 ex:∃f,WQ K f "__init__" q st false∧Mk K C f∧mg x=some (.ref C)
def HB(x q:Str)(st:Stmt)(ps:List Str):Prop:=∀(kV doc pm:Value)(an:Option Addr)(cdv ct:Value)(us:List Value),us.length=ps.length→bindArgs (F4 x q (cJ st) (bO st) (aK st) .none kV doc pm an cdv ct) ⟨us,[]⟩=pure (ps.zip us)
def uq(x q:Str)(st:Stmt)(ps:List Str):Prop:=∀(T:Addr)(kV doc pm:Value)(an:Option Addr)(cdv ct:Value)(us:List Value),(us.length=ps.length→∃k,bindArgs (F4 x q (cJ st) (bO st) (aK st) (.ref T) kV doc pm an cdv ct) ⟨us,[]⟩=seqItems? (Value.ref T) >>= k∧k (some #[Value.none])=pure (ps.zip us)) ∧
 (us.length+1=ps.length→∃k,bindArgs (F4 x q (cJ st) (bO st) (aK st) (.ref T) kV doc pm an cdv ct) ⟨us,[]⟩=seqItems? (Value.ref T) >>= k∧k (some #[Value.none])=pure (ps.zip (us++[Value.none])))
def yo(dN:Bool)(x q:Str)(st:Stmt)(ps:List Str):Prop:=match dN with
 | false=>HB x q st ps
 | true=>uq x q st ps
section
variable{P:Program}{w:World}{K:aA}{mg:Str→Option Value}{base:Heap}
end
section
variable{K:aA}{X:Cx}{st:Stmt}{g g1 g2 gb:GS}{e a b c o:Expr}{es rest:List Expr}{te ta tb tc t0 tv:TE}{f f0 fa fb fc:FE}{tA:TA}{fs:FA}{pos apos:Pos}{i j:Nat}{π:FP}{lg:TS}
end
end L2


namespace L2
open PySem PySem.Spec PySem.Calls PyProof.Rows PyProof.V
section
variable{K:aA}{B H:Hp}{env:EN}{σ:St}
end
abbrev FK:=DE→Option (List Key)
def ur(K:aA)(t:TE)(fk:FK):Prop:=∀(σ:St)(H:Hp)(e:DE)(k:List Key)(Q:VK),mY K H e σ→fk e=some k→(∀b H',aH H H'→H' b=some (.tup (k.map kV))→Q (.ref b) H')→t σ H Q
structure yp(K:aA)(X:Cx)(e:Expr)(t:TE)(fk:FK):Prop where
 hk:X.K=K
 pe:PE X e t
 ev:ur K t fk
section
variable{K:aA}{X:Cx}{st:Stmt}{e a b c o:Expr}{es rest:List Expr}{te ta tb tc t0 tv:TE}{f fa fb:FE}{g:FK}{gd:FE}{tA:TA}{fs:FA}{pos apos:Pos}{i j:Nat}{π:FP}{lg:TS}
def gr(K:aA)(t:TA)(fs:FA)(i:Nat):Prop:=∀(σ:St)(H:Hp)(e:DE)(ds:List D)(v:V)(Q:List V→Hp→Prop),mY K H e σ→fs e=some ds→σ[i]?=some (some v)→(∀vs H',aH H H'→xN K H H' ds vs→Q (vs++[v]) H')→t σ H Q
structure yq(K:aA)(X:Cx)(es:List Expr)(t:TA)(fs:FA)(i:Nat):Prop where
 hk:X.K=K
 pa:PA X es t
 ev:gr K t fs i
end
end L2


namespace L2
open PySem PySem.Spec PySem.Calls PyProof.Rows PyProof.V
section
variable{K:aA}{X:Cx}{st:Stmt}{e a b c o:Expr}{es rest:List Expr}{te ta tb tc t0 tv:TE}{f fa fb g:FE}{gk:FK}{gd:FE}{tA:TA}{fs:FA}{pos apos:Pos}{i j:Nat}{π:FP}{lg:TS}{gm:GM}
theorem Jc(h:XR K X e te f)(hs:swapsWith e none pos.line X.env=pure false:=by rfl):YS K X (.Expr e pos) (kI te) (tD f):=⟨zK h.pe hs,Wy h.ev⟩
end
end L2
namespace L2
open PySem PySem.Spec PySem.Calls PyProof.Rows PyProof.V
end L2


namespace L2
open PySem PySem.Spec PySem.Calls PyProof.Rows PyProof.V
section
variable{K:aA}{X:Cx}{e stx:Expr}{te ts:TE}{f g:FE}{pos p2:Pos}
end
end L2


namespace L2
open PySem PySem.Spec PySem.Calls PyProof.Rows PyProof.V
abbrev FE2:=DE→DE→Option D
def uv(K:aA)(t:TE)(f:FE2):Prop:=∀{N:Fp}(σ:St)(H Z:Hp)(eF eZ:DE)(d:D)(Q:VK),Zn K N Z H→mY K H eF σ→mY K Z eZ σ→f eF eZ=some d →
 (∀v H' Z',aH H H'→aH Z Z'→Zn K N Z' H'→Rv K Z' d v→Q v H')→t σ H Q
def gw(K:aA)(t:TA)(f:FA2):Prop:=∀{N:Fp}(σ:St)(H Z:Hp)(eF eZ:DE)(ds:List D)(Q:List V→Hp→Prop),Zn K N Z H→mY K H eF σ→mY K Z eZ σ→f eF eZ=some ds →
 (∀vs H' Z',aH H H'→aH Z Z'→Zn K N Z' H'→bI K Z' ds vs→Q vs H')→t σ H Q
structure XZ(K:aA)(X:Cx)(e:Expr)(t:TE)(f:FE2):Prop where
 hk:X.K=K
 pe:PE X e t
 ev:uv K t f
structure yr(K:aA)(X:Cx)(es:List Expr)(t:TA)(f:FA2):Prop where
 hk:X.K=K
 pa:PA X es t
 ev:gw K t f
section
variable{K:aA}{X:Cx}{e a b:Expr}{es:List Expr}{te ta tb:TE}{f:FE}{g h:FE2}{tA:TA}{fs:FA2}{pos:Pos}{i:Nat}
end
end L2


namespace L2
open PySem PySem.Spec PySem.Calls PyProof.Rows PyProof.V
inductive Ar where
  | ch (i:Nat) | rd (f:FE) | nw (f:FE)
def ZV:List Ar→List Nat
 | []=>[]
 | .ch i::as=>i::ZV as
 | .rd _::as=>ZV as
 | .nw _::as=>ZV as
def ZW:List Ar→DE→DE→Option (List D)
 | [],_,_=>some []
 | .ch _::as,eF,eZ=>ZW as eF eZ
 | .rd f::as,eF,eZ=>(f eZ).bind λd=>(ZW as eF eZ).map λr=>d::r
 | .nw f::as,eF,eZ=>(f eF).bind λd=>(ZW as eF eZ).map λr=>d::r
def Jd(K:aA)(Z:Hp)(σ:St):List Ar→List D→List V→Prop
 | [],ds,vs=>ds=[]∧vs=[]
 | .ch i::as,ds,vs=>∃v r,vs=v::r∧σ[i]?=some (some v)∧Jd K Z σ as ds r
 | .rd _::as,ds,vs=>∃d dr v r,ds=d::dr∧vs=v::r∧Rv K Z d v∧Jd K Z σ as dr r
 | .nw _::as,ds,vs=>∃d dr v r,ds=d::dr∧vs=v::r∧Rv K Z d v∧Jd K Z σ as dr r
def lq(σ:St):List Nat→List V→Prop
 | [],vs=>vs=[]
 | j::js,vs=>∃v r,vs=v::r∧σ[j]?=some (some v)∧lq σ js r
section
variable{K:aA}{X:Cx}{e:Expr}{es:List Expr}{te:TE}{f:FE}{tA:TA}{as:List Ar}{pos:Pos}{i:Nat}
def ie(K:aA)(t:TA)(as:List Ar):Prop:=∀(A1:Fp)(σ:St)(H:Hp)(eF eZ:DE)(ds:List D)(cv:List V)(Q:List V→Hp→Prop),(∀x,A1 x→lG H x)→mY K H eF σ→mY K (out H A1) eZ σ→lq σ (ZV as) cv→ZW as eF eZ=some ds →
 (∀vs H',aH H H'→Jd K (out H' A1) σ as ds vs→Q vs H')→t σ H Q
structure yu(K:aA)(X:Cx)(es:List Expr)(t:TA)(as:List Ar):Prop where
 hk:X.K=K
 pa:PA X es t
 ev:ie K t as
end
section
variable{K:aA}{H H' Z Z' B:Hp}{σ:St}
end
section
variable{K:aA}{X:Cx}{e:Expr}{es:List Expr}{tA:TA}{as:List Ar}{pos pf:Pos}
end
section
variable{P:Program}{w:World}{K:aA}{mg:Str→Option Value}{base:Heap}
end
section
variable{K:aA}{X:Cx}{a b:Expr}{rest:List Expr}{ta tb:TE}{g h:GM}{f:FE}{pos:Pos}
end
end L2


namespace L2
open PySem PySem.Spec PySem.Calls PyProof.Rows PyProof.V
section
variable{prog:Program}{w:World}{A:Around}{R:Result→Shared→Prop}{I:Addr}{fp wr:List Addr}{n:Nat}{P:Nat→Value→Prop}{St:Nat→Heap→Prop}{kw:List (Str×Value)}
end
section
variable{prog:Program}{w:World}{A:Around}{E:Value→Shared→Prop}{s:Shared}
end
section
variable{K:aA}{X:Cx}{e e2:Expr}{te t2:TE}{f g:FE}{x:Str}{p pos kp:Pos}
end
end L2


namespace L2
open PySem PySem.Spec PySem.Calls PyProof.Rows PyProof.V
section
variable{X:Cx}
end
section
variable{K:aA}{X:Cx}{a b e:Expr}{ta tb te:TE}{f g:FE}{i:Nat}{π:FP}{pos apos cpos:Pos}{m:Str}
end
end L2


namespace L2
open PySem PySem.Spec PySem.Calls PyProof.Rows PyProof.V
def JN(ks:List Key)(vs:List V):List (V×V):=(ks.zip vs).map λkv=>(kV kv.1,kv.2)
def ig(K:aA)(t:List (TE×TE))(ks:List Key)(is:List Nat)(fs:FA):Prop:=∀(σ:St)(H:Hp)(e:DE)(ds:List D)(xs:List V)(Q:List (V×V)→Hp→Prop),mY K H e σ→fs e=some ds→xs.length=is.length →
 (∀(k i:Nat),is[k]?=some i→∃x,xs[k]?=some x∧σ[i]?=some (some x))→(∀vs H',aH H H'→xN K H H' ds vs→Q (JN ks (xs++vs)) H')→Ft t σ H Q
structure yw(K:aA)(X:Cx)(p:Pos)(keys:List (Option Expr))(vals:List Expr)(t:List (TE×TE))(ks:List Key)(is:List Nat)(fs:FA):Prop where
 hk:X.K=K
 yx:qj X p keys vals t
 ev:ig K t ks is fs
section
variable{K:aA}{X:Cx}{st:Stmt}{e:Expr}{vals:List Expr}{keys:List (Option Expr)}{te:TE}{f:FE}{fs:FA}{pos p p1:Pos}{i j:Nat}{t:List (TE×TE)}{ks:List Key}{is:List Nat}{x:Str}
end
section
variable{X:Cx}{K:aA}{x y:Str}{p p2 pos pos2:Pos}{a b:Expr}{t:TA}{fs:FA}
end
end L2


namespace L2
open PySem PySem.Spec PySem.Calls PyProof.Rows PyProof.V
section
variable{K:aA}{X:Cx}{a e:Expr}{ta te:TE}{f:FE}{π:FP}{i:Nat}{m:Str}{apos cpos pos:Pos}
end
end L2


namespace L2
open PySem PySem.Spec PySem.Calls PyProof.Rows PyProof.V
section
variable{K:aA}{X:Cx}{a b e:Expr}{es:List Expr}{ta tb te t:TE}{f g:FE}{tA:TA}{fs:FA}{pos apos cpos p2:Pos}{m:Str}
structure Je(mg:Str→Option Value)(x:Str)(i:Str):Prop where
 ex:∃t,mg x=some (.str i t)
theorem Qg{K:aA}{h:Heap}{mg:Str→Option Value}{x:Str}{i:Str}{t:Tok}(X:K.In h)(G:h.Ns mainGlobals mg)(a:G4 K mainGlobals x=some (some (.str i t))):Je mg x i:=⟨t,G2 X G a⟩
theorem WR{x:Str}{i:Str}(G:Je X.mg x i)(hg:Gl X x)(hd:(x==("__debug__" : Str))=false:=by decide) (hk:X.K=K:=by rfl):XN K X (.Name x pos) (tC (.str i)) (fC (.str i)):=by
 obtain⟨t,h⟩:=G.ex
 exact⟨hk,eG hg h ⟨t,rfl⟩ hd,Pa i⟩
def Zu(i j:Int):Prop:=0<j∧j.natAbs.log2<9000
instance:∀i j,Decidable (Zu i j):=λi j=>by unfold Zu;exact inferInstance
end
section
variable{P:Program}{w:World}{K:aA}{tg:Expr}
end
section
variable{K:aA}{X:Cx}{tg e l:Expr}{t tl:TE}{f:FE}
end
end L2


namespace L2
open PySem PySem.Spec PySem.Calls PyProof.Rows PyProof.V
section
variable{K:aA}{X:Cx}{a b c e:Expr}{ta tb tc te t:TE}{f g fa fb fc:FE}{pos apos cpos:Pos}{m:Str}
end
end L2


namespace L2
open PySem PySem.Spec PySem.Calls PyProof.Rows PyProof.V
section
variable{K:aA}{B H H':Hp}{env:EN}{σ:St}{i j:Nat}{v:V}{d:D}
end
end L2


namespace L2
open PySem PySem.Spec PySem.Calls PyProof.Rows PyProof.V
abbrev vL(h:Heap)(l:List Env):Heap:=W0 h (frs l)
structure Fl(l:List Env)(s1:Shared)(e:Addr)(cls:Value)(s':Shared):Prop where
 xG:∃a0,Heap.FlyingW (vL s1.heap l) l e cls a0 s'.heap
 up:s1.heap.UpToSlots s'.heap
 os:s'.os=s1.os
 bare:AllBare s'.gens
def uC(P:Program)(w:World):Ck:=λouter H s E ev s'=>∃e cls H' s1,ev=.ref e∧s1.os=s.os∧AllBare s1.gens∧Un (frs outer) [] H H' s.heap s1.heap∧kZ P w H' s1.heap∧Fl outer s1 e cls s'∧E cls none H'
theorem rG{h:Heap}{l:List Env}{b:Addr}{o:Obj}(e:h.get? b=some o)(hb:b∉frs l):(vL h l).get? b=some o:=T3 _ e hb
theorem rH{h:Heap}{l:List Env}{b:Addr}(hb:b∈frs l):(vL h l).get? b=none:=S8 _ hb
theorem An{h:Heap}{l:List Env}{b:Addr}{o:Obj}(e:(vL h l).get? b=some o):h.get? b=some o∧b∉frs l:=by
 refine⟨T9 _ e,λhb=>?_⟩
 rw[rH hb]at e
 cases e
theorem yN{h:Heap}{l:List Env}{b:Addr}(e:(vL h l).get? b=none)(hb:b∉frs l):h.get? b=none:=by
 cases q:h.get? b with
 | none=>rfl
 | some o=>rw[rG q hb]at e;cases e
theorem pY{h base:Heap}:∀{l:List Env},h.FunFrames base l→∀b∈frs l,∃o,h.get? b=some o∧∀vs,o.data≠.fields vs
 | [],_,b,hb=>by cases hb
 | env::l,⟨_,⟨L,o,hf,_,ho,hd⟩,r⟩,b,hb=>by
  unfold frs at hb
  rw[J8,hf]at hb
  rcases D6.mp hb with z | z
  ·rw[z];exact⟨o,ho,hd⟩
  ·exact pY r b z
theorem vM{h base base':Heap}:∀{l:List Env},h.FunFrames base l→(∀b∈frs l,base'.get? b=none)→h.FunFrames base' l
 | [],_,_=>trivial
 | env::l,⟨h1,⟨L,o,hf,_,ho,hd⟩,r⟩,k=>by
  have e:frs (env::l)=L::frs l:=by unfold frs;rw[J8,hf]
  exact⟨h1,⟨L,o,hf,k L (by rw[e];exact D4),ho,hd⟩,vM r λb hb=>k b (by rw[e];exact C9 _ hb)⟩
section
variable{P:Program}{w:World}{l:List Env}{s1 s':Shared}{e:Addr}{cls:Value}{H:Hp}{base:Heap}
theorem Fl.keep(f:Fl l s1 e cls s'){b:Addr}{o:Obj}(q:s1.heap.get? b=some o)(hb:b∉frs l):s'.heap.get? b=some o:=by
 obtain⟨a0,x⟩:=f.xG
 exact x.1 b o (rG q hb)
theorem Fl.slot(f:Fl l s1 e cls s')(ff:s1.heap.FunFrames base l){b:Addr}{o:Obj}(q:s1.heap.get? b=some o)(hb:b∈frs l):∃sl,s'.heap.get? b=some {o with slots:=sl}:=by
 obtain⟨o',q',hd⟩:=pY ff b hb
 rw[q]at q'
 cases q'
 exact f.up b o q hd
theorem Fl.un(f:Fl l s1 e cls s')(ff:s1.heap.FunFrames base l):Un (frs l) [] H H s1.heap s'.heap where
 keep:=λb o q _ hb _=>f.keep q hb
 slot:=λb o q _ hb _=>f.slot ff q hb
 free:=λ_ _ _ n _=>n
 there:=λb o q _=>by
  by_cases hb:b∈frs l
  ·obtain⟨sl,z⟩:=f.slot ff q hb
   exact⟨_,z⟩
  ·exact⟨o,f.keep q hb⟩
 tups:=λ_ _ q=>q
 qR:=λ_ _ _ q=>q
 tL:=λb ps q=>⟨#[],by rw[q];simp⟩
theorem Fl.hok(f:Fl l s1 e cls s')(hok:kZ P w H s1.heap)(hf:∀b∈frs l,H b=none):kZ P w H s'.heap:=λb u eb=>
 (hok b u eb).stay (λc v hc q=>f.keep q λz=>by
  have hz:=hf c z
  rcases hc with hc | hc
  ·rw[hc,eb]at hz;cases hz
  ·rw[hc]at hz;cases hz) (λ_ q=>q) λ_ _ q=>q
end
section
variable{X:Cx}{pins:List (Addr×Obj)}{σ:St}{H:Hp}{s s1 s':Shared}{e:Addr}{cls ev:Value}{E:XK}
theorem Inv.landed(I:Inv X pins σ H s1)(f:Fl X.stack s1 e cls s'):Inv X pins σ H s':=
 I.call' (ch:=[]) f.os (f.un I.stack) (f.hok I.hok I.zH) f.bare λb z=>absurd z (by simp)
theorem Inv.ghost(I:Inv X pins σ H s)(c:uC X.prog X.w X.stack H s E ev s'):∃e cls H' s1,ev=.ref e∧Inv X pins σ H' s1∧Fl X.stack s1 e cls s'∧E cls none H':=by
 obtain⟨e,cls,H',s1,h1,h2,h3,h4,h5,h6,h7⟩:=c
 exact⟨e,cls,H',s1,h1,I.call' (ch:=[]) h2 h4 h5 h3 λb z=>absurd z (by simp),h6,h7⟩
end
section
variable{P:Program}{w:World}{env:Env}{outer:List Env}{L e:Addr}{cls a0:Value}{s0 s1:Shared}{H0 H:Hp}{E:XK}{base h':Heap}{s2:Shared}
theorem Jf(hf:env.frame=some L)(ff:s1.heap.FunFrames base (env::outer))(hL0:s0.heap.get? L=none)(hLH:H L=none)(yz:L∉frs outer)(un:Un (frs outer) [] H0 H s0.heap s1.heap)(hok:kZ P w H s1.heap)(hos:s1.os=s0.os)(hg:AllBare s1.gens)
  (fl:Heap.FlyingW (vL s1.heap (env::outer)) outer e cls a0 h') (up:s1.heap.UpToSlots h') (os2:s2.os=s1.os) (WT:AllBare s2.gens) (hs2:s2.heap=h') (q:E cls none H):uC P w outer H0 s0 E (.ref e) s2:=by
 have ef:frs (env::outer)=L::frs outer:=by unfold frs;rw[J8,hf]
 obtain⟨oL,hoL,hdL⟩:=pY ff L (by rw[ef];exact D4)
 obtain⟨sl,hL'⟩:=up L oL hoL hdL
 obtain⟨k1,k2,k3,oe,vs,T,oT,ts,he,hc,hd,h1,hnT,hTe,hT,hdT,h3⟩:=fl
 have ZG:∀{b:Addr} {o:Obj} {vs:Array Value},h'.get? b=some o→o.data=.fields vs→b≠L∧b∉frs outer:=λ{b o vs} q1 q2=>by
  refine⟨λz=>?_,λz=>?_⟩
  ·rw[z,hL']at q1
   cases q1
   exact hdL vs q2
  ·obtain⟨o',z1,z2⟩:=pY k3 b z
   rw[q1]at z1
   cases z1
   exact z2 vs q2
 have hself:(s1.heap.update L (λo=>{o with slots:=sl})).get? L=some {oL with slots:=sl}:=Heap.get?_update_self _ hoL ((PySem.W.kts_isFreed oL sl).trans (Heap.get?_some_iff.mp hoL).2)
 have hoth:∀b,b≠L→(s1.heap.update L (λo=>{o with slots:=sl})).get? b=s1.heap.get? b:=λb hb=>Heap.get?_update_other _ _ (Ne.symm hb)
 have fresh:∀{b:Addr} {o:Obj} {vs:Array Value},h'.get? b=some o→o.data=.fields vs→(vL s1.heap (env::outer)).get? b=none→(vL (s1.heap.update L (λo=>{o with slots:=sl})) outer).get? b=none:=λ{b o vs} q1 q2 q3=>by
  obtain⟨n1,n2⟩:=ZG q1 q2
  have:=yN q3 (by rw[ef];exact λz=>(D6.mp z).elim n1 n2)
  cases q:(vL (s1.heap.update L (λo=>{o with slots:=sl})) outer).get? b with
  | none=>rfl
  | some o'=>
   have:=(An q).1
   rw[hoth b n1]at this
   simp_all
 refine⟨e,cls,H,{s1 with heap:=s1.heap.update L (λo=>{o with slots:=sl})},rfl,hos,hg,?_,?_,⟨⟨a0,?_⟩,?_,os2,WT⟩,q⟩
 ·have old:∀{b:Addr} {o:Obj},s0.heap.get? b=some o→b≠L:=λ{b o} q z=>by rw[z,hL0]at q;cases q
  refine⟨λb o q n hb hx=>?_,λb o q n hb hx=>?_,un.free,λb o q hx=>?_,un.tups,un.qR,un.tL⟩
  ·show (s1.heap.update L _).get? b=_
   rw[hoth b (old q)];exact un.keep b o q n hb hx
  ·show ∃sl',(s1.heap.update L _).get? b=_
   rw[hoth b (old q)];exact un.slot b o q n hb hx
  ·show ∃o',(s1.heap.update L _).get? b=_
   rw[hoth b (old q)];exact un.there b o q hx
 ·intro b u eb
  refine(hok b u eb).stay (λc v hc q=>?_) (λ_ q=>q) λ_ _ q=>q
  have:c≠L:=λz=>by
   rcases hc with hc | hc
   ·rw[←hc,z,hLH]at eb;cases eb
   ·rw[z,hLH]at hc;cases hc
  show (s1.heap.update L _).get? c=_
  rw[hoth c this];exact q
 ·rw[hs2]
  refine⟨λb o q=>?_,fresh he hd k2,vM k3 λb hb=>rH hb,oe,vs,T,oT,ts,he,hc,hd,h1,fresh hT hdT hnT,hTe,hT,hdT,h3⟩
  obtain⟨q1,q2⟩:=An q
  by_cases z:b=L
  ·subst z
   rw[hself]at q1
   cases q1
   exact hL'
  ·rw[hoth b z]at q1
   exact k1 b o (rG q1 (by rw[ef];exact λy=>(D6.mp y).elim z q2))
 ·rw[hs2]
  intro b o q hn
  by_cases z:b=L
  ·subst z
   have q:(s1.heap.update b _).get? b=some o:=q
   rw[hself]at q
   cases q
   exact⟨sl,hL'⟩
  ·have q:(s1.heap.update L _).get? b=some o:=q
   rw[hoth b z]at q
   exact up b o q hn
end
section
variable{P:Program}{w:World}{K:aA}{mg:Str→Option Value}{base:Heap}{N:List Str}{qual:Str}{scope:Scope}{f:Addr}{cd:Value}{A:Around}{outer:List Env}{s0:Shared}{H0:Hp}{E:XK}
theorem JP{CX:Ck}:PassesOwn (model P w) (dZ CX P w K mg base N qual scope f cd A outer s0 H0 E).A (dZ CX P w K mg base N qual scope f cd A outer s0 H0 E).env (dZ CX P w K mg base N qual scope f cd A outer s0 H0 E).xe:=λe s' h=>
 wpAny_leaving_again (SameStack.refl _) h
theorem Dn{pins:List (Addr×Obj)}{σ:St}{H:Hp}{s:Shared}{CX:Ck}(I:Inv (dZ CX P w K mg base N qual scope f cd A outer s0 H0 E) pins σ H s) :
  s0.heap.get? s0.heap.objs.size=none∧H s0.heap.objs.size=none∧s0.heap.objs.size∉frs outer∧Un (frs outer) [] H0 H s0.heap s.heap∧kZ P w H s.heap∧s.os=s0.os∧AllBare s.gens∧s.heap.FunFrames base (envOfC qual scope s0.heap.objs.size f cd::outer):=by
 refine⟨Heap.get?_none_of_le (B9 _),I.free,λz=>?_,I.base,I.hok,I.os,I.bare,I.stack⟩
 obtain⟨_,o,ho,_⟩:=I.ok.nM.mem z
 have:=Heap.lt_size ho
 exact absurd this (G1 _)
theorem Xc:Passes (uC P w) (dZ (uC P w) P w K mg base N qual scope f cd A outer s0 H0 E) E:=λpins σ H s ev s' I c=>by
 obtain⟨e,cls,H',s1,rfl,I1,fl,q⟩:=I.ghost c
 obtain⟨a1,a2,a3,a4,a5,a6,a7,a8⟩:=Dn I1
 obtain⟨a0,xG⟩:=fl.xG
 refine wpAny_leaves_onW I1.ok.frames rfl xG λh' uw up=>?_
 exact Jf rfl a8 a1 a2 a3 a4 a5 a6 a7 uw (fl.up.trans up) fl.os fl.bare rfl q
end
end L2


namespace L2
open PySem PySem.Spec PySem.Calls PyProof.Rows PyProof.V
abbrev GZ:=EN→Option Nat
def DZ(K:aA)(κ:Nat→Addr)(E:XK)(t:TS)(z:GZ):Prop:=∀(B:Hp)(D:Ends)(σ:St)(H:Hp)(env:EN)(i:Nat),Rel K B env σ H→z env=some i→(∀H',aH B H'→E (.ref (κ i)) none H')→t D σ H
structure YZ(K:aA)(κ:Nat→Addr)(X:Cx)(E:XK)(st:Stmt)(t:TS)(z:GZ):Prop where
 ps:PS X st t
 ev:DZ K κ E t z
structure Nf(K:aA)(κ:Nat→Addr)(X:Cx)(E:XK)(st:List Stmt)(t:TS)(z:GZ):Prop where
 ps:xR X st t
 ev:DZ K κ E t z
def Zv(K:aA)(κ:Nat→Addr)(n:Nat)(r:List D→Option Nat):Sp:=λvs H _ E=>∃ds i,ds.length=n∧bI K H ds vs∧r ds=some i∧∀H',aH H H'→E (.ref (κ i)) none H'
structure Ls(P:Program)(w:World)(K:aA)(mg:Str→Option Value)(base:Heap)(x:Str)(k:Nat)(n:Nat)(sp:Sp):Prop where
 ex:∃f fd ps,ps.length=n∧pC P w K mg base (uC P w) k f fd ps sp∧Binds K fd ps []∧J7 K (.ref f)=true∧mg x=some (.ref f)
structure lr(P:Program)(w:World)(K:aA)(mg:Str→Option Value)(base:Heap)(C:Addr)(m:Str)(k n:Nat)(df:Bool)(sp:Sp):Prop where
 ex:∃f fd ps,ps.length=n∧pC P w K mg base (uC P w) k f fd ps sp∧Binds K fd ps []∧(df=true→Binds K fd ps [Value.none])∧Meth K C m f
theorem Rel.sub{K:aA}{B H:Hp}{env:EN}{σ:St}(r:Rel K B env σ H):aH B H:=let ⟨_,_,b⟩:=r;b.trans (dG _ _)
section
variable{K:aA}{κ:Nat→Addr}{X:Cx}{E:XK}{st:Stmt}{sts rest:List Stmt}{t u:TS}{z z1 z2:GZ}{g:GS}{c e o:Expr}{es:List Expr}{te ta:TE}{tA:TA}{tc:TT}{fc:FT}{f:FE}{fs:FA}{pos apos:Pos}{m:Str}
def Xd(t u:TS):TS:=λD σ H=>t D σ H∨u D σ H
theorem Qh(h1:xR X sts t)(h2:xR X sts u):xR X sts (Xd t u):=λpins s σ H D I h=>h.elim (h1 pins s σ H D I) (h2 pins s σ H D I)
def Uy:GZ:=λ_=>none
theorem Gi:Nf K κ X E sts uI Uy:=⟨xU,λB D σ H env i r q k=>by cases q⟩
def Uz(z1 z2:GZ):GZ:=λenv=>match z1 env with
 | some i=>some i
 | none=>z2 env
theorem Qi(h1:Nf K κ X E sts t z1)(h2:Nf K κ X E sts u z2):Nf K κ X E sts (Xd t u) (Uz z1 z2):=⟨Qh h1.ps h2.ps,λB D σ H env i r q k=>by
 unfold Uz at q
 split at q
 ·rename_i j q1
  cases q
  exact .inl (h1.ev B D σ H env i r q1 k)
 ·exact .inr (h2.ev B D σ H env i r q k)⟩
theorem dY(h:YZ K κ X E st t z):Nf K κ X E (st::rest) (Ff t uI) z:=⟨pA h.ps xU,λB D σ H env i r q k=>h.ev B _ σ H env i r q k⟩
def jF(g:GS)(z:GZ):GZ:=λenv=>match g env with
 | .next env'=>z env'
 | _=>none
theorem lU(h:YS K X st t g)(h2:Nf K κ X E rest u z):Nf K κ X E (st::rest) (Ff t u) (jF g z):=⟨pA h.ps h2.ps,λB D σ H env i r q k=>by
 unfold jF at q
 split at q
 ·rename_i env' q1
  refine h.ev B {D with nx:=u D} σ H env r ?_
  rw[q1]
  exact λσ' H' r'=>h2.ev B D σ' H' env' i r' q k
 ·cases q⟩
def Va(f:FT)(z1 z2:GZ):GZ:=λenv=>match f (rE env)with
 | some true=>z1 env
 | some false=>z2 env
 | none=>none
theorem Qj{s1 s2:List Stmt}(hc:XT K X c tc fc)(h1:Nf K κ X E s1 t z1)(h2:Nf K κ X E s2 u z2):YZ K κ X E (.If c s1 s2 pos) (DK tc t u) (Va fc z1 z2):=⟨Zb hc.pt h1.ps h2.ps,λB D σ H env i r q k=>by
 unfold Va at q
 split at q
 ·rename_i q1
  refine hc.ev σ H (rE env) true _ r.r q1 λH' s=>?_
  rw[if_pos rfl]
  exact h1.ev B D σ H' env i (r.same s) q k
 ·rename_i q1
  refine hc.ev σ H (rE env) false _ r.r q1 λH' s=>?_
  rw[if_neg (by decide)]
  exact h2.ev B D σ H' env i (r.same s) q k
 ·cases q⟩
def Ao(r:List D→Option Nat)(fs:FA):DE→Option Nat:=λe=>(fs e).bind r
def lu(X:Cx)(pins:List (Addr×Obj))(σ:St)(e:Expr)(t:TE):Prop:=∀(s:Shared)(H:Hp)(Q:VK),Inv X pins σ H s→t σ H Q→wpAny (model X.prog X.w) X.A (eval e X.env) (EP X pins σ Q) X.xe s
def lz(X:Cx)(pins:List (Addr×Obj))(σ:St)(st:Stmt)(t:TS):Prop:=∀(s:Shared)(H:Hp)(D:Ends),Inv X pins σ H s→t D σ H→wpAny (model X.prog X.w) X.A (exec st X.env) (SP X pins D) X.xe s
def Jg(CX:Ck)(X:Cx)(pins:List (Addr×Obj))(σ:St)(E:XK):Prop:=∀(H:Hp)(s:Shared)(e:Value)(s':Shared),Inv X pins σ H s→CX X.stack H s E e s'→X.xe e s'
theorem Passes.one{CX:Ck}(h:Passes CX X E)(pins:List (Addr×Obj))(σ:St):Jg CX X pins σ E:=λH s e s' I c=>h pins σ H s e s' I c
theorem Xe{CX:Ck}{k:Nat}{f:Addr}{fd:FuncData}{ps:List Str}{sp:Sp}{Ky:List V}{ds:List Value}{pins:List (Addr×Obj)}{σ:St}{H:Hp}{s:Shared}{Q:VK}{us:List Value}{vs:List V}(F:pC X.prog X.w X.K X.mg X.base CX k f fd ps sp)(hr:fK k X.A)(hb:Binds X.K fd ps ds)(hd:Vals Ky ds)(hx:Jg CX X pins σ E)
  (I:Inv X pins σ H s) (r:Vals vs us) (h:sp (vs++Ky) H Q E):wpAny (model X.prog X.w) X.A (call (.ref f) us) (EP X pins σ Q) X.xe s:=by
 have r2:Vals (vs++Ky) (us++ds):=r.append hd
 have hl:(us++ds).length=ps.length:=by rw[←r2.length];exact F.len _ _ _ _ h
 refine wpAny_call (codeAny_mono (F.run X.A X.stack s H ⟨us,[]⟩ (us++ds) (vs++Ky) Q E hr I.env0 (hb s us I.Fe hl) r2 h) λr s' hq=>?_)
 cases r with
 | error e=>exact hx H s e s' I hq
 | ok fl=>
  cases fl with
  | ret u=>exact I.after hq
  | next=>exact False.elim hq
  | brk=>exact False.elim hq
  | cont=>exact False.elim hq
structure ZX(K:aA)(κ:Nat→Addr)(X:Cx)(E:XK)(e:Expr)(t:TE)(z:DE→Option Nat):Prop where
 pe:∀(pins:List (Addr×Obj))(σ:St),Jg (uC X.prog X.w) X pins σ E→lu X pins σ e t
 ev:∀(σ:St)(H:Hp)(de:DE)(i:Nat)(Q:VK),mY K H de σ→z de=some i→(∀H',aH H H'→E (.ref (κ i)) none H')→t σ H Q
theorem Jh{x:Str}{k n:Nat}{r:List D→Option Nat}{p:Pos}(C:Ls X.prog X.w X.K X.mg X.base x k n (Zv K κ n r))(hl:∀ds i,r ds=some i→ds.length=n)(hr:fK k X.A)(hg:Gl X x)(ha:XA K X (e::es) tA fs)(hdb:(x==("__debug__" : Str))=false:=by decide)
  (he:starEach (e::es) X.env=(false,eval e X.env)::starEach es X.env:=by rfl) (hpl:(backTo pos (starEach es X.env)).any (·.1)=false:=by rfl):ZX K κ X E (.Call (.Name x p) (e::es) [] pos) (uL (Zv K κ n r) [] E tA) (Ao r fs):=by
 have hk:=ha.hk
 subst hk
 obtain⟨f,fd,ps,_,F,hb,hk,hm⟩:=C.ex
 refine⟨λpins σ hx s H Q I h=>?_,λσ H de i Q re q k=>?_⟩
 ·refine wpAny_Call_Name_kw (mV I hg hm ?_ hdb)
  refine U1 (h₀:=X.base) I.ok.mod.RT hk (dF (ha.pa pos pins s σ H _ I h) λus s1 ⟨vs,H1,I1,r,q⟩=>⟨I1.Fe,?_⟩) he hpl
  exact Xe F hr hb .nil hx I1 r q
 obtain⟨ds,q1,q2⟩:=aX q
 refine call_of (ha.ev σ H H de ds _ (Zn.self _ H) re q1 λvs H1 Z1 s1 t1 z1 rs=>?_)
 exact⟨ds,i,hl ds i q2,z1.sm.Lk _ _ rs,q2,λH' s'=>k H' (s1.trans s')⟩
def zX(z:DE→Option Nat):GZ:=λenv=>z (rE env)
theorem Xf{z:DE→Option Nat}(h:ZX K κ X E e te z):DZ K κ E (kI te) (zX z):=λB D σ H env i r q k=>h.ev σ H (rE env) i _ r.r q λH' s=>k H' (r.sub.trans s)
theorem Dp{pins:List (Addr×Obj)}{σ:St}(he:lu X pins σ e te)(hs:swapsWith e none pos.line X.env=pure false):lz X pins σ (.Expr e pos) (kI te):=by
 intro s H D I h
 exact wpAny_Expr_any (dF (he s H _ I h) λv s1 ⟨x,H1,I1,r1,q1⟩=>⟨σ,H1,I1,q1⟩) I.quiet hs
theorem Xg{z:DE→Option Nat}(h:ZX K κ X E e te z)(hx:Passes (uC X.prog X.w) X E)(hs:swapsWith e none pos.line X.env=pure false:=by rfl):YZ K κ X E (.Expr e pos) (kI te) (zX z):=⟨λpins s σ H D I q=>Dp (h.pe pins σ (hx.one pins σ)) hs s H D I q,Xf h⟩
end
def JQ(n m:Nat)(z:GZ):List D→Option Nat:=λds=>if ds.length=m then z (ds.map SD.fro++D9 (n-m) SD.no)else none
theorem Ji{n m:Nat}{z:GZ}(ds:List D)(i:Nat)(h:JQ n m z ds=some i):ds.length=m:=by
 unfold JQ at h
 split at h
 ·assumption
 ·cases h
section
variable{P:Program}{w:World}{K:aA}{mg:Str→Option Value}{base:Heap}{κ:Nat→Addr}
theorem WW{X:Cx}{N ps:List Str}{z:GZ}{body:List Stmt}{t:TS}{vs:List V}{H:Hp}{Q:VK}{E:XK}(yb:Nf K κ X E body t z)(h:Zv K κ ps.length (JQ N.length ps.length z) vs H Q E):t {nx:=λ_ H'=>Q .non H',rt:=Q} (start N vs) H:=by
 obtain⟨ds,i,h1,h2,h3,kk⟩:=h
 unfold JQ at h3
 rw[if_pos h1]at h3
 refine yb.ev H _ _ H _ i ?_ h3 kk
 have hl:vs.length=ps.length:=by rw[h2.length];exact h1
 have:=nA (k:=N.length-ps.length) h2
 unfold start
 rw[hl]
 exact this
end
def Dq(i:Nat)(g:GS)(z:GZ):List D→EN→Option Nat
 | [],_=>none
 | x::xs,env=>if i<env.length then(match z (env.set i (.fro x))with
   | some j=>some j
   | none=>(match g (env.set i (.fro x))with
    | .next env'=>Dq i g z xs env'
    | .cont env'=>Dq i g z xs env'
    | _=>none))else none
def Qk(js:List Nat)(i:Nat)(fi:FA)(g:GS)(z:GZ):GZ:=λenv=>match fi (zE (gW js env))with
 | some xs=>Dq i g z xs (gW js env)
 | none=>none
section
variable{K:aA}{κ:Nat→Addr}{X:Cx}{E:XK}{z:GZ}{g:GS}{pos:Pos}
theorem JR{js:List Nat}{i:Nat}{wi:TI}{fi:FA}{tb tz:TS}(hi:dz K wi fi)(h:DS K tb g)(hz:DZ K κ E tz z):DZ K κ E (Kr wi (cO i) (Xd tb tz)) (Qk js i fi g z):=λB D σ H env ii r p kk=>by
 unfold Qk at p
 have r':Rel K B (gW js env) σ H:=r.gW
 generalize gW js env=gF at r' p
 split at p
 ·rename_i xs q
  obtain⟨A,a,b⟩:=r'
  refine hi σ H (out H A) (zE gF) xs _ (Aj a) (Zr a) q λJ H1 Z1 P vs s t zz hJ hP rvs=>?_
  have hl:=rvs.length
  have g0:aH Z1 (out H1 A):=λx o e=>aZ.mpr ⟨λqa=>(by rw[(zz.no x qa).1]at e;cases e),zz.sm x o e⟩
  have JG:Rel K Z1 gF σ H1:=⟨A,a.mono λe D y _ qq=>qq.same s (fD s λx q=>.inl q),g0⟩
  have bz:aH B Z1:=b.trans t
  refine Il hJ (λk σ2 H2=>∃nQ,Rel K Z1 nQ σ2 H2∧Dq i g z (xs.drop k) nQ=some ii) ⟨gF,JG,by simpa using p⟩ (λk σ2 H2 _ ⟨nQ,⟨A2,a2,b2⟩,_⟩=>hP H2 (b2.trans (dG H2 A2))) ?_ ?_
  ·rintro k x σ2 H2 hx ⟨nQ,r2,p2⟩
   have hk:k<xs.length:=by
    have:=B8.mp hx
    obtain⟨h1,_⟩:=this
    omega
   rw[L6 hk]at p2
   unfold Dq at p2
   obtain⟨x',hx',rx⟩:=rvs.get (B0 hk)
   rw[hx]at hx'
   cases hx'
   split at p2
   ·rename_i hlen
    obtain⟨A2,a2,b2⟩:=r2
    have r3:Rel K Z1 (nQ.set i (.fro xs[k])) (σ2.set i (some x)) H2:=Ja a2 b2 hlen (aH.refl _) (aH.refl _) (Aj a2) (b2.rv _ _ rx)
    split at p2
    ·rename_i j q2
     cases p2
     exact .inr (hz Z1 _ _ H2 _ ii r3 q2 λH' s'=>kk H' (bz.trans s'))
    ·refine .inl (h Z1 _ _ H2 _ r3 ?_)
     split at p2
     ·rename_i env' q2;rw[q2];exact λσ' H' r'=>⟨env',r',p2⟩
     ·rename_i env' q2;rw[q2];exact λσ' H' r'=>⟨env',r',p2⟩
     ·cases p2
   ·cases p2
  ·rintro σ2 H2 ⟨nQ,r2,p2⟩
   rw[hl,Q6]at p2
   unfold Dq at p2
   cases p2
 ·cases p
theorem JS{tg iter:Expr}{body:List Stmt}{wi:TI}{fi:FA}{i:Nat}{tb tz:TS}(js:List Nat)(hp:PassesOwn (model X.prog X.w) X.A X.env X.xe)(hc:X.calm=true)(hi:XI K X tg iter wi fi)(hg:PG X tg (cO i))(hb:YB K X body tb g)(hz:Nf K κ X E body tz z)
  (hs:∀x,foldedSetIterable iter X.env x=pure x:=by intro _;rfl):YZ K κ X E (.For tg iter body [] pos) (Kr wi (cO i) (Xd tb tz)) (Qk js i fi g z):=⟨Nr hp hc hi.pi hg (Qh hb.ps hz.ps) hs,JR hi.ev hb.ev hz.ev⟩
end
end L2


namespace L2
open PySem PySem.Spec PySem.Calls PyProof.Rows PyProof.V
abbrev jG:List Value:=[.type "ValueError", .type "Exception", .type "BaseException", .type "object"]
structure jQ(K:aA)(mg:Str→Option Value)(x:Str)(C:Addr):Prop where
 mg:mg x=some (.ref C)
 ok:G3 K C jG "ValueError.__new__" = true
theorem jQ.own{K:aA}{mg:Str→Option Value}{x:Str}{C:Addr}{h₀:Heap}(F:jQ K mg x C)(X:K.In h₀):OwnCls x C jG "ValueError.__new__" mg h₀:=by
 refine⟨F.mg,?_⟩
 have q:=F.ok
 unfold G3 at q
 split at q
 ·rename_i dd cd sl ho
  split at q
  ·rename_i C' bm k0 k1 k2 k3 n k5 hm hs
   simp only[J6,beq_iff_eq,Bool.not_eq_true']at q
   obtain⟨⟨⟨⟨⟨rfl,rfl⟩,hdel⟩,ht⟩,hok⟩,hni⟩:=q
   obtain⟨nm,bs,mro,ns,qn,hd,sn,sub,ab,col,del⟩:=cd
   dsimp only at hm hdel hok hni
   subst hm hdel
   have hsl:sl=#[k0,k1,k2,k3,some (.builtin "ValueError.__new__"),k5]:=by
    obtain⟨l⟩:=sl
    simp only at hs
    rw[hs]
   subst hsl
   exact⟨bm,ns,nm,qn,bs,hd,sn,sub,ab,col,dd,k0,k1,k2,k3,k5,_,X _ _ ho,.of_isNs (PySem.W.isNs_of_in X hok),PySem.W.nsMap_none_of_in X hok hni,PySem.W.tail_of_in X ht⟩
  ·cases q
 ·cases q
section
variable{P:Program}{w:World}{K:aA}{mg:Str→Option Value}{base:Heap}{N:List Str}{qual:Str}{scope:Scope}{f:Addr}{cd:Value}{A:Around}{outer:List Env}{s0:Shared}{H0:Hp}{E:XK}{κ:Nat→Addr}
 {x:Str} {C:Addr} {np cpos pos:Pos} {e:Expr} {es:List Expr} {tA:TA}
def mj(E:XK)(C:Addr)(t:TA):TS:=λ_ σ H=>t σ H λvs H1=>vs.length≤sizeLine∧E (.ref C) none H1
theorem Ql(F:jQ K mg x C)(hg:Gl (dZ (uC P w) P w K mg base N qual scope f cd A outer s0 H0 E) x)(ha:PA (dZ (uC P w) P w K mg base N qual scope f cd A outer s0 H0 E) (e::es) tA)(hd:(x==("__debug__" : Str))=false:=by decide)
  (he:starEach (e::es) (dZ (uC P w) P w K mg base N qual scope f cd A outer s0 H0 E).env=(false,eval e (dZ (uC P w) P w K mg base N qual scope f cd A outer s0 H0 E).env)::starEach es (dZ (uC P w) P w K mg base N qual scope f cd A outer s0 H0 E).env:=by rfl)
  (hpl:(backTo cpos (starEach es (dZ (uC P w) P w K mg base N qual scope f cd A outer s0 H0 E).env)).any (·.1)=false:=by rfl) :
  PS (dZ (uC P w) P w K mg base N qual scope f cd A outer s0 H0 E) (.Raise (some (.Call (.Name x np) (e::es) [] cpos)) none pos) (mj E C tA):=by
 intro pins s σ H D I h
 obtain⟨tl,Nn,nm,q,bs,hdct,sn,sub,ab,col,dd,k0,k1,k2,k3,k5,mN,hC,hN,hni,T⟩:=(F.own I.mod.RT).obj
 have hA:=ha cpos pins s σ H _ I h
 refine wpAny_Raise_call_subU (C:=C) (nm:=nm) (q:=q) (N:=Nn) (bs:=bs) (bm:=tl) (hdct:=hdct) (sn:=sn) (sub:=sub) (ab:=ab) (col:=col) (dd:=dd) (k0:=k0) (k1:=k1) (k2:=k2) (k3:=k3) (k5:=k5)
  N4 rfl N4 (mN:=mN) (T.hasType N4.hasBase) (I.ok.hd rfl) (by rw[he];show (false||(backTo cpos (starEach es _)).any (·.1))=false;rw[hpl];rfl) hni (mV I hg F.mg ⟨rfl,?_⟩ hd)
 rw[he]at hA ⊢
 refine Calls.evalArgs_plain (dF hA λus s1 ⟨vs,H1,I1,r,hl,q⟩=>⟨rfl,by show us.length≤sizeLine;rw[←r.length];exact hl,I1.bk _ _ hC,hN.keeps I1.bk,T.keeps I1.bk,λh' ee hx=>?_⟩)
 obtain⟨a1,a2,a3,a4,a5,a6,a7,a8⟩:=Dn I1
 refine wpAny_leaves_madeW (base:=vL s1.heap (envOfC qual scope s0.heap.objs.size f cd::outer)) (h:=s1.heap) I1.ok.frames rfl (λb o q=>(An q).1) (vM a8 λb hb=>rH hb) hx λh'' t fl _ _ up=>?_
 exact Jf rfl a8 a1 a2 a3 a4 a5 a6 a7 fl ((Heap.UpToSlots.of_keeps hx.keeps).trans up) rfl I1.bare rfl q
def Qm(i:Nat)(fs:FA):GZ:=λenv=>(fs (rE env)).bind λds=>if ds.length≤100 then some i else none
theorem vN{i:Nat}{fs:FA}(F:jQ K mg x (κ i))(hg:Gl (dZ (uC P w) P w K mg base N qual scope f cd A outer s0 H0 E) x)(ha:XA K (dZ (uC P w) P w K mg base N qual scope f cd A outer s0 H0 E) (e::es) tA fs)(hd:(x==("__debug__" : Str))=false:=by decide)
  (he:starEach (e::es) (dZ (uC P w) P w K mg base N qual scope f cd A outer s0 H0 E).env=(false,eval e (dZ (uC P w) P w K mg base N qual scope f cd A outer s0 H0 E).env)::starEach es (dZ (uC P w) P w K mg base N qual scope f cd A outer s0 H0 E).env:=by rfl)
  (hpl:(backTo cpos (starEach es (dZ (uC P w) P w K mg base N qual scope f cd A outer s0 H0 E).env)).any (·.1)=false:=by rfl) :
  YZ K κ (dZ (uC P w) P w K mg base N qual scope f cd A outer s0 H0 E) E (.Raise (some (.Call (.Name x np) (e::es) [] cpos)) none pos) (mj E (κ i) tA) (Qm i fs):=⟨Ql F hg ha.pa hd he hpl,λB D σ H env j r q k=>by
 obtain⟨ds,q1,q2⟩:=aX q
 split at q2
 ·rename_i hl
  cases q2
  exact ha.ev σ H H (rE env) ds _ (Zn.self _ H) r.r q1 λvs H1 Z1 s1 t1 z1 rs=>⟨vB (by rw[rs.length];omega),k H1 (r.sub.trans s1)⟩
 ·cases q2⟩
end
abbrev Cx.tr(X:Cx)(pn:List (Addr×Obj))(Ex:Value→Shared→Prop):Cx:={X with pn:=pn,xe:=Ex}
abbrev Cx.hand(X:Cx)(pn:List (Addr×Obj))(e:Addr):Cx:={X with pn:=pn,A:=X.A.mark (some (.ref e)),calm:=false,xe:=λ_ _=>False}
section
variable{X:Cx}{pins uF pn:List (Addr×Obj)}{σ:St}{H:Hp}{s s':Shared}{Ex:Value→Shared→Prop}{e:Addr}{D:Ends}{fl:Flow}
theorem Inv.tr(I:Inv X pins σ H s)(Ex:Value→Shared→Prop):Inv (X.tr (X.pn++pins) Ex) [] σ H s:=
 ⟨⟨I.ok.mod,I.ok.kind,I.ok.glob,I.ok.blt,I.ok.above,I.ok.inj,I.ok.has,I.ok.cab,I.ok.hd,I.ok.frames,I.ok.Yx,I.ok.RD,I.ok.bs,I.ok.Mx,I.ok.zF,I.ok.Cg,I.ok.nM,I.ok.Uu⟩,I.os,I.bare,I.base,I.loc,I.cell,I.free,I.gC,λp hp=>I.pin p (by simpa using hp),I.hok,I.len⟩
theorem Inv.pZ(I:Inv (X.tr (X.pn++pins) Ex) uF σ H s):Inv X pins σ H s:=
 ⟨⟨I.ok.mod,I.ok.kind,I.ok.glob,I.ok.blt,I.ok.above,I.ok.inj,I.ok.has,I.ok.cab,I.ok.hd,I.ok.frames,I.ok.Yx,I.ok.RD,I.ok.bs,I.ok.Mx,I.ok.zF,I.ok.Cg,I.ok.nM,I.ok.Uu⟩,I.os,I.bare,I.base,I.loc,I.cell,I.free,I.gC,λp hp=>I.pin p (F6 _ hp),I.hok,I.len⟩
theorem Inv.hand(I:Inv X pins σ H s)(e:Addr):Inv (X.hand (X.pn++pins) e) [] σ H s:=
 ⟨⟨I.ok.mod,I.ok.kind,I.ok.glob,I.ok.blt,I.ok.above,I.ok.inj,I.ok.has,I.ok.cab,λz=>(by cases z),I.ok.frames,I.ok.Yx,I.ok.RD,I.ok.bs,I.ok.Mx,I.ok.zF,I.ok.Cg,I.ok.nM,I.ok.Uu⟩,I.os,I.bare,I.base,I.loc,I.cell,I.free,I.gC,λp hp=>I.pin p (by simpa using hp),I.hok,I.len⟩
theorem Inv.oM(hd:X.calm=true→X.A.handled=none)(I:Inv (X.hand (X.pn++pins) e) uF σ H s):Inv X pins σ H s:=
 ⟨⟨I.ok.mod,I.ok.kind,I.ok.glob,I.ok.blt,I.ok.above,I.ok.inj,I.ok.has,I.ok.cab,hd,I.ok.frames,I.ok.Yx,I.ok.RD,I.ok.bs,I.ok.Mx,I.ok.zF,I.ok.Cg,I.ok.nM,I.ok.Uu⟩,I.os,I.bare,I.base,I.loc,I.cell,I.free,I.gC,λp hp=>I.pin p (F6 _ hp),I.hok,I.len⟩
theorem SP.pZ(h:SP (X.tr (X.pn++pins) Ex) uF D fl s'):SP X pins D fl s':=by
 cases fl with
 | next=>obtain⟨σ',H',I,q⟩:=h;exact⟨σ',H',I.pZ,q⟩
 | brk=>obtain⟨σ',H',I,q⟩:=h;exact⟨σ',H',I.pZ,q⟩
 | cont=>obtain⟨σ',H',I,q⟩:=h;exact⟨σ',H',I.pZ,q⟩
 | ret u=>obtain⟨v,σ',H',I,r,q⟩:=h;exact⟨v,σ',H',I.pZ,r,q⟩
theorem SP.oM(hd:X.calm=true→X.A.handled=none)(h:SP (X.hand (X.pn++pins) e) uF D fl s'):SP X pins D fl s':=by
 cases fl with
 | next=>obtain⟨σ',H',I,q⟩:=h;exact⟨σ',H',I.oM hd,q⟩
 | brk=>obtain⟨σ',H',I,q⟩:=h;exact⟨σ',H',I.oM hd,q⟩
 | cont=>obtain⟨σ',H',I,q⟩:=h;exact⟨σ',H',I.oM hd,q⟩
 | ret u=>obtain⟨v,σ',H',I,r,q⟩:=h;exact⟨v,σ',H',I.oM hd,r,q⟩
end
abbrev Aq:=Nat→Nat→Bool
def nU(sub:Aq)(n nj:Nat):List (Nat×GS)→Nat→GS
 | [],_=>λ_=>.bad
 | (j,g)::r,i=>if i<n∧j<nj then(if sub i j=true then g else nU sub n nj r i)else λ_=>.bad
def xO(z:GZ)(g:GS)(sub:Aq)(n nj:Nat)(hs:Nat→List (Nat×GS)):GS:=λenv=>match z env with
 | none=>g env
 | some i=>nU sub n nj (hs i) i env
section
variable{K:aA}{κ:Nat→Addr}{X:Cx}{sub:Aq}{n nj:Nat}{z:GZ}{g:GS}{st:Stmt}{pos:Pos}
theorem Rel.no{B H:Hp}{σ:St}{env:EN}{k:Nat}(h:Rel K B env σ H)(hk:k<env.length)(y:Option V):Rel K B (env.set k .no) (σ.set k y) H:=by
 obtain⟨A,a,b⟩:=h
 obtain⟨y0,A1,C,h1,h2,h3,h4,kk⟩:=a.focus (B0 hk)
 have g:aH (out H A) (out H (dH nil C)):=fD (aH.refl _) λx q=>.inl ((h3 x).mpr (.inr (q.elim False.elim id)))
 exact⟨dH nil C,kk (fP K H (out H (dH nil C))) (λe D z _ q=>q.same (aH.refl _) g) .no y nil (λx q=>q.elim) (λ_ z=>z),b.trans g⟩
def RL(k:Nat)(g:GS):GS:=λenv=>if k<env.length then(match g (env.set k .no)with
 | .next env'=>if k<env'.length then .next (env'.set k .no)else .bad
 | _=>.bad)else .bad
structure YE(K:aA)(X:Cx)(k:Nat)(e:Addr)(sts:List Stmt)(t:TS)(g:GS):Prop where
 ps:xR X sts t
 ev:∀(B:Hp)(D:Ends)(σ:St)(H:Hp)(env:EN),Rel K B env σ H→σ[k]?=some (some (.ref e))→Ak K B D (g env)→t D σ H
theorem Lw{M:Model}{A:Around}{E:Value→Shared→Prop}{pins:List (Addr×Obj)}{σ:St}{H:Hp}{s:Shared}{k:Nat}{nm:Str}{hp:Pos}{Q:Unit→Shared→Prop}(I:Inv X pins σ H s)(hN:X.N.Nodup)(hi:X.N[k]?=some nm)(hl:X.env.scope.names.lookup nm=some .local)
  (h:∀s',Inv X pins (σ.set k none) H s'→Q () s'):wpAny M A (do bindName X.env nm .none;unbindBehindTheSuite X.env nm hp) Q E s:=by
 obtain⟨m,hn,hlk⟩:=id I.loc
 have hcls:(X.env.scope.kind==.class||(X.env.scope.kind==.module&&X.env.locals != X.env.globals))=false:=by rw[I.ok.kind];rfl
 have ZJ:k<σ.length:=by rw[I.len];exact(B8.mp hi).1
 have Nj:=I.Nj
 refine wpAny_nameGoes_keeps hl hn hcls λh' v hn' hs=>?_
 refine h _ ⟨I.ok,I.os,I.bare,⟨λb o e n hb hx=>?_,λb o e n hb hx=>?_,I.base.free,λb o e hx=>?_,I.base.tups,I.base.qR,I.base.tL⟩,⟨_,hn',λj y v' e1 e2 e3=>?_⟩,λy c e=>?_,I.free,I.gC,λp hp=>?_,λb ob e=>?_,by simpa using I.len⟩
 ·exact(hs.2 b (C4 (C3 (Heap.lt_size e) I.ok.above))).trans (I.base.keep b o e n hb hx)
 ·obtain⟨sl,e1⟩:=I.base.slot b o e n hb hx
  exact⟨sl,(hs.2 b (C4 (C3 (Heap.lt_size e) I.ok.above))).trans e1⟩
 ·obtain⟨o',e1⟩:=I.base.there b o e hx
  exact⟨o',(hs.2 b (C4 (C3 (Heap.lt_size e) I.ok.above))).trans e1⟩
 ·by_cases hj:j=k
  ·subst hj
   rw[M6 ZJ]at e2
   cases e2
  ·rw[N2 (Ne.symm hj)]at e2
   obtain⟨u',r',q⟩:=hlk j y v' e1 e2 e3
   refine⟨u',r',?_⟩
   rcases q with ⟨kk,e⟩ | ⟨kk,c,e,z⟩
   ·refine .inl ⟨kk,?_⟩
    have:y≠nm:=λe=>hj (uG hN e1 (e▸hi))
    simp[this,e]
   ·exact .inr ⟨kk,c,e,z.sameBut hs (Nj y c e)⟩
 ·obtain⟨w',z⟩:=I.cell y c e
  exact⟨w',z.sameBut hs (Nj y c e)⟩
 ·obtain⟨e,n,ne,nf,d⟩:=I.pin p hp
  exact⟨(hs.2 p.1 ne).trans e,n,ne,nf,d⟩
 ·refine(I.hok b ob e).stay (λc w' hc q=>(hs.2 c ?_).trans q) (λ_ q=>q) λ_ _ q=>q
  rintro rfl
  have hfree:=I.free
  rcases hc with hc | hc
  ·rw[←hc,hfree]at e;cases e
  ·rw[hfree]at hc;cases hc
theorem WX{P:Program}{w:World}{H:Hp}{h:Heap}{a:Addr}{o:HO}(x:cX P w H h a o):∃u,h.get? a=some u:=by
 cases o with
 | lst xs=>obtain⟨_,_,_,_,e⟩:=x;exact⟨_,e⟩
 | tup xs=>obtain⟨_,_,_,p⟩:=x;obtain⟨o,h1,_⟩:=p;exact⟨_,h1⟩
 | dK kvs=>obtain⟨_,_,_,_,o,_,_,e,_⟩:=x;exact⟨_,e⟩
 | dT kvs=>obtain⟨_,_,_,_,o,_,_,e,_⟩:=x;exact⟨_,e⟩
 | set S n=>obtain⟨o,_,_,_,e,_⟩:=x;exact⟨_,e⟩
 | ins C dx fs=>obtain⟨_,_,_,e,_⟩:=x;exact⟨_,e⟩
 | own y=>exact x
 | xd fs=>obtain⟨_,⟨_,_,_,e,_⟩,_⟩:=x;exact⟨_,e⟩
 | rng lo hi=>obtain⟨_,_,_,e⟩:=x;exact⟨_,e⟩
 | gW ob u=>obtain⟨e,_⟩:=x;exact⟨_,e⟩
 | tbl ps=>exact⟨_,(show h.get? a=some _ from x)⟩
 | met f y=>exact⟨_,(show h.get? a=some _ from x)⟩
 | ext φ=>obtain⟨_,e,_⟩:=x;exact e
theorem Fl.e{P:Program}{w:World}{H:Hp}{l:List Env}{s1 s':Shared}{e:Addr}{cls:Value}(f:Fl l s1 e cls s')(hok:kZ P w H s1.heap):∃oe,s'.heap.get? e=some oe∧oe.cls=cls∧H e=none∧e∉frs l∧∀v,oe.data≠.cell v:=by
 obtain⟨a0,k1,k2,k3,oe,vs,T,oT,ts,he,hc,hd,_⟩:=f.xG
 have hn:e∉frs l:=λz=>by
  obtain⟨o',z1,z2⟩:=pY k3 e z
  rw[he]at z1
  cases z1
  exact z2 vs hd
 refine⟨oe,he,hc.1,?_,hn,λv z=>by rw[hd]at z;cases z⟩
 cases q:H e with
 | none=>rfl
 | some u=>
  obtain⟨o,q1⟩:=WX (hok e u q)
  rw[yN k2 hn]at q1
  cases q1
inductive HK(K:aA)(κ:Nat→Addr)(X:Cx)(n i:Nat):List ExceptHandler→List (Nat×GS)→Prop
 | nil:HK K κ X n i [] []
 | cons {x:Str} {np hp:Pos} {b₀:Stmt} {suite:List Stmt} {rest:List ExceptHandler} {j:Nat} {gh:GS} {r:List (Nat×GS)} (hm:X.mg x=some (.ref (κ j))) (hg:Gl X x) (hd:(x==("__debug__" : Str))=false)
   (hs:∀(pn:List (Addr×Obj))(e:Addr),∃t,YB K (X.hand pn e) (b₀::suite) t gh) (hr:HK K κ X n i rest r):HK K κ X n i (.ExceptHandler (some (.Name x np)) none (b₀::suite) hp::rest) ((j,gh)::r)
 | as {x nm:Str} {np hp:Pos} {b₀:Stmt} {suite:List Stmt} {rest:List ExceptHandler} {j k:Nat} {gh:GS} {r:List (Nat×GS)} (hm:X.mg x=some (.ref (κ j))) (hg:Gl X x) (hd:(x==("__debug__" : Str))=false) (hN:X.N.Nodup) (hk:X.N[k]?=some nm) (hl:X.env.scope.names.lookup nm=some .local)
   (hs:∀(pn:List (Addr×Obj))(e:Addr)(oe:Obj),i<n→oe.cls=.ref (κ i)→(e,oe)∈pn→∃t,YE K (X.hand pn e) k e (b₀::suite) t gh) (hr:HK K κ X n i rest r):HK K κ X n i (.ExceptHandler (some (.Name x np)) (some nm) (b₀::suite) hp::rest) ((j,RL k gh)::r)
theorem Fl.ty{M:Model}{l:List Env}{s1 s':Shared}{e:Addr}{cls:Value}(f:Fl l s1 e cls s'):I0 M s'.heap (typeOf (.ref e)) cls:=by
 obtain⟨a0,x⟩:=f.xG
 obtain⟨ob,h1,h2⟩:=x.there
 subst h2
 exact(Q7 h1).andThen .now
theorem Lx(XM:∀i j,i<n→j<nj→A9 K (.ref (κ i)) (.ref (κ j))=some (sub i j))(hk:X.K=K)(hst:X.stack=X.env::X.outer)(hfr:X.env.frame=some X.env.locals){pins:List (Addr×Obj)}{σ:St}{H B:Hp}{s1:Shared}{e:Addr}{i:Nat}{D:Ends}{env:EN}
  (r:Rel K B env σ H) (I:Inv X pins σ H s1) {hs:List ExceptHandler} {gs:List (Nat×GS)} (h:HK K κ X n i hs gs):∀(s':Shared),Fl X.stack s1 e (.ref (κ i)) s'→Ak K B D (nU sub n nj gs i env)→wpAny (model X.prog X.w) X.A (handleBy (.ref e) X.env hs) (SP X pins D) X.xe s':=by
 subst hk
 induction h with
 | nil=>intro s' f p;unfold nU at p;exact p.elim
 | @cons x np hp b₀ suite rest j gh rr hm hg hd hs hr ih=>
  intro s' f p
  unfold nU at p
  split at p
  ·rename_i hij
   have I':=I.landed f
   refine wpAny_handleBy_cons (codeAny_handlers_test ?_) (by intro q;cases q)
   have J:=I'.hand e
   refine mV (X:=X.hand (X.pn++pins) e) (u:=.ref (κ j)) J hg hm ?_ hd
   have xm:=XM i j hij.1 hij.2
   cases hb:sub i j with
   | true=>
    rw[hb]at xm
    rw[hb,if_pos rfl]at p
    refine(P1 (M:=model X.prog X.w) I'.Fe f.ty xm).here ?_
    show codeAny _ _ _ _ _
    refine codeAny_handlers_suite ?_
    obtain⟨a0,xG⟩:=f.xG
    refine wpAny_setFlight_noneW xG.1 xG.2.2.1 xG.2.2.2.at λh' k1 k2 k3 k4=>?_
    have f':Fl X.stack s1 e (.ref (κ i)) {s' with heap:=h'}:=⟨⟨a0,k1,xG.2.1,k2,k3⟩,f.up.trans λb o hb hn=>⟨o.slots,k4 b o hb hn⟩,f.os,f.bare⟩
    have J2:=(I.landed f').hand e
    obtain⟨t,yb⟩:=hs (X.pn++pins) e
    exact wpAny_mono (yb.ps [] _ σ H D J2 (yb.ev B D σ H env r p)) (λfl s2 q=>q.oM I.ok.hd) λ_ _ z=>z.elim
   | false=>
    rw[hb]at xm
    rw[hb,if_neg C6]at p
    refine(P1 (M:=model X.prog X.w) I'.Fe f.ty xm).here ?_
    exact ih s' f p
  ·exact p.elim
 | @as x nm np hp b₀ suite rest j k gh rr hm hg hd hN hkk hl hs hr ih=>
  intro s' f p
  unfold nU at p
  split at p
  ·rename_i hij
   have I':=I.landed f
   refine wpAny_handleBy_cons (codeAny_handlers_test ?_) (by intro q;cases q)
   have J:=I'.hand e
   refine mV (X:=X.hand (X.pn++pins) e) (u:=.ref (κ j)) J hg hm ?_ hd
   have xm:=XM i j hij.1 hij.2
   cases hb:sub i j with
   | true=>
    rw[hb]at xm
    rw[hb,if_pos rfl]at p
    refine(P1 (M:=model X.prog X.w) I'.Fe f.ty xm).here ?_
    show codeAny _ _ _ _ _
    refine codeAny_handlers_suite_as ?_
    obtain⟨a0,xG⟩:=f.xG
    refine wpAny_setFlight_noneW xG.1 xG.2.2.1 xG.2.2.2.at λh' k1 k2 k3 k4=>?_
    have f':Fl X.stack s1 e (.ref (κ i)) {s' with heap:=h'}:=⟨⟨a0,k1,xG.2.1,k2,k3⟩,f.up.trans λb o hb hn=>⟨o.slots,k4 b o hb hn⟩,f.os,f.bare⟩
    have I2:=I.landed f'
    obtain⟨oe,x1,x2,x3,x4,x5⟩:=f'.e I.hok
    have ef:frs X.stack=X.env.locals::X.fs:=by rw[hst];show W7 _ (X.env::X.outer)=X.env.locals::W7 _ X.outer;rw[J8,hfr]
    rw[ef]at x4
    have I3:Inv X (pins++[(e,oe)]) σ H {s' with heap:=h'}:=I2.tX λp hp=>by
     rcases K3.mp hp with z | z
     ·exact I2.pin p (C8 _ z)
     ·rw[F7.mp z]
      exact⟨x1,x3,λz=>x4 (by have z:e=X.env.locals:=z;rw[z];exact D4),λz=>x4 (C9 _ z),x5⟩
    have J2:=I3.hand e
    obtain⟨t,ux,uy⟩:=hs (X.pn++(pins++[(e,oe)])) e oe hij.1 x2 (C8 _ (C8 _ D4))
    unfold RL at p
    split at p
    case isFalse=>exact p.elim
    rename_i hke
    refine uH (X:=X.hand (X.pn++(pins++[(e,oe)])) e) (v:=.ref e) J2 hN hkk (.inl hl) rfl (λs2 J3=>?_) (.inr hl)
    have uz:k<σ.length:=by rw[I.len];exact(B8.mp hkk).1
    have run:=ux [] s2 (σ.set k (some (.ref e))) H {nx:=λσ' H'=>∃env',gh (env.set k .no)=.next env'∧Rel X.K B env' σ' H',rt:=λ_ _=>False} J3 (uy B _ _ H (env.set k .no) (r.no hke _) (M6 uz) (by
     cases qq:gh (env.set k .no)with
     | next env'=>exact λσ' H' r'=>⟨env',rfl,r'⟩
     | ret d=>rw[qq]at p;exact p.elim
     | brk d=>rw[qq]at p;exact p.elim
     | cont d=>rw[qq]at p;exact p.elim
     | bad=>rw[qq]at p;exact p.elim
     | rete d e=>rw[qq]at p;exact p.elim))
    refine wpAny_mono run (λfl s3 q=>?_) λ_ _ z=>z.elim
    cases fl with
    | next=>
     obtain⟨σ',H',J4,env',q1,r'⟩:=q
     rw[q1]at p
     dsimp only at p
     split at p
     ·rename_i hk'
      have I5:Inv X (pins++[(e,oe)]) σ' H' s3:=J4.oM I.ok.hd
      have I6:Inv X pins σ' H' s3:=I5.tX λp hp=>I5.pin p (C8 _ (F6 _ hp))
      exact Lw I6 hN hkk hl λs4 I7=>⟨_,H',I7,p _ _ (r'.no hk' none)⟩
     ·exact p.elim
    | brk=>obtain⟨_,_,_,z⟩:=q;exact z.elim
    | cont=>obtain⟨_,_,_,z⟩:=q;exact z.elim
    | ret u=>obtain⟨_,_,_,_,_,z⟩:=q;exact z.elim
   | false=>
    rw[hb]at xm
    rw[hb,if_neg C6]at p
    refine(P1 (M:=model X.prog X.w) I'.Fe f.ty xm).here ?_
    exact ih s' f p
  ·exact p.elim
structure ZS(K:aA)(κ:Nat→Addr)(X:Cx)(E:XK)(st:Stmt)(t:TS)(z:GZ):Prop where
 ps:∀(pins:List (Addr×Obj))(σ:St),Jg (uC X.prog X.w) X pins σ E→lz X pins σ st t
 ev:∀(B:Hp)(D:Ends)(σ:St)(H:Hp)(env:EN)(i:Nat),Rel K B env σ H→z env=some i→(∀H',aH H H'→E (.ref (κ i)) none H')→t D σ H
theorem Xh{e:Expr}{te:TE}{E:XK}{zz:DE→Option Nat}(h:ZX K κ X E e te zz)(hs:swapsWith e none pos.line X.env=pure false:=by rfl):ZS K κ X E (.Expr e pos) (kI te) (zX zz):=
 ⟨λpins σ hx=>Dp (h.pe pins σ hx) hs,λB D σ H env i r q k=>h.ev σ H (rE env) i _ r.r q k⟩
def ik(K:aA)(z:GZ)(g:GS)(sub:Aq)(n nj:Nat)(gs:Nat→List (Nat×GS)):TS:=λD σ H=>∃B env,Rel K B env σ H∧Ak K B D (xO z g sub n nj gs env)
theorem JT{h:ExceptHandler}{hs:List ExceptHandler}{gs:Nat→List (Nat×GS)}(XM:∀i j,i<n→j<nj→A9 K (.ref (κ i)) (.ref (κ j))=some (sub i j))(hN:∀pn,∃t,YB K (X.tr pn λ_ _=>False) [st] t g)(hZ:∀pn Ex E,∃t,ZS K κ (X.tr pn Ex) E st t z)(hH:∀i,HK K κ X n i (h::hs) (gs i))
  (hk:X.K=K:=by rfl) (hst:X.stack=X.env::X.outer:=by rfl) (hfr:X.env.frame=some X.env.locals:=by rfl) (WK:X.calm=true:=by rfl):YS K X (.Try [st] (h::hs) [] [] pos) (ik K z g sub n nj gs) (xO z g sub n nj gs):=by
 refine⟨λpins s σ H D I ⟨B,env,r,p⟩=>?_,λB D σ H env r p=>⟨B,env,r,p⟩⟩
 refine wpAny_Try_except ?_
 unfold xO at p
 cases hz:z env with
 | none=>
  rw[hz]at p
  obtain⟨t,yb⟩:=hN (X.pn++pins)
  refine wpAny_mono (yb.ps [] s σ H D (I.tr _) (yb.ev B D σ H env r p)) (λf s1 q=>?_) λ_ _ z=>z.elim
  cases f with
  | next=>exact wpAny_execs_nil q.pZ
  | brk=>exact q.pZ
  | cont=>exact q.pZ
  | ret u=>exact q.pZ
 | some i=>
  rw[hz]at p
  have fr:X.A.frames=some (X.env::X.outer):=by rw[←hst];exact I.ok.frames
  obtain⟨t,zs⟩:=hZ (X.pn++pins) (λev s'=>∃e H' s1,ev=.ref e∧Inv X pins σ H' s1∧Fl X.stack s1 e (.ref (κ i)) s'∧aH H H') (λcls _ H'=>cls=.ref (κ i)∧aH H H')
  have run:=zs.ps [] σ (λH2 s2 ev s' I2 c=>by
   obtain⟨e,cls,H',s1,rfl,I3,fl,rfl,sm⟩:=I2.ghost c
   exact⟨e,H',s1,rfl,I3.pZ,fl,sm⟩) s H D (I.tr _) (zs.ev B D σ H env i r hz λH' s=>⟨rfl,s⟩)
  refine wpAny_execs_cons (wpAny_mono run (λf s1 q=>?_) λev s1 q=>?_)
  ·cases f with
   | next=>exact wpAny_execs_nil (wpAny_execs_nil q.pZ)
   | brk=>exact q.pZ
   | cont=>exact q.pZ
   | ret u=>exact q.pZ
  ·obtain⟨e,H',sg,rfl,Ig,fl,sm⟩:=q
   obtain⟨a0,xG⟩:=fl.xG
   rw[hst]at xG
   refine wpAny_looks_onW fr hfr xG λh' held up=>wpAny_landsW held λh'' WY vd=>?_
   rw[←hst]at WY
   have vf:Fl X.stack sg e (.ref (κ i)) {s1 with heap:=h''}:=⟨⟨a0,WY⟩,fl.up.trans (up.trans vd),fl.os,fl.bare⟩
   exact Lx XM hk hst hfr (r.same sm) Ig (hH i) _ vf p
end
end L2


namespace L2
open PySem PySem.Spec PySem.Calls PyProof.Rows PyProof.V
theorem Xi{K:aA}{c t:Value}{e:Addr}(hk:O2 K t c=some true):PySem.Answers (λs=>K.In s.heap∧∃oe,s.heap.get? e=some oe∧oe.cls=t) (.ref e) c true:=by
  intro dep tk prog w A R s hs
  obtain⟨h0,g,d,tt,os⟩:=s
  obtain⟨⟨X,oe,he,hc⟩,hq⟩:=hs
  have LT:I0 (model prog w) h0 (typeOf (.ref e)) t:=hc▸(Q7 he).andThen .now
  unfold Builtin.«isinstance.nested»
  refine wpAny_bind (LT.at ?_)
  by_cases q:(t==c)=true
  · rw[if_pos q]
    first
      | ((repeat lk);exact hq tt)
      | exact wpAny_bind (wpAny_rule (hq tt))
      | exact wpAny_bind (wpAny_rule (wpAny_pure (hq tt)))
  · rw[if_neg q]
    obtain⟨hty,his,hsub⟩:=PySem.W.kit_cls (M:=model prog w) X hk
    have LI:I0 (model prog w) h0 (isInstance (.ref e) c) true:=LT.andThen hsub
    refine wpAny_bind (hty.at ?_)
    rw[if_pos (by decide)]
    k_delta "plainIsInstance"
    refine wpAny_bind (wpAny_bind (his.at ?_))
    simp only[Bool.not_true,O1,if_false]
    refine wpAny_bind (LI.at ?_)
    first
      | exact wpAny_pure (wpAny_pure (hq tt))
      | (simp only[if_true];first | exact wpAny_pure (wpAny_pure (hq tt)) | exact wpAny_pure (hq tt) | exact wpAny_bind (wpAny_pure (wpAny_pure (hq tt))))
section
variable{K:aA}{X:Cx}{κ:Nat→Addr}{pos p:Pos}
def JV(e:Addr)(T:String):List V→Hp→VK→Prop:=λxs H Q=>xs=[.ref e,.ty T]∧Q (.bl true) H
theorem JW{pn:List (Addr×Obj)}{e:Addr}{oe:Obj}{t:Value}{T:String}(hpn:X.pn=pn)(hm:(e,oe)∈pn)(hc:oe.cls=t)(hk:O2 X.K t (.type T)=some true):fM X (.builtin "isinstance") (JV e T):=by
 intro pins s σ H xs us Q I r h
 obtain⟨rfl,q⟩:=h
 obtain⟨u,w',rfl,rx,rt⟩:=vals2 r
 cases rt
 cases rx
 have hp:=(I.pin (e,oe) (F6 _ (by rw[hpn];exact hm))).1
 exact PySem.call_isinstance (S:=λ_ R s=>(X.K.In s.heap∧∃oe,s.heap.get? e=some oe∧oe.cls=t)∧∀tk,R (.ok (.ret (.bool true))) {s with toks:=tk})
  (λprog w A R s hs=>PySem.isinstance_outer (Xi hk 0 _ prog w A R s hs) (λz=>nomatch z)) ⟨⟨I.Fe,oe,hp,hc⟩,λtk=>⟨.bl true,H,I.tok _,rfl,q⟩⟩
structure XE(K:aA)(X:Cx)(k:Nat)(ea:Addr)(e:Expr)(t:TE)(d:D):Prop where
 pe:PE X e t
 ev:∀(σ:St)(H:Hp)(Q:VK),σ[k]?=some (some (.ref ea))→(∀v H',aH H H'→By K H H' d v→Q v H')→t σ H Q
theorem JX{k:Nat}{ea:Addr}{e eT:Expr}{T:String}(h:PE X e (iW k))(hT:PE X eT (tC (.ty T)))(XD:fM X (.builtin "isinstance") (JV ea T)) (hg:Gl X "isinstance") (hm:X.mg "isinstance" = none) (hst:starEach (e::[eT]) X.env=(false,eval e X.env)::starEach [eT] X.env:=by rfl) (hst2:starEach [eT] X.env=(false,eval eT X.env)::starEach [] X.env:=by rfl)
  (hpl:(backTo pos (starEach [eT] X.env)).any (·.1)=false:=by rfl):XE K X k ea (.Call (.Name "isinstance" p) [e,eT] [] pos) (Nz (JV ea T) (cY (iW k) (cY (tC (.ty T)) lD))) (.bl true):=
 ⟨lE XD hg hm M9 (bN h (bN hT iU hst2) hst) (by decide) (by decide) hst hpl,λσ H Q hk q=>⟨_,hk,rfl,q _ H (aH.refl _) (.fO rfl (by unfold Rv;rfl))⟩⟩
end
section
variable{K:aA}{X:Cx}{g:GS}{pos:Pos}
end
end L2


namespace L2
open PySem PySem.Spec PySem.Calls PyProof.Rows PyProof.V
section
variable{K:aA}{X:Cx}{pos p0:Pos}
end
end L2


namespace L2
open PySem PySem.Spec PySem.Calls PyProof.Rows PyProof.V Builtin Builtin.ObjectAttr Builtin.Getset_descriptor
section
variable{P:Program}{w:World}{A:Around}{E:Value→Shared→Prop}{s:Shared}{K:aA}{x D:Addr}{ox:Obj}{od:Option Obj}
theorem Qn:builtinKind "BaseException.__getattribute__" = some .slot:=by kernel_rfl
theorem Ly:splitId "BaseException.__getattribute__" = some ("BaseException", "__getattribute__"):=by decide +kernel
theorem Qo(nm:Value):argsOk "BaseException.__getattribute__" ⟨.ref x::[nm],[]⟩:=F.args_bexc_ga _ _
theorem Lz{M:Model}{nm:Value}{Q:Unit→Shared→Prop}(L:I0 M s.heap (isInstance (.ref x) (.type "BaseException")) true) (q:Q () s):wpAny M A (checkBuiltinCall "BaseException.__getattribute__" ⟨.ref x::[nm],[]⟩) Q E s:=by
 have h:=@PySem.W.check_slot M A E s "BaseException.__getattribute__" "BaseException" "__getattribute__" (.ref x) [nm] [] Q Qn Ly L (Qo nm) q
 exact h
structure oO(K:aA)(D:Addr):Prop where
 ga:D5 K (.ref D) "__getattribute__" = some (some (.builtin "BaseException.__getattribute__"))
 gt:D5 K (.ref D) "__getattr__" = some none
 cl:D5 K (.ref D) "__class__" = some (some (.builtin "object.__class__"))
 sp:L5 K (.builtin "object.__class__") "__get__" = some (some (.builtin "getset_descriptor.__get__"))
 tk:N8 K (.builtin "object.__class__")=some true
 mr:M4 K D (.type "object")=some true
 bx:P9 K (.ref D) (.type "BaseException")=some true
 ct:(O4 K D).isSome=true
theorem Qp{M:Model}{h:Heap}(X:K.In h)(C:oO K D):I0 M h (Builtin.ObjectAttr.find (.ref x) (.ref D) "__class__") (.bind (.builtin "getset_descriptor.__get__") (.builtin "object.__class__")):=by
 have L1:=P2 (M:=M) X C.cl
 have L2:I0 M h (Builtin.ObjectAttr.getOf (some (.builtin "object.__class__"))) (some (.builtin "getset_descriptor.__get__")):=PySem.W.looks_specialIn X C.sp
 have L3:=PySem.W.looks_takesIn (M:=M) X C.tk
 exact L1.andThen (L2.andThen ((show I0 M h (Builtin.ObjectAttr.dataDescriptor? (some (.builtin "object.__class__")) (some (.builtin "getset_descriptor.__get__"))) (some (.builtin "getset_descriptor.__get__", .builtin "object.__class__"))from L3.andThen .now).andThen (PySem.W.Looks.tag .now)))
theorem Xj{R:Result→Shared→Prop}(X:K.In s.heap)(T:I0 (model P w) s.heap (typeOf (.ref x)) (.ref D))(C:oO K D)(h:R (.ok (.ret (.ref D))) s):codeAny (model P w) A (.call (.builtin "getset_descriptor.__get__") ⟨[.builtin "object.__class__", .ref x,.ref D],[]⟩) R s:=by
 obtain⟨hh,g,dr,t,os⟩:=s
 have L0:=T
 have L1:=PySem.W.looks_mroIn (M:=model P w) X C.mr
 refine codeAny_call_builtin U4.plain PySem.W.KF.entry_gs (U4.check _ _ _ _ _ _ _ _ PySem.W.KF.type_class (PySem.W.KF.args_gs _ _ _) ?_)
 unfold Builtin.«getset_descriptor.__get__» descrGet
 rw[PySem.W.dga_obj]
 refine wpAny_bind (wpAny_pure ?_)
 unfold descrGetter descrCheckInstance descrNameAndClass isInstance
 simp only[PySem.W.KF.owner_class]
 repeat lk
 refine⟨Code.quiet_builtin _ (by decide +kernel),codeAny_builtin PySem.W.KF.entry_class ?_⟩
 unfold Builtin.«object.__class__» shownTypeOf
 repeat lk
 exact h
theorem Ma{tk:Tok}{Q:Fin→Shared→Prop}(X:K.In s.heap)(T:I0 (model P w) s.heap (typeOf (.ref x)) (.ref D))(C:oO K D)(h:Q (.done (.ret (.ref D))) s):wpAny (model P w) A (Builtin.«object.__getattribute__» ⟨[.ref x,.str "__class__" tk],[]⟩) Q E s:=by
 obtain⟨hh,g,d,t,os⟩:=s
 have L0:=T
 have L3:=Qp (M:=model P w) (x:=x) X C
 unfold Builtin.«object.__getattribute__»
 refine wpAny_bind (wpAny_pure ?_)
 refine wpAny_bind (wpAny_pure ?_)
 refine wpAny_bind (L0.at ?_)
 refine wpAny_bind (L3.at ?_)
 show wpAny _ _ (holding [.builtin "object.__class__"] (call (.builtin "getset_descriptor.__get__") [.builtin "object.__class__", .ref x,.ref D]) >>= ret) _ _ _
 exact wpAny_bind (wpAny_holding (wpAny_call (Xj (s:=⟨hh,g,d,t,os⟩) X T C (wpAny_pure h))))
theorem Mf{Q:Option Value→Shared→Prop}(X:K.In s.heap)(T:I0 (model P w) s.heap (typeOf (.ref x)) (.ref D))(C:oO K D)
  (h:Q (some (.ref D)) {s with toks:=s.toks+1}):wpAny (model P w) A (getAttr? (.ref x) "__class__") Q E s:=by
 obtain⟨hh,g,d,t,os⟩:=s
 have L0:=T
 have L1:=P2 (M:=model P w) X C.ga
 have L2:=P2 (M:=model P w) X C.gt
 have L4:I0 (model P w) hh (isInstance (.ref x) (.type "BaseException")) true:=L0.andThen (PySem.W.looks_subIn X C.bx)
 have bnd:=F.excAttr_ValueError.ga.bind (.ref x)
 unfold getAttr? getAttrBy? getAttrBy
 refine wpAny_bind (wpAny_mkText (wpAny_bind (wpAny_attempt (wpAny_holding (wpAny_bind (L0.at (wpAny_bind (L1.at ?_))))))))
 show wpAny _ _ (getAttrByItsOwn _ _ _ _ _ _) _ _ _
 unfold getAttrByItsOwn
 have e1:hookBefore (.ref D)=typeLookup (.ref D) "__getattr__" := rfl
 rw[e1]
 refine wpAny_bind (L2.at (wpAny_bind (wpAny_attempt (wpAny_holding ?_))))
 have e2:∀nm,callGetattribute (.ref x) nm (.builtin "BaseException.__getattribute__") false=boundAndCalled (.builtin "BaseException.__getattribute__") (.ref x) nm:=λ_=>rfl
 rw[e2]
 unfold boundAndCalled
 rw[bnd]
 refine wpAny_bind (wpAny_pure ?_)
 refine wpAny_call (f:=.builtin "BaseException.__getattribute__") (pos:=[.ref x,.str "__class__" t]) (kw:=[]) (codeAny_call_builtin F.excAttr_ValueError.ga.plain F.entry_bexc_ga ?_)
 refine Lz (s:=⟨hh,g,d,t+1,os⟩) L4 ?_
 refine Ma (s:=⟨hh,g,d,t+1,os⟩) X T C ?_
 show wpAny _ _ (handedOut (.ref D)) _ _ _
 refine PySem.W.handed_on rfl ?_
 exact wpAny_pure h
theorem Zw{M:Model}{h:Heap}{e:Addr}{oe:Obj}{t:Value}(h1:h.get? e=some oe)(h2:oe.cls=t):I0 M h (typeOf (.ref e)) t:=h2▸(Q7 h1).andThen .now
theorem Dr{e:Addr}(F:oO K D):PySem.W.KitX K (.ref e) (.ref D) (λh=>∃oe,h.get? e=some oe∧oe.cls=.ref D) where
 ty:=λ_ _ _ ⟨oe,h1,h2⟩=>Zw h1 h2
 it:=λ_ _ X _=>by
  obtain⟨cd,hc⟩:=L8.mp F.ct
  unfold O4 at hc
  split at hc
  ·rename_i ho
   intro A' Q' E' s' k q
   unfold isType loadHead
   exact wpAny_bind (wpAny_loadPart (k _ _ (X _ _ ho)) (wpAny_pure q))
  ·cases hc
 ne:=λh tp dd its n sl X htp=>by
  obtain⟨cd,hc⟩:=L8.mp F.ct
  refine Bool.eq_false_iff.mpr λq=>?_
  have e:D=tp:=Value.ref.inj (beq_iff_eq.mp q)
  subst e
  unfold O4 at hc
  split at hc
  ·rename_i ho
   have z:=(X _ _ ho).symm.trans htp
   cases z
  ·cases hc
 ca:=λX ⟨oe,h1,h2⟩ k=>Mf X (Zw h1 h2) F k
end
section
variable{K:aA}{X:Cx}{κ:Nat→Addr}{pos p:Pos}
def JZ(e C:Addr)(b:Bool):List V→Hp→VK→Prop:=λxs H Q=>xs=[.ref e,.ref C]∧Q (.bl b) H
theorem Gj{pn:List (Addr×Obj)}{e C D:Addr}{oe:Obj}{b:Bool}(hpn:X.pn=pn)(hm:(e,oe)∈pn)(hc:oe.cls=.ref D)(F:oO X.K D)(hk:S5 X.K (.ref D) (.ref C)=some b):fM X (.builtin "isinstance") (JZ e C b):=by
 intro pins s σ H xs us Q I r h
 obtain⟨rfl,q⟩:=h
 obtain⟨u,w',rfl,rx,rt⟩:=vals2 r
 cases rt
 cases rx
 have hp:=(I.pin (e,oe) (F6 _ (by rw[hpn];exact hm))).1
 exact PySem.W.kia_one (Dr F) I.Fe ⟨oe,hp,hc⟩ hk (λz=>nomatch z) λtk=>⟨.bl b,H,I.tok _,rfl,q⟩
def KC(K:aA)(e:Addr)(cs:List Addr)(b:Bool):List V→Hp→VK→Prop:=λxs H Q=>∃a,xs=[.ref e,.ref a]∧lB K H a (cs.map V.ref)∧Q (.bl b) H
theorem Xk{cs:List Addr}:∀{us:List Value},Vals (cs.map V.ref) us→us=cs.map Value.ref:=by
 induction cs with
 | nil=>intro us h;cases h;rfl
 | cons c cs ih=>
  intro us h
  cases h with
  | cons h1 h2=>
   rw[ih h2]
   cases h1
   rfl
theorem KD{pn:List (Addr×Obj)}{e D:Addr}{cs:List Addr}{oe:Obj}{b:Bool}(hpn:X.pn=pn)(hm:(e,oe)∈pn)(hc:oe.cls=.ref D)(F:oO X.K D)(hk:S6 X.K (.ref D) (cs.map Value.ref)=some b):fM X (.builtin "isinstance") (KC X.K e cs b):=by
 intro pins s σ H xs us Q I r h
 obtain⟨a,rfl,ht,q⟩:=h
 obtain⟨u,w',rfl,rx,rt⟩:=vals2 r
 cases rt
 cases rx
 have hp:=(I.pin (e,oe) (F6 _ (by rw[hpn];exact hm))).1
 obtain⟨its,rv,pl,hz⟩:=I.tuple ht
 obtain⟨o,h1,h2,n,h3⟩:=pl
 rw[Xk rv]at h3
 obtain⟨oc,dd,dt,sl⟩:=o
 dsimp only at h2 h3
 subst h2 h3
 exact PySem.W.kia_tup (Dr F) I.Fe ⟨oe,hp,hc⟩ h1 hk (λz=>nomatch z) λtk=>⟨.bl b,H,I.tok _,rfl,q⟩
structure Zx(K:aA)(X:Cx)(k:Nat)(ea:Addr)(e:Expr)(t:TE)(f:FE):Prop where
 hk:X.K=K
 pe:PE X e t
 ev:∀(σ:St)(H:Hp)(de:DE)(d:D)(Q:VK),mY K H de σ→σ[k]?=some (some (.ref ea))→f de=some d→(∀v H',aH H H'→By K H H' d v→Q v H')→t σ H Q
theorem XF{k:Nat}{ea:Addr}{e:Expr}{t:TE}{f:FE}(h:XN K X e t f):Zx K X k ea e t f:=⟨h.hk,h.pe,λσ H de d Q re _ q kk=>h.ev σ H de d Q re q kk⟩
theorem XH{k:Nat}{ea:Addr}{e:Expr}{t:TE}{d:D}(h:XE K X k ea e t d)(hk:X.K=K:=by rfl):Zx K X k ea e t (fC d):=⟨hk,h.pe,λσ H de d' Q re hs q kk=>by cases q;exact h.ev σ H Q hs kk⟩
theorem Av{k:Nat}{ea C:Addr}{b:Bool}{e eT:Expr}(h:PE X e (iW k))(hT:PE X eT (tC (.ref C)))(XD:fM X (.builtin "isinstance") (JZ ea C b)) (hg:Gl X "isinstance") (hm:X.mg "isinstance" = none) (hk:X.K=K:=by rfl) (hst:starEach (e::[eT]) X.env=(false,eval e X.env)::starEach [eT] X.env:=by rfl) (hst2:starEach [eT] X.env=(false,eval eT X.env)::starEach [] X.env:=by rfl)
  (hpl:(backTo pos (starEach [eT] X.env)).any (·.1)=false:=by rfl):Zx K X k ea (.Call (.Name "isinstance" p) [e,eT] [] pos) (Nz (JZ ea C b) (cY (iW k) (cY (tC (.ref C)) lD))) (fC (.bl b)):=
 ⟨hk,lE XD hg hm M9 (bN h (bN hT iU hst2) hst) (by decide) (by decide) hst hpl,λσ H de d Q re hs q kk=>by
  cases q
  exact⟨_,hs,rfl,kk _ H (aH.refl _) (.fO rfl (by unfold Rv;rfl))⟩⟩
def Jj:List Addr→TA
 | []=>lD
 | c::cs=>cY (tC (.ref c)) (Jj cs)
theorem Ds{σ:St}{H:Hp}:∀{cs:List Addr} {Q:List V→Hp→Prop},Q (cs.map V.ref) H→Jj cs σ H Q
 | [],Q,q=>q
 | c::cs,Q,q=>Ds (cs:=cs) (Q:=λxs H1=>Q (.ref c::xs) H1) q
theorem Xl{k:Nat}{ea:Addr}{cs:List Addr}{b:Bool}{e eT:Expr}(hl:cs.length≤100)(h:PE X e (iW k))(hT:PE X eT (Nx (Jj cs)))(XD:fM X (.builtin "isinstance") (KC K ea cs b)) (hg:Gl X "isinstance") (hm:X.mg "isinstance" = none) (hk:X.K=K:=by rfl) (hst:starEach (e::[eT]) X.env=(false,eval e X.env)::starEach [eT] X.env:=by rfl) (hst2:starEach [eT] X.env=(false,eval eT X.env)::starEach [] X.env:=by rfl)
  (hpl:(backTo pos (starEach [eT] X.env)).any (·.1)=false:=by rfl):Zx K X k ea (.Call (.Name "isinstance" p) [e,eT] [] pos) (Nz (KC K ea cs b) (cY (iW k) (cY (Nx (Jj cs)) lD))) (fC (.bl b)):=
 ⟨hk,lE XD hg hm M9 (bN h (bN hT iU hst2) hst) (by decide) (by decide) hst hpl,λσ H de d Q re hs q kk=>by
  cases q
  refine⟨_,hs,?_⟩
  refine Ds ⟨vB (by rw[B3];omega),λl hl=>?_⟩
  exact⟨l,rfl,lB.of bB,kk _ _ (bM hl _) (.fO rfl (by unfold Rv;rfl))⟩⟩
structure ZZ(K:aA)(X:Cx)(k:Nat)(ea:Addr)(es:List Expr)(t:TA)(fs:FA):Prop where
 hk:X.K=K
 pa:PA X es t
 ev:∀(σ:St)(H:Hp)(de:DE)(ds:List D)(Q:List V→Hp→Prop),mY K H de σ→σ[k]?=some (some (.ref ea))→fs de=some ds→(∀vs H',aH H H'→xN K H H' ds vs→Q vs H')→t σ H Q
theorem Xm{k:Nat}{ea:Addr}(hk:X.K=K:=by rfl):ZZ K X k ea [] lD aF:=⟨hk,iU,λσ H de ds Q re hs q kk=>by
 cases q
 exact kk [] H (aH.refl _) ⟨nil,by unfold cA;exact⟨λ_ z=>z,rfl⟩,λ_ z=>z.elim⟩⟩
theorem lV{k:Nat}{ea:Addr}{e:Expr}{es:List Expr}{t:TE}{tA:TA}{f:FE}{fs:FA}(h:Zx K X k ea e t f)(hs:ZZ K X k ea es tA fs)(hst:starEach (e::es) X.env=(false,eval e X.env)::starEach es X.env:=by rfl):ZZ K X k ea (e::es) (cY t tA) (aB f fs):=⟨h.hk,bN h.pe hs.pa hst,λσ H de ds Q re hσ q kk=>by
 obtain⟨a,r,h1,h2,rfl⟩:=lH q
 refine h.ev σ H de a _ re hσ h1 λx H1 s1 n1=>hs.ev σ H1 de r _ (re.same s1) hσ h2 λvs H2 s2 n2=>?_
 refine kk _ H2 (s1.trans s2) ?_
 obtain⟨A,oA,fA⟩:=n1
 obtain⟨B,oB,fB⟩:=n2
 refine⟨dH A B,?_,λp q=>q.elim (fA p) λz=>s1.free (fB p z)⟩
 unfold cA
 refine⟨x,vs,A,B,rfl,λp qa qb=>?_,λ_=>Iff.rfl,oA.same s2,oB⟩
 obtain⟨⟨o,e1⟩,_⟩:=Ow.cells _ _ _ oA p qa
 rw[fB p qb]at e1;cases e1⟩
theorem Xn{k:Nat}{ea:Addr}{es:List Expr}{tA:TA}{fs:FA}(h:ZZ K X k ea es tA fs):Zx K X k ea (.List es pos) (Kw tA) (fU fs):=⟨h.hk,Fi h.pa,λσ H de d Q re hs q kk=>by
 unfold fU at q
 obtain⟨ds,h1,h2⟩:=aX q
 obtain⟨hc,rfl⟩:=pM h2
 refine h.ev σ H de ds _ re hs h1 λxs H1 s1 n=>⟨vB (by rw[n.rv.length];exact hc),λp hp=>?_⟩
 exact kk _ _ (s1.trans (bM hp _)) (jT s1 n hp)⟩
theorem Xo{k i:Nat}{ea:Addr}{e:Expr}{te:TE}{f:FE}{x:Str}{pos':Pos}(h:Zx K X k ea e te f)(hp:PE X e te→PS X (.Assign [.Name x pos'] e pos) (xJ te (cO i))):YE K X k ea [.Assign [.Name x pos'] e pos] (xJ te (cO i)) (bT i f):=
 ⟨Hz (hp h.pe),λB D σ H env r hk q=>by
  unfold bT at q
  split at q
  ·rename_i d qf
   split at q
   ·rename_i hi
    exact h.ev σ H (rE env) d _ r.r hk qf λv H' s n=>q _ _ (r.own hi s n)
   ·exact q.elim
  ·exact q.elim⟩
theorem KH{k i:Nat}{ea:Addr}{e:Expr}{te:TE}{f:FE}{x:Str}{pos':Pos}{st:Stmt}{sts:List Stmt}{t:TS}{g:GS}(hki:i≠k)(h:Zx K X k ea e te f)(hp:PE X e te→PS X (.Assign [.Name x pos'] e pos) (xJ te (cO i)))(hr:YE K X k ea (st::sts) t g):YE K X k ea (.Assign [.Name x pos'] e pos::st::sts) (Ff (xJ te (cO i)) t) (aO (bT i f) g):=
 ⟨pA (hp h.pe) hr.ps,λB D σ H env r hk q=>by
  cases qf:f (rE env)with
  | none=>
   have z:aO (bT i f) g env=.bad:=by unfold aO bT;rw[qf]
   rw[z]at q
   exact q.elim
  | some d=>
   by_cases hi:i<env.length
   ·have z:aO (bT i f) g env=g (env.set i (.own d)):=by unfold aO bT;rw[qf];dsimp only;rw[if_pos hi]
    rw[z]at q
    exact h.ev σ H (rE env) d _ r.r hk qf λv H' s n=>hr.ev B D _ H' _ (r.own hi s n) (by rw[N2 hki];exact hk) q
   ·have z:aO (bT i f) g env=.bad:=by unfold aO bT;rw[qf];dsimp only;rw[if_neg hi]
    rw[z]at q
    exact q.elim⟩
end
end L2


namespace L2
open PySem PySem.Spec PySem.Calls PyProof.Rows PyProof.V
section
variable{P:Program}{w:World}{K:aA}{mg:Str→Option Value}{base:Heap}{κ:Nat→Addr}
theorem Raw.XQ{x:Str}{st:Stmt}{N ps:List Str}{k:Nat}{z:GZ}(R:Raw K mg x st)(S:bL N ps (aK st))
  (hb:∀(kV doc pm:Value)(an:Option Addr)(cdv ct:Value)(us:List Value),us.length=ps.length→bindArgs (F4 x x (cJ st) (bO st) (aK st) .none kV doc pm an cdv ct) ⟨us,[]⟩=pure (ps.zip us))
  (hbody:∀(f:Addr)(cdv:Value)(A:Around)(outer:List Env)(s:Shared)(H:Hp)(E:XK),fK k (A.deeper (envOfC x (aK st) s.heap.objs.size f cdv))→∃t,Nf K κ (dZ (uC P w) P w K mg base N x (aK st) f cdv A outer s H E) E (bO st) t z):Ls P w K mg base x (k+1) ps.length (Zv K κ ps.length (JQ N.length ps.length z)):=by
 obtain⟨f,fd,F,m⟩:=R.ex
 have kp:=F.kp
 obtain⟨oc,od,kV,doc,pm,an,cdv,ct,osl,rfl,lk,hcd⟩:=F.ex
 refine⟨f,_,ps,rfl,Zd lk hcd S (λvs H Q E h=>?_) λA outer s H vs Q E hr hsp=>?_,.all (hb kV doc pm an cdv ct),kp,m⟩
 ·obtain⟨ds,d,h1,h2,_⟩:=h
  rw[h2.length];exact h1
 obtain⟨t,yb⟩:=hbody f cdv A outer s H E hr
 exact⟨t,yb.ps,WW yb hsp⟩
end
section
variable{K:aA}{κ:Nat→Addr}{X:Cx}{E:XK}{pos:Pos}
end
end L2


namespace L2
open PySem PySem.Spec PySem.Calls PyProof.Rows PyProof.V
section
variable{K:aA}{X:Cx}{e:Expr}{t:TE}{f:FE}{pos:Pos}
end
end L2


set_option maxHeartbeats 1000000
namespace L2
open PySem PySem.Spec PySem.Calls PyProof.Rows PyProof.V
section
variable{K:aA}{X:Cx}{e:Expr}{t:TE}{f:FE}{pos p2:Pos}
def XS(z:Str)(lo hi:Option Int):Prop:=(∀i∈lo.toList,0≤i)∧(∀j∈hi.toList,0≤j)∧HT.tO z.length 0 lo≤HT.tO z.length z.length hi∧z.length≤100000
instance:∀z lo hi,Decidable (XS z lo hi):=λz lo hi=>by unfold XS;exact inferInstance
end
end L2


namespace L2
open PySem PySem.Spec PySem.Calls PyProof.Rows PyProof.V
section
variable{K:aA}{X:Cx}{pos:Pos}
variable{κ:Nat→Addr}{sub:Aq}{n nj:Nat}
theorem Xp(hn:n≤nj)(XM:∀i j,i<n→j<nj→A9 K (.ref (κ i)) (.ref (κ j))=some (sub i j))(hr:∀i,i<n→sub i i=true)(i j:Nat)(hi:i<n)(hj:j<nj):S5 K (.ref (κ i)) (.ref (κ j))=some (sub i j):=by
 have h:=XM i j hi hj
 unfold S5
 split
 ·rename_i q
  have e:=beq_iff_eq.mp q
  have h2:=XM i i hi (C3 hi hn)
  rw[←e,h2,hr i hi]at h
  exact h
 ·unfold A9 at h
  split at h
  ·exact h
  ·cases h
theorem XX(hn:n≤nj)(XM:∀i j,i<n→j<nj→A9 K (.ref (κ i)) (.ref (κ j))=some (sub i j))(hr:∀i,i<n→sub i i=true)(i:Nat)(hi:i<n):∀js:List Nat,(∀j∈js,j<nj)→S6 K (.ref (κ i)) ((js.map κ).map Value.ref)=some (js.any (sub i))
 | [],_=>rfl
 | j::js,h=>by
  have h1:=Xp hn XM hr i j hi (h j (D4 ..))
  have ih:=XX hn XM hr i hi js λk hk=>h k (C9 _ hk)
  rw[B5,B5,P8]
  unfold S6
  rw[h1]
  cases sub i j with
  | true=>rfl
  | false=>exact ih
end
end L2


namespace L2
open PySem PySem.Spec PySem.Calls PyProof.Rows PyProof.V
theorem vO:∀{p:List Bool} {us:List Value},Vals (p.map V.bl) us→us=p.map Value.bool
 | [],us,h=>by cases h;rfl
 | b::p,us,h=>by
  cases h with
  | cons h1 h2=>
   rw[vO h2]
   cases h1
   rfl
theorem Mg{p q:List Bool}(hl:p.length=q.length):((D7 p.length).all λi=>p.getD i false==q.getD i false)=decide (p=q):=by
 rw[M5,V4,decide_eq_true_iff]
 constructor
 ·intro h
  apply V5 hl
  intro i h1 h2
  have:=h i (K5.mpr h1)
  rw[B6,B6,B0 h1,B0 h2]at this
  exact beq_iff_eq.mp this
 ·rintro rfl i _
  simp
section
variable{K:aA}{X:Cx}
def KJ(K:aA):R2:=λx y H Q=>∃(a b:Addr)(p q:List Bool),x=.ref a∧y=.ref b∧iY K H a (p.map V.bl)∧iY K H b (q.map V.bl)∧Q (.bl (decide (p=q))) H
theorem KN(hu:X.A.units+64<cLine):nR X (compareOp .Eq) (KJ X.K):=by
 intro pins s σ H x y v u Q I rx ry h
 obtain⟨a,b,p,q,rfl,rfl,h1,h2,k⟩:=h
 cases rx
 cases ry
 obtain⟨uV,v1,qP,_⟩:=I.list h1
 obtain⟨its2,v2,tZ,_⟩:=I.list h2
 have e1:=vO v1
 have e2:=vO v2
 subst e1 e2
 have rc:SeqAt.RcAt X.A s (.ref a) (.ref b) (decide (p=q)):=by
  by_cases hl:p.length=q.length
  ·have z:=SeqAt.RcAt.lists (e:=λi=>p.getD i false==q.getD i false) (A:=X.A) (s:=s) qP.isList tZ.isList (by simpa using hl) (by omega) (λj h1 h2=>by
    have g1:j<p.length:=by simpa using h1
    have g2:j<q.length:=by simpa using h2
    have t1:(p.map Value.bool).toArray[j]=.bool (p.getD j false):=by
     rw[B6,B0 g1]
     simp
    have t2:(q.map Value.bool).toArray[j]=.bool (q.getD j false):=by
     rw[B6,B0 g2]
     simp
    rw[t1,t2]
    exact SeqAt.EqAt.bool_bool _ _)
   rw[B4,B3,Mg hl]at z
   exact z
  ·rw[decide_eq_false (λz=>hl (by rw[z]))]
   exact SeqAt.RcAt.lists_lengths qP.isList tZ.isList (by simpa using hl) (by omega)
 exact rc X.prog X.w X.xe _ ⟨.bl _,H,I,rfl,k⟩
def Mh:List D→Option (List Bool)
 | []=>some []
 | .bl b::ds=>(Mh ds).map (b::·)
 | _=>none
def Xq(a b:D):Option D:=match a,b with
 | .lst xs,.lst ys=>(Mh xs).bind λp=>(Mh ys).map λq=>.bl (decide (p=q))
 | _,_=>none
theorem Aw{H:Hp}:∀{ds:List D} {p:List Bool} {vs:List V},Mh ds=some p→bI K H ds vs→vs=p.map V.bl
 | [],p,vs,h,r=>by unfold Mh at h;cases h;unfold bI at r;exact r
 | d::ds,p,vs,h,r=>by
  cases d<;>unfold Mh at h<;>first | cases h | skip
  obtain⟨p',q1,rfl⟩:=fJ h
  unfold bI at r
  obtain⟨y,ys,rfl,r1,r2⟩:=r
  unfold Rv at r1
  rw[r1,Aw q1 r2]
  rfl
theorem KQ:Mz K (KJ K) Xq:=λx y H a b d Q ra rb q k=>by
 unfold Xq at q
 split at q
 ·obtain⟨p,q1,q2⟩:=aX q
  obtain⟨p',q3,rfl⟩:=fJ q2
  unfold Rv at ra rb
  obtain⟨la,xs,rfl,a1,a2⟩:=ra
  obtain⟨lb,ys,rfl,b1,b2⟩:=rb
  rw[Aw q1 a2]at a1
  rw[Aw q3 b2]at b1
  exact⟨la,lb,p,p',rfl,rfl,a1,b1,k _ H (aH.refl _) (.fO rfl (by unfold Rv;rfl))⟩
 ·cases q
theorem KR(hu:X.A.units+64<cLine)(hk:X.K=K):nR X (compareOp .Eq) (KJ K):=by subst hk;exact KN hu
end
end L2


namespace L2
open PySem PySem.Spec PySem.Calls PyProof.Rows PyProof.V
section
variable{K:aA}{X:Cx}{a e0 eM:Expr}{es:List Expr}{t0 tM:TE}{f0:FE}{gM:GM}{tA:TA}{fs:FA}{pos:Pos}{i:Nat}
end
end L2


namespace L2
open PySem PySem.Spec PySem.Calls PyProof.Rows PyProof.V
section
variable{K:aA}{X:Cx}{e1 e2:Expr}{t1 t2 te:TE}{f g fe:FE}{tc:TT}{fc:FT}{pos p p2:Pos}{x:Str}
end
end L2


namespace L2
open PySem PySem.Spec PySem.Calls PyProof.Rows PyProof.V
inductive Ap where
  | ch (i:Nat) (π:FP) | rd (f:FE) | nw (f:FE)
def aa:List Ap→DE→Option (List (Nat×List Step))
 | [],_=>some []
 | .ch i π::as,e=>(π e).bind λp=>(aa as e).map λr=>(i,p)::r
 | .rd _::as,e=>aa as e
 | .nw _::as,e=>aa as e
def aj:List Ap→DE→DE→Option (List D)
 | [],_,_=>some []
 | .ch _ _::as,eF,eZ=>aj as eF eZ
 | .rd f::as,eF,eZ=>(f eZ).bind λd=>(aj as eF eZ).map λr=>d::r
 | .nw f::as,eF,eZ=>(f eF).bind λd=>(aj as eF eZ).map λr=>d::r
def Jk(K:aA)(Z:Hp):List Ap→List V→List D→List V→Prop
 | [],cv,ds,vs=>cv=[]∧ds=[]∧vs=[]
 | .ch _ _::as,cv,ds,vs=>∃v cr r,cv=v::cr∧vs=v::r∧Jk K Z as cr ds r
 | .rd _::as,cv,ds,vs=>∃d dr v r,ds=d::dr∧vs=v::r∧Rv K Z d v∧Jk K Z as cv dr r
 | .nw _::as,cv,ds,vs=>∃d dr v r,ds=d::dr∧vs=v::r∧Rv K Z d v∧Jk K Z as cv dr r
def mq(σ:St)(H:Hp):List (Nat×List Step)→List V→Prop
 | [],vs=>vs=[]
 | (j,p)::js,vs=>∃v0 v r,vs=v::r∧σ[j]?=some (some v0)∧Nb H p v0=some v∧mq σ H js r
section
variable{K:aA}{X:Cx}{e:Expr}{es:List Expr}{te:TE}{f:FE}{tA:TA}{as:List Ap}{pos:Pos}{i:Nat}{π:FP}
def il(K:aA)(t:TA)(as:List Ap):Prop:=∀(A1:Fp)(σ:St)(H:Hp)(eF eZ:DE)(ds:List D)(ps:List (Nat×List Step))(cv:List V)(Q:List V→Hp→Prop),(∀x,A1 x→lG H x)→mY K H eF σ→mY K (out H A1) eZ σ→aa as eF=some ps→mq σ H ps cv→aj as eF eZ=some ds →
 (∀vs H',aH H H'→Jk K (out H' A1) as cv ds vs→Q vs H')→t σ H Q
structure zb(K:aA)(X:Cx)(es:List Expr)(t:TA)(as:List Ap):Prop where
 hk:X.K=K
 pa:PA X es t
 ev:il K t as
end
section
variable{K:aA}{H H' Z Z' B:Hp}{σ:St}
end
section
variable{K:aA}{X:Cx}{e:Expr}{es:List Expr}{tA:TA}{as:List Ap}{pos pf:Pos}
end
section
variable{K:aA}{X:Cx}{a b e:Expr}{ta tb te:TE}{g:FE}{gm:GM}{i:Nat}{π:FP}{pos pos':Pos}
end
end L2


namespace L2
open PySem PySem.Spec PySem.Calls PyProof.Rows PyProof.V
section
variable{K:aA}{te:TE}{f:FE}{i:Nat}{c:Int}
end
end L2


namespace L2
open PySem PySem.Spec PySem.Calls PyProof.Rows PyProof.V HT
section
variable{X:Cx}{K:aA}{e:Expr}{t:TE}{f:FE}{x y:Str}{p p2 pos pos2:Pos}
end
end L2


namespace L2
open PySem PySem.Spec PySem.Calls PyProof.Rows PyProof.V
def YC(base:Heap)(l:List Env)(e:Addr)(cls a0:Value)(h:Heap):Prop:=base.StaysIn h∧base.get? e=none∧h.FunFrames base l∧∃fl,h.TracedAtW base e cls a0 fl
section
variable{M:Model}{A:Around}{E:Value→Shared→Prop}{s:Shared}{base:Heap}{env:Env}{outer l:List Env}{L e:Addr}{cls a0:Value}
end
structure Hl(l:List Env)(s1:Shared)(e:Addr)(cls:Value)(s':Shared):Prop where
 held:∃a0,YC (vL s1.heap l) l e cls a0 s'.heap
 up:s1.heap.UpToSlots s'.heap
 os:s'.os=s1.os
 bare:AllBare s'.gens
section
variable{P:Program}{w:World}{K:aA}{mg:Str→Option Value}{base:Heap}{N:List Str}{qual:Str}{scope:Scope}{f:Addr}{cd:Value}{A:Around}{outer:List Env}{s0:Shared}{H0:Hp}{E:XK}
end
section
variable{X:Cx}{EE:XK}
end
section
variable{K:aA}{κ:Nat→Addr}{X:Cx}{E:XK}
end
section
variable{K:aA}{κ:Nat→Addr}{X:Cx}{E:XK}{a e:Expr}{ta tz:TE}{f:FE}{z:DE→Option Nat}{pos:Pos}
end
end L2


namespace L2
open PySem PySem.Spec PySem.Calls PyProof.Rows PyProof.V
section
variable{K:aA}{te:TE}{f:FE}{tc:TT}{c:FT}{i j:Nat}
end
end L2


namespace L2
open PySem PySem.Spec PySem.Calls PyProof.Rows PyProof.V
section
variable{M:Model}{A:Around}{E:Value→Shared→Prop}{s:Shared}
end
structure RM(qO scope:Scope)(oN N:List Str)(k:Nat)(fr:List Nat):Prop where
 kind:scope.kind=.function
 loc:∀y∈scope.names,y.2=.local→scope.names.lookup y.1=some .local
 free:∀y∈scope.names,y.2=.free→qO.names.lookup y.1=some .cell∨qO.names.lookup y.1=some .free
 len:N.length=k+fr.length
 slots:∀j∈D7 fr.length,oN[fr.getD j 0]?=N[k+j]?
 from_:∀x∈N.drop k,(x,NameKind.free)∈scope.names∧((eN scope qO).names.lookup x=some .cell∨(eN scope qO).names.lookup x=some .free)
 apart:∀y∈scope.names,y.2=.free→(y.1,NameKind.cell)∉scope.names
def ir(qO scope:Scope)(oN N:List Str)(k:Nat)(fr:List Nat):Bool:=
 decide (scope.kind=.function)&&decide (∀y∈scope.names,y.2=.local→scope.names.lookup y.1=some .local) &&
 decide (∀y∈scope.names,y.2=.free→qO.names.lookup y.1=some .cell∨qO.names.lookup y.1=some .free)&&decide (N.length=k+fr.length) &&
 decide (∀j∈D7 fr.length,oN[fr.getD j 0]?=N[k+j]?) &&
 decide (∀x∈N.drop k,(x,NameKind.free)∈scope.names∧((eN scope qO).names.lookup x=some .cell∨(eN scope qO).names.lookup x=some .free)) &&
 decide (∀y∈scope.names,y.2=.free→(y.1,NameKind.cell)∉scope.names)
section
variable{X:Cx}
end
section
variable{K:aA}{X:Cx}{tc:TT}{fc:FT}{pos:Pos}
end
end L2


namespace L2
open PySem PySem.Spec PySem.Calls PyProof.Rows PyProof.V
section
variable{prog:Program}{w:World}{A:Around}{E:Value→Shared→Prop}{s:Shared}{it d:Addr}{i ep:Nat}{es:Array DictEntry}{od:Obj}
end
section
variable{X:Cx}
end
end L2


namespace L2
open PySem PySem.Spec PySem.Calls PyProof.Rows PyProof.V
section
variable{K:aA}{B H:Hp}{env:EN}{σ:St}
end
section
variable{K:aA}{t h:Nat}{tb:TS}{tb':Int→TS}{body:Int→GS}
end
section
variable{K:aA}{t h j:Nat}{tA:TA}{fs:FA}
end
section
variable{K:aA}{X:Cx}{t h j c i:Nat}{π:FP}{ta zc:TE}{g:FE}{tA:TA}{fs:FA}{tg o o2 hn cn two a b val:Expr}{es:List Expr}{st1 st2:Stmt}{pos pos' p1 p2 p3 p4:Pos}{x1:Nat}
end
end L2


namespace L2
open PySem PySem.W PyProof.Rows
def jH{α:Type}(N:Nat)(lt:Nat→Nat→Bool):KasT α→(α→Prop)→Prop
 | .ret a,Q=>Q a
 | .ask i j k,Q=>i<N∧j<N∧jH N lt (k (lt i j)) Q
theorem gY{α β:Type}{N:Nat}{lt:Nat→Nat→Bool}{f:α→KasT β}{Q:β→Prop}:∀t:KasT α,jH N lt (t.bind f) Q=jH N lt t λa=>jH N lt (f a) Q
 | .ret _=>rfl
 | .ask i j k=>by
  show (i<N∧j<N∧jH N lt ((k (lt i j)).bind f) Q)=(i<N∧j<N∧jH N lt (k (lt i j)) _)
  rw[gY (k (lt i j))]
theorem cG{α:Type}{N:Nat}{lt:Nat→Nat→Bool}{Q Q':α→Prop}(h:∀a,Q a→Q' a):∀t:KasT α,jH N lt t Q→jH N lt t Q'
 | .ret a,q=>h a q
 | .ask i j k,q=>⟨q.1,q.2.1,cG h (k (lt i j)) q.2.2⟩
theorem Jl{α:Type}{N:Nat}{lt:Nat→Nat→Bool}{cmp:Nat→Nat→(Bool→Shared→Prop)→Shared→Prop}{Q:α→Shared→Prop}{s:Shared}(hc:∀i j (C:Bool→Shared→Prop),i<N→j<N→C (lt i j) s→cmp i j C s):∀t:KasT α,jH N lt t (λa=>Q a s)→t.kasWp cmp Q s
 | .ret a,q=>q
 | .ask i j k,q=>hc i j _ q.1 q.2.1 (Jl hc (k (lt i j)) q.2.2)
section
variable{N:Nat}(key:Nat→Int)
theorem Ax{p:Array Nat}(h0:0<N)(hb:∀x∈p.toList,x<N)(k:Nat):p.getD k 0<N:=by
 rw[G8]
 cases e:p[k]? with
 | none=>exact h0
 | some x=>exact hb x (F9 (by rw[O6];exact e))
abbrev Gk(i j:Nat):Bool:=decide (key i<key j)
abbrev kA(p:Array Nat)(k:Nat):Int:=key (p.getD k 0)
def Xr(p:Array Nat)(m:Nat):Prop:=∀i j,i≤j→j<m→kA key p i≤kA key p j
theorem lW{p q:Array Nat}{i j:Nat}(h:p[i]?=q[j]?):kA key p i=kA key q j:=by
 unfold kA
 rw[G8,G8,h]
theorem Jm{p:Array Nat}{m:Nat}(h:∀k,1≤k→k<m→kA key p (k-1)≤kA key p k):Xr key p m:=by
 intro i j hij hj
 induction j with
 | zero=>rw[Nat.le_zero.mp hij];exact V1 _
 | succ j ih=>
  rcases K6 i (j+1)with z | z
  ·have a:=ih (by omega) (by omega)
   have b:=h (j+1) (by omega) hj
   rw[Nat.add_sub_cancel]at b
   omega
  ·rw[show i=j+1 by omega];exact V1 _
theorem Gm{p:Array Nat}(hb:∀k,p.getD k 0<N):∀f n,1≤n→jH N (Gk key) (kas_asc p f n) λm=>n≤m∧m≤n+f∧(∀k,n≤k→k<m→kA key p (k-1)≤kA key p k)∧(m<n+f→kA key p m<kA key p (m-1))
 | 0,n,_=>⟨B9 _,B9 _,λk a b=>by omega,λh=>by omega⟩
 | f+1,n,h1=>by
  refine⟨hb _,hb _,?_⟩
  show jH N (Gk key) (if decide (kA key p n<kA key p (n-1))=true then KasT.ret n else kas_asc p f (n+1)) _
  by_cases c:kA key p n<kA key p (n-1)
  ·rw[if_pos (decide_eq_true c)]
   exact⟨B9 _,V6 _ _,λk a b=>by omega,λ_=>c⟩
  ·rw[if_neg (by rw[decide_eq_false c];exact C6)]
   refine cG (λm h=>?_) _ (Gm hb f (n+1) (by omega))
   obtain⟨a,b,d,e⟩:=h
   refine⟨by omega,by omega,λk hk hm=>?_,λq=>e (by omega)⟩
   rcases K6 n k with z | z
   ·exact d k z hm
   ·rw[show k=n by omega];omega
theorem Jo{p:Array Nat}(hb:∀k,p.getD k 0<N)(hd:∀i j,i<p.size→j<p.size→i≠j→kA key p i≠kA key p j):∀f n,1≤n→n+f≤p.size→jH N (Gk key) (kas_desc f p n 0) λr=>r.1=p∧r.2.2=0∧n≤r.2.1∧r.2.1≤n+f∧∀k,n≤k→k<r.2.1→kA key p k<kA key p (k-1)
 | 0,n,_,_=>⟨rfl,rfl,B9 _,B9 _,λk a b=>by dsimp only at b;omega⟩
 | f+1,n,h1,h2=>by
  unfold kas_desc
  refine⟨hb _,hb _,?_⟩
  show jH N (Gk key) (if decide (kA key p n<kA key p (n-1))=true then(if 0 > 0 then kas_desc f (kas_rev p (n-(0+1)) n) (n+1) 0 else kas_desc f p (n+1) 0)else KasT.ask (p.getD (n-1) 0) (p.getD n 0) λd=>if d=true then .ret (p,n,0)else kas_desc f p (n+1) (0+1)) _
  by_cases c:kA key p n<kA key p (n-1)
  ·rw[if_pos (decide_eq_true c),if_neg (by omega)]
   refine cG (λr h=>?_) _ (Jo hb hd f (n+1) (by omega) (by omega))
   obtain⟨a,b,d,e,g⟩:=h
   refine⟨a,b,by omega,by omega,λk hk hm=>?_⟩
   rcases K6 n k with z | z
   ·exact g k z hm
   ·rw[show k=n by omega];exact c
  ·rw[if_neg (by rw[decide_eq_false c];exact C6)]
   refine⟨hb _,hb _,?_⟩
   show jH N (Gk key) (if decide (kA key p (n-1)<kA key p n)=true then KasT.ret (p,n,0)else kas_desc f p (n+1) (0+1)) _
   have ne:=hd (n-1) n (by omega) (by omega) (by omega)
   rw[if_pos (decide_eq_true (by omega))]
   exact⟨rfl,rfl,B9 _,V6 _ _,λk a b=>by dsimp only at b;omega⟩
theorem Qq{p:Array Nat}{m k:Nat}(hm:m≤p.size):(kas_rev p 0 m)[k]?=if k<m then p[m-1-k]? else p[k]?:=by
 unfold kas_rev
 rw[getElem?_mirror_all hm]
 by_cases c:k<m
 ·rw[if_pos ⟨K0 _,c⟩,if_pos c,N0]
 ·rw[if_neg (λz=>c z.2),if_neg c]
theorem Qt{p:Array Nat}(h0:0<N)(hx:∀x∈p.toList,x<N)(h1:1≤p.size)(hd:∀i j,i<p.size→j<p.size→i≠j→kA key p i≠kA key p j):jH N (Gk key) (kas_count p.size p) λr=>r.2.Perm p∧1≤r.1∧r.1≤p.size∧Xr key r.2 r.1:=by
 have hb:=Ax h0 hx
 unfold kas_count
 rw[gY]
 refine cG (λn h=>?_) _ (Gm key hb (p.size-1) 1 (B9 _))
 obtain⟨a,b,c,d⟩:=h
 have hs:Xr key p n:=Jm key λk x y=>c k x y
 by_cases e:(n==p.size)=true
 ·rw[if_pos e]
  exact⟨R7 _,a,by omega,hs⟩
 ·rw[if_neg e]
  have ne:n≠p.size:=λz=>e (by rw[z];exact beq_self_eq_true _)
  by_cases g:n > 1
  ·rw[if_pos g]
   have hl:=hs 0 (n-1) (by omega) (by omega)
   have hn:=hd 0 (n-1) (by omega) (by omega) (by omega)
   refine⟨hb _,hb _,?_⟩
   show jH N (Gk key) (if decide (kA key p 0<kA key p (n-1))=true then KasT.ret (n,p)else kas_descPart n p.size (kas_rev p 0 n)) _
   rw[if_pos (decide_eq_true (by omega))]
   exact⟨R7 _,a,by omega,hs⟩
  ·rw[if_neg g]
   obtain rfl:n=1:=by omega
   have hdn:=d (by omega)
   unfold kas_descPart
   rw[gY]
   refine cG (λr h=>?_) _ (Jo key hb hd (p.size-(1+1)) (1+1) (by omega) (by omega))
   obtain⟨q,m,z⟩:=r
   obtain⟨e1,e2,m1,m2,m3⟩:=h
   dsimp only at e1 e2 m1 m2 m3 ⊢
   subst e1 e2
   rw[if_neg (by omega)]
   unfold kas_tail3
   rw[gY]
   refine cG (λn' h=>?_) _ (Gm key (p:=kas_rev q 0 m) (Ax h0 λx z=>hx x ((mirror_perm q 0 m ((m-0)/2)).toList.mem_iff.mp z)) (q.size-m) m (by omega))
   obtain⟨a',b',c',_⟩:=h
   have hm:m≤q.size:=by omega
   refine⟨mirror_perm _ _ _ _,by omega,by omega,Jm key λk x y=>?_⟩
   rcases K6 k m with w | w
   ·rw[lW key (show (kas_rev q 0 m)[k-1]?=q[m-1-(k-1)]? by rw[Qq hm,if_pos (by omega)]),lW key (show (kas_rev q 0 m)[k]?=q[m-1-k]? by rw[Qq hm,if_pos w])]
    have hh:kA key q (m-1-(k-1))<kA key q (m-1-(k-1)-1):=by
     rcases K6 (m-1-(k-1)) 2 with v | v
     ·rw[show m-1-(k-1)=1 by omega];exact hdn
     ·exact m3 _ v (by omega)
    rw[show m-1-(k-1)-1=m-1-k by omega]at hh
    omega
   ·exact c' k w y
theorem vP{p:Array Nat}{k:Nat}(hb:∀k,p.getD k 0<N)(hs:Xr key p k):∀f l r,l≤r→r≤k→r-l≤f→(∀j,j<l→kA key p j≤kA key p k)→(∀j,r≤j→j<k→kA key p k<kA key p j)→jH N (Gk key) (kas_place p k f l r) λm=>m≤k∧(∀j,j<m→kA key p j≤kA key p k)∧∀j,m≤j→j<k→kA key p k<kA key p j
 | 0,l,r,h1,h2,h3,h4,h5=>⟨by omega,h4,λj a b=>h5 j (by omega) b⟩
 | f+1,l,r,h1,h2,h3,h4,h5=>by
  unfold kas_place
  by_cases c:l≥r
  ·rw[if_pos c]
   exact⟨by omega,h4,λj a b=>h5 j (by omega) b⟩
  ·rw[if_neg c]
   refine⟨hb _,hb _,?_⟩
   show jH N (Gk key) (if decide (kA key p k<kA key p ((l+r)/2))=true then kas_place p k f l ((l+r)/2)else kas_place p k f ((l+r)/2+1) r) _
   by_cases d:kA key p k<kA key p ((l+r)/2)
   ·rw[if_pos (decide_eq_true d)]
    refine vP hb hs f l ((l+r)/2) (by omega) (by omega) (by omega) h4 λj a b=>?_
    have:=hs ((l+r)/2) j a b
    omega
   ·rw[if_neg (by rw[decide_eq_false d];exact C6)]
    refine vP hb hs f ((l+r)/2+1) r (by omega) h2 (by omega) (λj a=>?_) h5
    have:=hs j ((l+r)/2) (by omega) (by omega)
    omega
theorem Qu(h0:0<N):∀f (p:Array Nat) k,(∀x∈p.toList,x<N)→k+f=p.size→Xr key p k→jH N (Gk key) (kas_bin f p k) λp'=>p'.Perm p∧Xr key p' p.size
 | 0,p,k,hx,h1,h2=>⟨R7 _,by rw[←h1];exact h2⟩
 | f+1,p,k,hx,h1,h2=>by
  unfold kas_bin
  rw[gY]
  refine cG (λl h=>?_) _ (vP key (Ax h0 hx) h2 k 0 k (K0 _) (B9 _) (B9 _) (λj a=>by omega) λj a b=>by omega)
  obtain⟨a,b,c⟩:=h
  have hk:k<p.size:=by omega
  have hat:=λj=>getElem?_bubble hk (k-l) (by omega) j
  rw[show k-(k-l)=l by omega]at hat
  have hs:Xr key (bubble p k (k-l)) (k+1):=by
   have at1:kA key (bubble p k (k-l)) l=kA key p k:=lW key (by rw[hat,if_pos rfl])
   have at2:∀j,l<j→j≤k→kA key (bubble p k (k-l)) j=kA key p (j-1):=λj x y=>lW key (by rw[hat,if_neg (by omega),if_pos ⟨x,y⟩])
   have my:∀j,j<l→kA key (bubble p k (k-l)) j=kA key p j:=λj x=>lW key (by rw[hat,if_neg (by omega),if_neg (by omega)])
   intro i j hij hj
   rcases Q4 i l with x | x | x
   ·rw[my i x]
    rcases Q4 j l with y | y | y
    ·rw[my j y];exact h2 i j hij (by omega)
    ·rw[y,at1];exact b i x
    ·rw[at2 j y (by omega)];exact h2 i (j-1) (by omega) (by omega)
   ·rw[x,at1]
    rcases Q4 j l with y | y | y
    ·omega
    ·rw[y,at1];exact V1 _
    ·rw[at2 j y (by omega)];exact Int.le_of_lt (c (j-1) (by omega) (by omega))
   ·rw[at2 i x (by omega),at2 j (by omega) (by omega)]
    exact h2 (i-1) (j-1) (by omega) (by omega)
  have hz:(bubble p k (k-l)).size=p.size:=bubble_size _ _ _
  refine cG (λp' h=>?_) _ (Qu h0 f (bubble p k (k-l)) (k+1) (λx z=>hx x ((bubble_perm p k (k-l)).toList.mem_iff.mp z)) (by omega) hs)
  exact⟨h.1.trans (bubble_perm _ _ _),by rw[←hz];exact h.2⟩
theorem Xu{n:Nat}(h1:1≤n)(hk:∀i j,i<n→j<n→i≠j→key i≠key j):jH n (Gk key) (kas_sort n) λp=>p.toList.Perm (D7 n)∧Xr key p n:=by
 have hz:(Q8 (D7 n)).size=n:=by rw[B4,K4]
 have hg:∀i,i<n→(Q8 (D7 n)).getD i 0=i:=λi hi=>by
  rw[G8,S7,T7 hi]
  rfl
 have hc:=Qt (N:=n) key (p:=Q8 (D7 n)) h1 (λx hx=>by simpa using hx) (by omega) λi j hi hj hne=>by
  unfold kA
  rw[hg i (by omega),hg j (by omega)]
  exact hk i j (by omega) (by omega) hne
 unfold kas_sort
 rw[gY]
 rw[hz]at hc
 refine cG (λr h=>?_) _ hc
 obtain⟨m,q⟩:=r
 obtain⟨a,b,c,d⟩:=h
 dsimp only at a b c d ⊢
 have hq:q.size=n:=a.size_eq.trans hz
 have hp:q.toList.Perm (D7 n):=by
  have:=a.toList
  simpa using this
 by_cases e:m<n
 ·rw[if_pos e,show max m 1=m by omega]
  refine cG (λp' h=>?_) _ (Qu key h1 (n-m) q m (λx hx=>by simpa using hp.mem_iff.mp hx) (by omega) d)
  exact⟨h.1.toList.trans hp,by rw[←hq];exact h.2⟩
 ·rw[if_neg e]
  obtain rfl:m=n:=by omega
  exact⟨hp,d⟩
end
end L2


namespace L2
open PySem PySem.W PySem.Spec PyProof.Rows
def qQ(h:Heap):List Value→List (Int×Int)→Prop
 | [],ps=>ps=[]
 | v::vs,ps=>∃p qs,ps=p::qs∧(∃a t u,v=.ref a∧IsTup h a #[.int p.1 t,.int p.2 u])∧qQ h vs qs
theorem qQ.length{h:Heap}:∀{vs:List Value} {ps:List (Int×Int)},qQ h vs ps→vs.length=ps.length
 | [],ps,x=>by unfold qQ at x;rw[x];rfl
 | v::vs,ps,x=>by
  unfold qQ at x
  obtain⟨p,qs,rfl,_,r⟩:=x
  rw[F3,F3,r.length]
theorem qQ.at_{h:Heap}:∀{vs:List Value} {ps:List (Int×Int)} {i:Nat},qQ h vs ps→i<vs.length→∃a t u,vs.getD i .none=.ref a∧IsTup h a #[.int (ps.getD i (0,0)).1 t,.int (ps.getD i (0,0)).2 u]
 | [],ps,i,_,hi=>by simp at hi
 | v::vs,ps,0,x,_=>by
  unfold qQ at x
  obtain⟨p,qs,rfl,⟨a,t,u,rfl,y⟩,_⟩:=x
  exact⟨a,t,u,rfl,y⟩
 | v::vs,ps,i+1,x,hi=>by
  unfold qQ at x
  obtain⟨p,qs,rfl,_,r⟩:=x
  obtain⟨a,t,u,e,y⟩:=r.at_ (i:=i) (by simpa using hi)
  exact⟨a,t,u,e,y⟩
theorem qQ.keeps{h h':Heap}:∀{vs:List Value} {ps:List (Int×Int)},qQ h vs ps→(∀a o,h.get? a=some o→o.cls=.type "tuple" → h'.get? a=some o)→qQ h' vs ps
 | [],ps,x,_=>by unfold qQ at x ⊢;exact x
 | v::vs,ps,x,k=>by
  unfold qQ at x ⊢
  obtain⟨p,qs,e,⟨a,t,u,e2,o,ho,hc,hd⟩,r⟩:=x
  exact⟨p,qs,e,⟨a,t,u,e2,o,k a o ho hc,hc,hd⟩,r.keeps k⟩
theorem qQ.tups{h:Heap}:∀{vs:List Value} {ps:List (Int×Int)},qQ h vs ps→∃fs,KatTups h vs fs∧fs.length=vs.length∧∀v∈fs,∃i t,v=Value.int i t
 | [],ps,x=>⟨[],KatTups.nil,rfl,λv hv=>by cases hv⟩
 | v::vs,ps,x=>by
  unfold qQ at x
  obtain⟨p,qs,e,⟨a,t,u,rfl,o,ho,hc,n,hd⟩,r⟩:=x
  obtain⟨fs,k,l,m⟩:=r.tups
  refine⟨.int p.1 t::fs,KatTups.cons ho hc hd rfl k,by rw[F3,F3,l],λw hw=>?_⟩
  rcases D6.mp hw with z | z
  ·exact⟨_,_,z⟩
  ·exact m w z
section
variable{prog:Program}{w:World}{A:Around}{E:Value→Shared→Prop}{s:Shared}{vs:List Value}{ps:List (Int×Int)}
abbrev xH(ps:List (Int×Int))(i:Nat):Int:=(ps.getD i (0,0)).1
theorem KY{i j:Nat}{C:Bool→Shared→Prop}(hp:qQ s.heap vs ps)(hk:∀i j,i<vs.length→j<vs.length→i≠j→xH ps i≠xH ps j)(hi:i<vs.length)(hj:j<vs.length)(h:C (Gk (xH ps) i j) s) :
  kas_ask prog w A (tuples' true) vs i j C s:=by
 obtain⟨a,t,u,e1,o1,ho1,hc1,n1,hd1⟩:=hp.at_ hi
 obtain⟨b,t',u',e2,o2,ho2,hc2,n2,hd2⟩:=hp.at_ hj
 unfold kas_ask
 rw[e1,e2]
 refine kat_lt ho1 hd1 ho2 hd2 ?_
 refine kat_cons (wpAny_eqBool_int ?_)
 by_cases c:i=j
 ·subst c
  rw[beq_self_eq_true]
  refine kat_yes (kat_cons (wpAny_eqBool_int ?_))
  rw[beq_self_eq_true]
  refine kat_yes (kat_nil ?_)
  have e:Gk (xH ps) i i=decide ((#[Value.int (ps.getD i (0,0)).1 t,Value.int (ps.getD i (0,0)).2 u]:Array Value).size<(#[Value.int (ps.getD i (0,0)).1 t',Value.int (ps.getD i (0,0)).2 u']:Array Value).size):=by
   unfold Gk
   rw[decide_eq_false (Int.lt_irrefl _)]
   rfl
  rw[←e]
  exact h
 ·have ne:=hk i j hi hj c
  rw[beq_eq_false_iff_ne.mpr ne]
  exact kat_no (oneLt_int h)
theorem Xv(vs:List Value):(arrOf (SortSt.mk' general' (vs.toArray.zip vs.toArray) #[] 7 none)).map (·.2)=((D7 vs.length).map λi=>vs.getD i Value.none).toArray:=by
 have hz:(vs.toArray.zip vs.toArray).size=vs.length:=by rw[Array.size_zip,B4,U3]
 have e:=kas_range (vs.toArray.zip vs.toArray)
 rw[hz]at e
 have h:=kat_snds (ks:=vs) (vs:=vs) rfl (st:=SortSt.mk' general' (vs.toArray.zip vs.toArray) #[] 7 none) (p:=Q8 (D7 vs.length)) e.symm
 exact h
theorem nW{a:Addr}{n:Nat}{P:PySem.Fin→Shared→Prop}(ho:s.heap.get? a=some (seqObj "list" vs.toArray n)) (hp:qQ s.heap vs ps) (hk:∀i j,i<vs.length→j<vs.length→i≠j→xH ps i≠xH ps j) (h64:vs.length<64)
  (h:∀p:List Nat,p.Perm (D7 vs.length)→(p.map (xH ps)).Pairwise (·≤·)→P (.done (.ret .none)) {s with heap:=sortedHeap s.heap a vs (p.map λi=>vs.getD i Value.none).toArray}) :
  wpAny (model prog w) A (Builtin.«list.sort» ⟨[.ref a],[]⟩) P E s:=by
 rw[list_sort_plain]
 have ha:a<s.heap.objs.size:=Heap.lt_size ho
 refine wpAny_bind (listItems_at ho rfl ?_)
 refine wpAny_bind (listUpdate_at ho rfl ?_ (by rw[B4,sizeLine_eq];omega) (K0 _))
 obtain⟨e1,ho1⟩:∃e1,(s.heap.update a (Obj.mapSeq λ_=>(#[]:Array Value))).get? a=some (seqObj "list" #[] e1):=⟨_,get?_update_seq ho (λ_=>#[])⟩
 refine wpAny_bind (seqEpoch_at ho1 rfl ?_)
 refine wpAny_bind (wpAny_newTuple ?_ (by show vs.length≤_;rw[sizeLine_eq];omega))
 refine wpAny_bind (wpAny_newList ?_ (K0 _))
 refine wpAny_holding ?_
 have ho6:(((s.heap.update a (Obj.mapSeq λ_=>(#[]:Array Value))).push (seqObj "tuple" vs.toArray 0)).push (seqObj "list" #[] 0)).get? a=some (seqObj "list" #[] e1):=by
  rw[Heap.get?_push_ne _ _ _ (by rw[size_push',Heap.size_update];exact C4 (J0 ha)),Heap.get?_push_ne _ _ _ (by rw[Heap.size_update];exact C4 ha)]
  exact ho1
 have mz:qQ (((s.heap.update a (Obj.mapSeq λ_=>(#[]:Array Value))).push (seqObj "tuple" vs.toArray 0)).push (seqObj "list" #[] 0)) vs ps:=hp.keeps λb o e c=>by
  have ne:b≠a:=λz=>by
   subst z
   rw[ho]at e
   cases e
   exact absurd (show Value.type "list" = Value.type "tuple" from c) (by decide)
  exact Heap.get?_push_of_some _ (Heap.get?_push_of_some _ ((Heap.get?_update_ne _ _ _ _ ne).trans e))
 show wpAny (model prog w) A _ P E {s with heap:=((s.heap.update a (Obj.mapSeq λ_=>(#[]:Array Value))).push (seqObj "tuple" vs.toArray 0)).push (seqObj "list" #[] 0)}
 dsimp only
 by_cases h2:vs.toArray.size<2
 ·rw[if_pos h2,if_pos h2]
  have h2':vs.length<2:=by rw[B4]at h2;exact h2
  have hout:=Xv vs
  refine wpAny_bind (wpAny_pure ?_)
  rw[StateT.run_pure]
  refine wpAny_bind (wpAny_pure ?_)
  dsimp only
  rw[hout]
  refine wpAny_bind (seqEpoch_at ho6 rfl ?_)
  refine wpAny_bind (listUpdate_at ho6 rfl ?_ (K0 _) (by rw[B4,B3,K4,sizeLine_eq];omega))
  simp only[bne_self_eq_false,O1,if_false]
  refine wpAny_pure (h (D7 vs.length) (List.Perm.refl _) ?_)
  rw[M7,O0]
  intro i j hi hj hij
  rw[K4]at hi hj
  omega
 ·rw[if_neg h2,if_neg h2]
  have h2':2≤vs.length:=by rw[B4]at h2;omega
  obtain⟨fs,hf1,hf2,vg⟩:=mz.tups
  refine wpAny_bind (kat_kind (T:=.type "int") hf1 (by omega) (λv hv=>?_) rfl ?_)
  ·obtain⟨i,t,rfl⟩:=vg v hv
   exact Looks.of_pure rfl
  show wpAny _ _ (sortRuns'.run (SortSt.mk' (tuples' true) (vs.toArray.zip vs.toArray) #[] 7 none) >>= _) _ _ _
  refine wpAny_bind (wpAny_mono (kat_run (E:=E) (Q:=λst' s'=>∃p:Array Nat,p.size=vs.length∧arrOf st'=p.map (kas_item (vs.toArray.zip vs.toArray))∧failedOf st'=none∧(s'={s with heap:=((s.heap.update a (Obj.mapSeq λ_=>(#[]:Array Value))).push (seqObj "tuple" vs.toArray 0)).push (seqObj "list" #[] 0)}∧p.toList.Perm (D7 vs.length)∧Xr (xH ps) p vs.length))
   rfl h2' h64 (λp' st' s' a1 a2 a3 a4=>⟨p',a1,a2,a3,a4⟩) (Jl (lt:=Gk (xH ps)) (N:=vs.length) (λi j C hi hj q=>KY mz hk hi hj q) _ (cG (λp q=>⟨rfl,q.1,q.2⟩) _ (Xu (xH ps) (by omega) hk)))) ?_ λ_ _ e=>e)
  rintro⟨⟨⟩,st'⟩ s' ⟨p,hz,har,hf,rfl,hpm,hs⟩
  dsimp only
  have hout:=kat_snds rfl har
  rw[hout]
  refine wpAny_bind (seqEpoch_at ho6 rfl ?_)
  refine wpAny_bind (listUpdate_at ho6 rfl ?_ (K0 _) (by rw[B4,B3,N7,hz,sizeLine_eq];omega))
  rw[hf]
  simp only[bne_self_eq_false,O1,if_false]
  refine wpAny_pure (h p.toList hpm ?_)
  rw[M7,O0]
  intro i j hi hj hij
  have:=hs i j (by omega) (by rw[N7,hz]at hj;exact hj)
  unfold kA at this
  rw[G8,G8,←O6,←O6,B0 hi,B0 hj]at this
  exact this
end
end L2


namespace L2
open PySem PySem.W PySem.Spec PyProof.Rows
section
variable{X:Cx}{pins:List (Addr×Obj)}{σ:List (Option V)}{H H':Hp}{s:Shared}{h':Heap}
theorem Inv.more{t':Nat}(I:Inv X pins σ H s)(k:∀b u,s.heap.get? b=some u→h'.get? b=some u)(ho:∀b,b<s.heap.objs.size→H' b=H b)(new:∀b o,s.heap.objs.size≤b→H' b=some o→cX X.prog X.w H' h' b o):Inv X pins σ H' {s with heap:=h',toks:=t'}:=by
 have st:∀{b:Addr} {o:HO},H b=some o→H' b=some o:=λ{b o} e=>by rw[ho b (I.hok.lt e)];exact e
 refine I.un ⟨λb o e _ _ _=>k b o e,λb o e _ _ _=>⟨o.slots,k b o e⟩,λb o e n _=>by rw[ho b (Heap.lt_size e)];exact n,λb o e _=>⟨o,k b o e⟩,λb xs e=>st e,λb o u e=>st e,λb ps e=>⟨#[],by rw[st e];simp⟩⟩ λb o e=>?_
 rcases K6 b s.heap.objs.size with z | z
 ·rw[ho b z]at e
  exact(I.hok b o e).stay (λc v _ q=>k c v q) (λc q=>st q) λc xs q=>st q
 ·exact new b o z e
end
abbrev pD(p:Int×Int):D:=.tup [.int p.1,.int p.2]
def nY:List D→Option (List (Int×Int))
 | []=>some []
 | .tup [.int a,.int b]::ds=>(nY ds).map ((a,b)::·)
 | _=>none
theorem oR:∀{ds:List D} {ps:List (Int×Int)},nY ds=some ps→ds=ps.map pD
 | [],ps,h=>by unfold nY at h;cases h;rfl
 | d::ds,ps,h=>by
  unfold nY at h
  split at h
  ·rename_i e;cases e
  ·rename_i e
   cases e
   obtain⟨qs,q1,rfl⟩:=fJ h
   rw[oR q1]
   rfl
  ·cases h
theorem qC:∀ps:List (Int×Int),D.cF (ps.map pD)=true
 | []=>rfl
 | p::ps=>by
  rw[B5]
  unfold D.cF
  rw[qC ps]
  rfl
def cM(ps:List (Int×Int)):List (Int×Int):=ps.mergeSort λa b=>decide (a.1≤b.1)
theorem jW(ps:List (Int×Int)):(cM ps).Perm ps:=List.mergeSort_perm _ _
theorem Qv(ps:List (Int×Int)):((cM ps).map (·.1)).Pairwise (·≤·):=by
 have h:=List.pairwise_mergeSort (le:=λa b:Int×Int=>decide (a.1≤b.1)) (λa b c h1 h2=>decide_eq_true (Int.le_trans (of_decide_eq_true h1) (of_decide_eq_true h2))) (λa b=>by
  rw[Bool.or_eq_true,decide_eq_true_iff,decide_eq_true_iff];exact Int.le_total _ _) ps
 rw[M7]
 exact h.imp λh=>of_decide_eq_true h
theorem Jp:∀{l m:List (Int×Int)},(l.map (·.1)).Pairwise (·≤·)→(m.map (·.1)).Pairwise (·≤·)→(l.map (·.1)).Nodup→l.Perm m→l=m
  | [],m,_,_,_,p=>(List.Perm.nil_eq p)
  | a::l,[],_,_,_,p=>absurd p.symm (by simp)
  | a::l,b::m,h1,h2,hn,p=>by
    rw[B5]at h1 h2 hn
    obtain⟨vh,vm⟩:=U5.mp h1
    obtain⟨vo,vp⟩:=U5.mp h2
    obtain⟨n1,n2⟩:=K8.mp hn
    have e:a=b:=by
      have q1:a∈b::m:=p.mem_iff.mp D4
      have q2:b∈a::l:=p.mem_iff.mpr D4
      rcases D6.mp q1 with q1 | q1
      · exact q1
      · rcases D6.mp q2 with q2 | q2
        · exact q2.symm
        · have x:=vh b.1 (G0.mpr ⟨b,q2,rfl⟩)
          have y:=vo a.1 (G0.mpr ⟨a,q1,rfl⟩)
          have z:a.1=b.1:=by omega
          exact absurd (G0.mpr ⟨b,q2,z.symm⟩) n1
    subst e
    rw[Jp vm vp n2 (List.Perm.cons_inv p)]
theorem Dt{ps:List (Int×Int)}(h:(ps.map (·.1)).Nodup):((cM ps).map (·.1)).Nodup:=((jW ps).map _).nodup_iff.mpr h
theorem Qw{ps qs:List (Int×Int)}(hn:(ps.map (·.1)).Nodup)(hp:qs.Perm ps)(hs:(qs.map (·.1)).Pairwise (·≤·)):qs=cM ps:=Jp hs (Qv ps) ((hp.map _).nodup_iff.mpr hn) (hp.trans (jW ps).symm)
theorem Gn{α:Type}{ps:List α}{d:α}:(D7 ps.length).map (λi=>ps.getD i d)=ps:=by
 apply Q3
 intro i
 rw[C5]
 rcases K6 i ps.length with z | z
 ·rw[T7 z,B0 z]
  show some (ps.getD i d)=_
  rw[B6,B0 z]
  rfl
 ·rw[J5 (by rw[K4];exact z),J5 z]
  rfl
theorem vQ{ps:List (Int×Int)}{q:List Nat}(hn:(ps.map (·.1)).Nodup)(hq:q.Perm (D7 ps.length))(hs:(q.map (xH ps)).Pairwise (·≤·)):q.map (λi=>ps.getD i (0,0))=cM ps:=by
 refine Qw hn ?_ ?_
 ·have:=hq.map λi=>ps.getD i (0,0)
  rw[Gn]at this
  exact this
 ·rw[N1]
  exact hs
theorem rJ{ps:List (Int×Int)}{n:Nat}(hn:(ps.map (·.1)).Nodup)(hl:n=ps.length):∀i j,i<n→j<n→i≠j→xH ps i≠xH ps j:=λi j hi hj ne e=>by
 subst hl
 unfold xH at e
 rw[B6,B6,B0 hi,B0 hj]at e
 have:=(N5.mp hn)
 rw[M7,O0]at this
 rcases Nat.lt_or_gt_of_ne ne with z | z
 ·exact this i j hi hj z e
 ·exact this j i hj hi z e.symm
section
variable{K:aA}{X:Cx}{pins:List (Addr×Obj)}{σ:St}{H:Hp}{s:Shared}
theorem vR(I:Inv X pins σ H s):∀{ps:List (Int×Int)} {zs:List V} {us:List Value},bI X.K H (ps.map pD) zs→Vals zs us→qQ s.heap us ps
 | [],zs,us,r,v=>by
  rw[F5]at r
  unfold bI at r
  subst r
  cases v
  unfold qQ
  rfl
 | p::ps,zs,us,r,v=>by
  rw[B5]at r
  unfold bI at r
  obtain⟨y,ys,rfl,r1,r2⟩:=r
  cases v with
  | cons v1 v2=>
   unfold qQ
   refine⟨p,ps,rfl,?_,vR I r2 v2⟩
   unfold Rv at r1
   obtain⟨a,xs,rfl,ht,hx⟩:=r1
   cases v1
   obtain⟨its,w1,w2,_⟩:=I.tuple ht
   have e:xs=[.int p.1,.int p.2]:=by
    unfold bI at hx
    obtain⟨y1,zf,rfl,a1,a2⟩:=hx
    unfold bI at a2
    obtain⟨y2,zg,rfl,b1,b2⟩:=a2
    unfold bI at b2
    unfold Rv at a1 b1
    rw[a1,b1,b2]
   subst e
   cases w1 with
   | cons c1 c2=>
    cases c2 with
    | cons d1 d2=>
     cases d2
     obtain⟨t,rfl⟩:=c1
     obtain⟨u,rfl⟩:=d1
     exact⟨a,t,u,rfl,w2⟩
theorem rK{zs:List V}{us:List Value}(v:Vals zs us):∀q:List Nat,(∀i∈q,i<zs.length)→Vals (q.map λi=>zs.getD i V.non) (q.map λi=>us.getD i Value.none)
 | [],_=>.nil
 | i::q,h=>by
  rw[B5,B5]
  refine .cons ?_ (rK v q λj hj=>h j (C9 _ hj))
  have hi:=h i D4
  obtain⟨u,e,r⟩:=v.get (B0 hi)
  rw[B6,B6,e,B0 hi]
  exact r
theorem vU{ds:List D}{zs:List V}(r:bI K H ds zs):∀q:List Nat,(∀i∈q,i<zs.length)→bI K H (q.map λi=>ds.getD i D.non) (q.map λi=>zs.getD i V.non)
 | [],_=>by unfold bI;rfl
 | i::q,h=>by
  rw[B5,B5]
  unfold bI
  have hi:=h i D4
  have hd:i<ds.length:=by rw[←r.length];exact hi
  obtain⟨x,e,rx⟩:=r.get (B0 hd)
  refine⟨_,_,rfl,?_,vU r q λj hj=>h j (C9 _ hj)⟩
  rw[B6,B6,e,B0 hd]
  exact rx
theorem tG{ps:List (Int×Int)}{q:List Nat}(h:∀i∈q,i<ps.length):(q.map λi=>(ps.map pD).getD i D.non)=(q.map λi=>ps.getD i (0,0)).map pD:=by
 rw[N1]
 refine T8 λi hi=>?_
 have:=h i hi
 rw[B6,C5,B0 this]
 show pD ps[i]=pD (ps.getD i (0,0))
 rw[B6,B0 this]
 rfl
def rM(K:aA):List V→Hp→VK→Prop:=λxs H Q=>∃(p:Addr)(zs:List V)(ps:List (Int×Int)),xs=[.ref p]∧iY K H p zs∧bI K H (ps.map pD) zs∧ps.length<64∧(ps.map (·.1)).Nodup ∧
 ∀l ys,H l=none→bI K H ((cM ps).map pD) ys→Q (.ref l) (upd H l (.lst ys))
theorem Gp:fM X (.builtin "sorted") (rM X.K):=by
 intro pins s σ H xs us Q I r h
 obtain⟨p,zs,ps,rfl,hq,hr,h64,hn,q⟩:=h
 obtain⟨u,rfl,rx⟩:=vals1 r
 cases rx
 obtain⟨its,rv,pl,hz⟩:=I.list hq
 have hlen:=rv.length
 have hl2:=hr.length
 rw[B3]at hl2
 have hP:=vR I hr rv
 refine Calls.call_function_entry kind_sorted plain_sorted entry_sorted (args_sorted1 _) ?_
 unfold Builtin.«sorted»
 refine wpAny_bind (m:=checkCount "sorted" 1 1 _) (wpAny_pure ?_)
 refine wpAny_bind (collect_list pl.isList ?_ (by rw[sizeLine_eq];omega))
 refine wpAny_bind (wpAny_newList ?_ (by rw[sizeLine_eq];omega))
 have hsz:((s.heap.push (seqObj "list" #[] 0)).update s.heap.objs.size (Obj.mapSeq (·++its.toArray))).objs.size=s.heap.objs.size+1:=by
  rw[Heap.size_update,size_push']
 have hoL:(((s.heap.push (seqObj "list" #[] 0)).update s.heap.objs.size (Obj.mapSeq (·++its.toArray))).push (seqObj "list" its.toArray 0)).get? (s.heap.objs.size+1)=some (seqObj "list" its.toArray 0):=by
  rw[←hsz];exact Heap.get?_push_size _ rfl
 have keep:∀b o,s.heap.get? b=some o→(((s.heap.push (seqObj "list" #[] 0)).update s.heap.objs.size (Obj.mapSeq (·++its.toArray))).push (seqObj "list" its.toArray 0)).get? b=some o:=λb o q=>by
  have hlt:b<s.heap.objs.size:=Heap.lt_size q
  rw[Heap.get?_push_ne _ _ _ (by rw[hsz];exact C4 (J0 hlt)),Heap.get?_update_ne _ _ _ _ (C4 hlt),Heap.get?_push_ne _ _ _ (C4 hlt)]
  exact q
 show wpAny _ _ _ _ _ {s with heap:=((s.heap.push (seqObj "list" #[] 0)).update s.heap.objs.size (Obj.mapSeq (·++its.toArray))).push (seqObj "list" its.toArray 0)}
 rw[hsz]
 refine wpAny_bind (wpAny_holding (wpAny_call_entry slot_list_sort ⟨_,hoL,rfl⟩ entry_list_sort (nW hoL (hP.keeps λb o e _=>keep b o e) (rJ hn (by omega)) (by omega) λqs hp hs=>⟨_,rfl,?_⟩) (args_list_sort _)))
 refine wpAny_pure ⟨_,rfl,?_⟩
 obtain⟨e,he⟩:=sortedHeap_at (out:=(qs.map λi=>its.getD i Value.none).toArray) hoL
 have hs':H (s.heap.objs.size+1)=none:=I.hok.fresh (N6 _)
 have hin:∀i∈qs,i<zs.length:=λi hi=>by
  have:=hp.mem_iff.mp hi
  rw[K5]at this
  omega
 have vq:qs.length=zs.length:=by rw[hp.length_eq,K4];omega
 have I2:=I.laid (t':=s.toks) (a:=s.heap.objs.size+1) (o:=.lst (qs.map λi=>zs.getD i V.non)) (h':=sortedHeap (((s.heap.push (seqObj "list" #[] 0)).update s.heap.objs.size (Obj.mapSeq (·++its.toArray))).push (seqObj "list" its.toArray 0)) (s.heap.objs.size+1) its (qs.map λi=>its.getD i Value.none).toArray)
  (λb o eb=>by
   have hlt:=Heap.lt_size eb
   rw[sortedHeap_old (C4 (J0 hlt)) (by rw[Heap.size_push,hsz];exact J0 (J0 hlt))]
   exact keep b o eb) (N6 _)
  ⟨by rw[B3];exact L7 (yI (by omega)),qs.map λi=>its.getD i Value.none,e,rK rv qs hin,by simpa[seqObj]using he⟩
 refine⟨.ref _,_,I2,rfl,q _ _ hs' ?_⟩
 have:=vU hr qs hin
 rw[tG (λi hi=>by have:=hin i hi;omega),vQ hn (by rw[show ps.length=its.length by omega];exact hp) hs]at this
 exact this
def Ay:List D→Option D
 | [.lst ds]=>(nY ds).bind λps=>if ps.length<64∧(ps.map (·.1)).Nodup then some (.lst ((cM ps).map pD))else none
 | _=>none
theorem Qx:vH K (rM K) Ay:=λvs H ds d Q rs q k=>by
 unfold Ay at q
 split at q
 ·obtain⟨ps,q1,q2⟩:=aX q
  split at q2
  ·rename_i hl
   cases q2
   obtain⟨v,rfl,r⟩:=Ag rs
   rw[oR q1]at r
   unfold Rv at r
   obtain⟨p,zs,rfl,r2,r3⟩:=r
   exact⟨p,zs,ps,rfl,r2,r3,hl.1,hl.2,λl ys hl hy=>k _ _ (bM hl _) (jT (aH.refl _) (.cF (qC _) hy) hl)⟩
  ·cases q2
 ·cases q
theorem Qy(hk:X.K=K):fM X (.builtin "sorted") (rM K):=by subst hk;exact Gp
end
end L2


namespace L2
open PySem PySem.W PySem.Spec PyProof.Rows
theorem Az{α:Type} [DecidableEq α] {k:α}:∀{ks:List α} {i:Nat},ks.Nodup→ks[i]?=some k→posK ks k=some i
 | [],i,_,h=>by simp at h
 | a::ks,0,hn,h=>by
  have h:a=k:=by simpa using h
  unfold posK
  rw[if_pos h]
 | a::ks,i+1,hn,h=>by
  have h:ks[i]?=some k:=by simpa using h
  rw[K8]at hn
  have ne:a≠k:=λz=>hn.1 (z▸F9 h)
  unfold posK
  rw[if_neg ne,Az hn.2 h]
  rfl
theorem Ba{α:Type} [DecidableEq α] {k:α}:∀{ks:List α} {i:Nat},posK ks k=some i→ks[i]?=some k
 | [],i,h=>by unfold posK at h;cases h
 | a::ks,i,h=>by
  unfold posK at h
  by_cases c:a=k
  ·rw[if_pos c]at h;cases h;rw[c];rfl
  ·rw[if_neg c]at h
   obtain⟨j,h1,rfl⟩:=fJ h
   have:=Ba h1
   simpa using this
theorem Qz{h:Heap}:∀(as:List Addr)(ps:List (Int×Int)),as.length=ps.length→(∀(j:Nat)(a:Addr)(p:Int×Int),as[j]?=some a→ps[j]?=some p→∃t u,IsTup h a #[.int p.1 t,.int p.2 u])→qQ h (as.map Value.ref) ps
 | [],[],_,_=>by unfold qQ;rfl
 | [],p::ps,hl,_=>by simp at hl
 | a::as,[],hl,_=>by simp at hl
 | a::as,p::ps,hl,hk=>by
  rw[B5]
  unfold qQ
  obtain⟨t,u,y⟩:=hk 0 a p rfl rfl
  exact⟨p,ps,rfl,⟨a,t,u,rfl,y⟩,Qz as ps (by simpa using hl) λj b q e1 e2=>hk (j+1) b q (by simpa using e1) (by simpa using e2)⟩
theorem Ra{K:aA}{H:Hp}:∀(as:List Addr)(ps:List (Int×Int)),as.length=ps.length→(∀(j:Nat)(a:Addr)(p:Int×Int),as[j]?=some a→ps[j]?=some p→H a=some (.tup [.int p.1,.int p.2]))→bI K H (ps.map pD) (as.map V.ref)
 | [],[],_,_=>by rw[F5,F5];unfold bI;rfl
 | [],p::ps,hl,_=>by simp at hl
 | a::as,[],hl,_=>by simp at hl
 | a::as,p::ps,hl,hk=>by
  rw[B5,B5]
  unfold bI
  refine⟨_,_,rfl,?_,Ra as ps (by simpa using hl) λj b q e1 e2=>hk (j+1) b q (by simpa using e1) (by simpa using e2)⟩
  unfold Rv
  refine⟨a,_,rfl,lB.of (hk 0 a p rfl rfl),?_⟩
  exact(jC (ns:=[p.1,p.2])).mpr rfl
abbrev Rb(ps:List (Int×Int)):List (Key×V):=ps.map λp=>(B7 p.1,V.int p.2)
theorem Rc:∀{ps:List (Int×Int)} {vs:List (Key×Value)},KV (Rb ps) vs→∀(j:Nat)(p:Int×Int)(k:Key)(x:Value),ps[j]?=some p→vs[j]?=some (k,x)→k=B7 p.1∧∃u,x=.int p.2 u
 | [],vs,r,j,p,k,x,e,_=>by simp at e
 | p::ps,vs,r,j,q,k,x,e,f=>by
  rw[show Rb (p::ps)=(B7 p.1,V.int p.2)::Rb ps from rfl]at r
  cases r with
  | cons r1 r2=>
   cases j with
   | zero=>
    have e:p=q:=by simpa using e
    subst e
    have f:=F2 (show some _=some _ from f)
    subst f
    exact⟨r1.1.symm,r1.2⟩
   | succ j=>exact Rc r2 j q k x (by simpa using e) (by simpa using f)
section
variable{K:aA}{X:Cx}{pins:List (Addr×Obj)}{σ:St}{H:Hp}{s:Shared}
def Gq(K:aA):V→Hp→VK→Prop:=λv H Q=>∃(a:Addr)(ps:List (Int×Int)),v=.ref a∧Rd H a (.dK (Rb ps))∧ps.length<64∧(ps.map (·.1)).Nodup ∧
 ∀l H1 ys,aH H H1→H1 l=none→bI K H1 ((cM ps).map pD) ys→Q (.ref l) (upd H1 l (.lst ys))
theorem Xw(hc:X.calm=true)(pins:List (Addr×Obj))(s:Shared)(σ:St)(H:Hp)(v:V)(u:Value)(Q:VK)(I:Inv X pins σ H s)(rv:RelV v u)(h:Gq X.K v H Q) :
  wpAny (model X.prog X.w) X.A (call (.builtin "dict.items") [u]) (λu' s'=>wpAny (model X.prog X.w) X.A (call (.builtin "sorted") [u']) (EP X pins σ Q) X.xe s') X.xe s:=by
 obtain⟨a,ps,rfl,hq,h64,hn,q⟩:=h
 cases rv
 obtain⟨hz,hsm,vs,rel,dd⟩:=uQ I.hok hq
 obtain⟨ep,hat⟩:=dd.dictAt
 have hl:=KV.length rel
 rw[B3]at hl
 refine call_meetsIn R3 dd.typeIs PySem.F.entry_dict_items (PySem.F.args_dict_items_1 _) (meets_dict_items (aY X.prog X.w) a hsm) ⟨⟨vs,dd⟩,?_⟩
 have hvw:(s.heap.push {cls:=.type "dict_items", data:=.fields #[.ref a]}).get? s.heap.objs.size=some {cls:=.type "dict_items", data:=.fields #[.ref a]}:=Heap.get?_push_size _ rfl
 refine Calls.call_function_entry kind_sorted plain_sorted entry_sorted (args_sorted1 _) ?_
 unfold Builtin.«sorted»
 refine wpAny_bind (m:=checkCount "sorted" 1 1 _) (wpAny_pure ?_)
 refine wpAny_bind (kdx_collect (A:=X.A.in1) (s:={s with heap:=s.heap.push {cls:=.type "dict_items", data:=.fields #[.ref a]}}) (knd:=aY X.prog X.w) (kvs:=vs) (ep:=ep) (I.ok.hd hc) ⟨_,hvw,rfl,rfl⟩ (hat.push _) (by rw[sizeLine_eq];omega) λh' tk as kp hla hG=>?_)
 have vy:∀b o,s.heap.get? b=some o→h'.get? b=some o:=λb o e=>kp b o (Heap.get?_push_of_some _ e)
 have hsl:s.heap.objs.size<h'.objs.size:=Heap.lt_size (kp _ _ hvw)
 have hab:∀b∈as,s.heap.objs.size<b:=λb hb=>by
  have:=hG.above b hb
  rw[show ({s with heap:=s.heap.push {cls:=.type "dict_items", data:=.fields #[.ref a]}}:Shared).heap.objs.size=s.heap.objs.size+1 from Heap.size_push _ _]at this
  exact Nat.lt_of_succ_lt this
 have hnd:as.Nodup:=hG.rise.imp λz=>C4 z
 have hlen:as.length=ps.length:=by omega
 have hpr:∀(j:Nat)(b:Addr)(p:Int×Int),as[j]?=some b→ps[j]?=some p→∃t u,h'.get? b=some {cls:=.type "tuple", data:=.seq #[.int p.1 t,.int p.2 u]}:=λj b p e1 e2=>by
  obtain⟨key,k,x,f1,f2,f3⟩:=hG.pairs j b e1
  obtain⟨g1,u,rfl⟩:=Rc rel j p k x e2 f1
  subst g1
  obtain⟨t,rfl⟩:=Ij f2
  exact⟨t,u,f3⟩
 refine wpAny_bind (wpAny_newList ?_ (by rw[B3,hlen,sizeLine_eq];omega))
 have hoL:(h'.push (seqObj "list" (as.map Value.ref).toArray 0)).get? h'.objs.size=some (seqObj "list" (as.map Value.ref).toArray 0):=Heap.get?_push_size _ rfl
 have hP:qQ (h'.push (seqObj "list" (as.map Value.ref).toArray 0)) (as.map Value.ref) ps:=Qz as ps hlen λj b p e1 e2=>by
  obtain⟨t,u,e⟩:=hpr j b p e1 e2
  exact⟨t,u,_,Heap.get?_push_of_some _ e,rfl,0,rfl⟩
 refine wpAny_bind (wpAny_holding (wpAny_call_entry slot_list_sort ⟨_,hoL,rfl⟩ entry_list_sort (nW hoL hP (rJ hn (by rw[B3];exact hlen)) (by rw[B3];omega) λqs hp hs=>⟨_,rfl,?_⟩) (args_list_sort _)))
 refine wpAny_pure ⟨_,rfl,?_⟩
 obtain⟨e,he⟩:=sortedHeap_at (out:=(qs.map λi=>(as.map Value.ref).getD i Value.none).toArray) hoL
 rw[B3]at hp
 have hin:∀i∈qs,i<(as.map V.ref).length:=λi hi=>by
  have:=hp.mem_iff.mp hi
  rw[K5]at this
  rw[B3]
  exact this
 have vq:qs.length=as.length:=by rw[hp.length_eq,K4]
 have hva:∀l:List Addr,Vals (l.map V.ref) (l.map Value.ref):=λl=>by
  induction l with
  | nil=>exact .nil
  | cons b l ih=>exact .cons rfl ih
 have old:∀b o,h'.get? b=some o→(sortedHeap (h'.push (seqObj "list" (as.map Value.ref).toArray 0)) h'.objs.size (as.map Value.ref) (qs.map λi=>(as.map Value.ref).getD i Value.none).toArray).get? b=some o:=λb o eb=>by
  have hlt:=Heap.lt_size eb
  rw[sortedHeap_old (C4 hlt) (by rw[Heap.size_push];exact J0 hlt)]
  exact Heap.get?_push_of_some _ eb
 have hmem:∀b∈as,b<h'.objs.size:=λb hb=>hG.there hb
 have hpN:∀b,b∉as→posK as b=none:=λb hb=>by
  cases z:posK as b with
  | none=>rfl
  | some j=>exact absurd (F9 (Ba z)) hb
 have YD:∀b,b≤s.heap.objs.size→posK as b=none:=λb hb=>hpN b λz=>absurd (C3 (hab b z) hb) (G1 _)
 have vz:posK as h'.objs.size=none:=hpN _ λz=>absurd (hmem _ z) (G1 _)
 let H1:Hp:=λb=>match posK as b with
  | some j=>some (.tup [.int (xH ps j),.int (ps.getD j (0,0)).2])
  | none=>H b
 have ak:∀b,posK as b=none→H1 b=H b:=λb z=>by
  show (match posK as b with | some j=>_ | none=>H b)=_
  rw[z]
 have ni:∀b j,posK as b=some j→H1 b=some (.tup [.int (xH ps j),.int (ps.getD j (0,0)).2]):=λb j z=>by
  show (match posK as b with | some j=>_ | none=>H b)=_
  rw[z]
 have hfr:H h'.objs.size=none:=I.hok.fresh (L7 hsl)
 have hl1:H1 h'.objs.size=none:=(ak _ vz).trans hfr
 have I2:=I.more (t':=tk) (h':=sortedHeap (h'.push (seqObj "list" (as.map Value.ref).toArray 0)) h'.objs.size (as.map Value.ref) (qs.map λi=>(as.map Value.ref).getD i Value.none).toArray)
  (H':=upd H1 h'.objs.size (.lst (qs.map λi=>(as.map V.ref).getD i V.non))) (λb o eb=>old b o (vy b o eb))
  (λb hb=>by rw[aR (C4 (O9 hb hsl)),ak b (YD b (L7 hb))]) λb o hb eo=>by
   by_cases c:b=h'.objs.size
   ·subst c
    rw[bB]at eo
    cases eo
    exact⟨by rw[B3];exact L7 (yI (by omega)),qs.map λi=>(as.map Value.ref).getD i Value.none,e,rK (hva as) qs hin,by simpa[seqObj]using he⟩
   ·rw[aR c]at eo
    cases z:posK as b with
    | none=>
     rw[ak b z,I.hok.fresh hb]at eo
     cases eo
    | some j=>
     rw[ni b j z]at eo
     cases eo
     have ej:=Ba z
     have hj:j<ps.length:=by have:=(B8.mp ej).1;omega
     obtain⟨t,u,f⟩:=hpr j b _ ej (B0 hj)
     have e2:ps.getD j (0,0)=ps[j]:=by rw[B6,B0 hj];rfl
     refine⟨by rw[sizeLine_eq];exact G5 rfl,[.int ps[j].1 t,.int ps[j].2 u],?_,⟨_,old b _ f,rfl,0,rfl⟩⟩
     unfold xH
     rw[e2]
     exact .cons ⟨t,rfl⟩ (.cons ⟨u,rfl⟩ .nil)
 refine⟨.ref _,_,I2,rfl,q _ H1 _ (λb o eb=>?_) hl1 ?_⟩
 ·rw[ak b (YD b (L7 (I.hok.lt eb)))]
  exact eb
 ·have hr:bI X.K H1 (ps.map pD) (as.map V.ref):=Ra as ps hlen λj b p e1 e2=>by
   rw[ni b j (Az hnd e1)]
   unfold xH
   rw[B6,e2]
   rfl
  have:=vU hr qs hin
  rw[tG (λi hi=>by have:=hin i hi;rw[B3]at this;omega),vQ hn (by rw[←hlen];exact hp) hs]at this
  exact this
end
structure M0(X:Cx)(o:Expr)(m:Str)(apos:Pos)(cpos:Pos):Prop where
 base:attributeBase o m X.env (eval o X.env)=eval o X.env
 few:((backTo cpos (starEach [] X.env)).all (λx=>!x.1)&&(backToKw cpos (keywordEach [] X.env)).all (λx=>x.1.isSome)
  && decide (([]:List Expr).length+([]:List Keyword).length+(if([]:List Keyword).isEmpty then 0 else 1)<30))=true
 line:(apos.endLine==cpos.line)=true
 trees:backTo cpos (starEach [] X.env)=[]
section
variable{K:aA}{X:Cx}{o:Expr}{t:TE}{f:FE}{x:Str}{p pos apos cpos:Pos}
theorem Rf(hc:X.calm=true)(ha:PE X o t)(hg:Gl X x)(hm:X.mg x=none)(hv:bootBuiltins x=some (.builtin "sorted")) (m:M0 X o "items" apos cpos) (hn:x ≠ "__name__" := by decide) (hdb:(x==("__debug__" : Str))=false:=by decide)
  (he2:starEach [.Call (.Attribute o "items" apos) [] [] cpos] X.env=[(false,eval (.Call (.Attribute o "items" apos) [] [] cpos) X.env)]:=by rfl) :
  PE X (.Call (.Name x p) [.Call (.Attribute o "items" apos) [] [] cpos] [] pos) (SJ (Gq X.K) t):=by
 intro pins s σ H Q I h
 refine wpAny_Call_Name_kw (zJ I hg hm hv ?_ hn hdb)
 refine O8 ?_ he2 rfl
 rw[he2]
 refine Calls.spliced_cons (wpAny_Call_method m.base m.few m.line R1 R3 PySem.F.type_dict_items (dF (ha pins s σ H _ I h) λu s1 ⟨v,H1,I1,r1,q1⟩=>?_))
 have wg:=q1
 obtain⟨a,ps,rfl,hq,_⟩:=wg
 obtain rfl:u=Value.ref a:=r1
 obtain⟨t1,t2,_⟩:=Og I1 (.inl ⟨_,hq⟩)
 refine⟨t1,t2,?_⟩
 rw[m.trees]
 exact PyProof.Rows.callWith_method0 (env:=X.env) (dF (Xw hc pins s1 σ H1 (.ref a) (.ref a) Q I1 rfl q1) λu' s' z=>Calls.spliced_nil z)
def tV:List Key→List D→Option (List (Int×Int))
 | [],[]=>some []
 | .inl k::ks,.int v::ds=>(tV ks ds).map ((k,v)::·)
 | _,_=>none
theorem Du{H:Hp}:∀{ks:List Key} {ds:List D} {ps:List (Int×Int)} {xs:List V},tV ks ds=some ps→bI K H ds xs→ks.zip xs=Rb ps
 | [],[],ps,xs,h,r=>by unfold tV at h;cases h;rfl
 | [],d::ds,ps,xs,h,r=>by unfold tV at h;cases h
 | k::ks,[],ps,xs,h,r=>by cases k<;>(unfold tV at h;cases h)
 | .inr k::ks,d::ds,ps,xs,h,r=>by unfold tV at h;cases h
 | .inl k::ks,d::ds,ps,xs,h,r=>by
  cases d with
  | int i=>
   unfold tV at h
   obtain⟨qs,h1,rfl⟩:=fJ h
   unfold bI at r
   obtain⟨y,ys,rfl,r1,r2⟩:=r
   unfold Rv at r1
   subst r1
   rw[G7,Du h1 r2]
   rfl
  | _=>unfold tV at h;cases h
def Bb:D→Option D
 | .dk ks ds=>(tV ks ds).bind λps=>if ps.length<64∧(ps.map (·.1)).Nodup then some (.lst ((cM ps).map pD))else none
 | _=>none
theorem Rg(h:XR K X o t f)(m:M0 X o "items" apos cpos) (hg:Gl X x) (hm:X.mg x=none) (hv:bootBuiltins x=some (.builtin "sorted")) (hc:X.calm=true:=by rfl) (hn:x ≠ "__name__" := by decide) (hdb:(x==("__debug__" : Str))=false:=by decide)
  (he2:starEach [.Call (.Attribute o "items" apos) [] [] cpos] X.env=[(false,eval (.Call (.Attribute o "items" apos) [] [] cpos) X.env)]:=by rfl) :
  XN K X (.Call (.Name x p) [.Call (.Attribute o "items" apos) [] [] cpos] [] pos) (SJ (Gq K) t) (ZR Bb f):=⟨h.hk,by have:=h.hk;subst this;exact Rf hc h.pe hg hm hv m hn hdb he2,λσ H e d Q re q k=>by
 obtain⟨d0,q1,q2⟩:=aX q
 unfold Bb at q2
 split at q2
 ·obtain⟨ps,q3,q4⟩:=aX q2
  split at q4
  ·rename_i hl
   cases q4
   refine h.ev σ H H e _ _ (Zn.self K H) re q1 λv H1 Z1 s1 t1 z1 rv=>?_
   have r1:=z1.sm.rv _ _ rv
   unfold Rv at r1
   obtain⟨a,xs,rfl,r2,r3,r4⟩:=r1
   rw[Du q3 r4]at r2
   exact⟨a,ps,rfl,r2,hl.1,hl.2,λl H2 ys s2 hl2 hy=>k _ _ ((s1.trans s2).trans (bM hl2 _)) ((jT s2 (.cF (qC _) hy) hl2).back s1)⟩
  ·cases q4
 ·cases q2⟩
end
end L2


namespace L2
open PySem PySem.W PySem.Spec PyProof.Rows
theorem Mi:typeLookup (.type "list") "keys" = pure none:=am_miss_of_fast (by kernel_rfl)
theorem Mj{prog:Program}{w:World}{A:Around}{E:Value→Shared→Prop}{s:Shared}{a:Addr}{xs:Array Value}{k:Nat}{Q:Option Value→Shared→Prop}
  {sl:Array (Option Value)} (hx:s.heap.get? a=some {cls:=.type "list", dict:=none,data:=.seq xs k,slots:=sl}) (hA:A.handled=none)
  (h:∀h' tk,(∀b o,s.heap.get? b=some o→h'.get? b=some o)→Q none {s with heap:=h',toks:=tk}) :
  wpAny (model prog w) A (getAttr? (.ref a) "keys") Q E s:=by
 obtain⟨hp,g,d,tk,os⟩:=s
 have hT:∀tk',(⟨hp,g,d,tk',os⟩:Shared).TypeIs (.ref a) "list" := λ_=>⟨_,hx,rfl⟩
 have f1:=sub_AttributeError
 have f2:=F.slot_list_getattribute.lookup
 have f3:=F.slot_list_getattribute.bind (.ref a)
 have f4:=am_list_getattr_none
 unfold getAttr? getAttrBy?
 repeat (any_goals (first | assumption | exact hT _ | ((with_reducible show wpAny _ _ (call (Value.builtin "list.__getattribute__") _ _) _ _ _);refine call_meets F.slot_list_getattribute (hT _) am_entry_list_getattribute (F.args_list_getattribute_2 _ _) (meets_getattribute_miss_list a xs k sl "keys" _ Mi (by decide) (by size_fits)) ⟨hx,hA,λh' tk' e hx'=>?_⟩) | wp_step))
 obtain⟨t',u',he⟩:=hx'.there
 show wpAny _ _ (getattributeRaised _ _ _ _ _ _ _) _ _ _
 unfold getattributeRaised
 repeat (any_goals (first | assumption | wp_step))
 exact h h' tk' hx'.keeps
theorem yO:entryFor table "dict.update.loop" = some Builtin.«dict.update.loop»:=entryFor_of_tree (by kernel_rfl)
theorem nC:plainId "dict.update.loop" = true:=by decide +kernel
section
variable{prog:Program}{w:World}{A:Around}{R:Result→Shared→Prop}{I:Addr}{fp wr:List Addr}{G:Array GenState→Array GenState→Prop}{n:Nat}{P:Nat→Value→Prop}{St:Nat→Shared→Prop}
def vV(key:Nat→Int)(val:Nat→Value)(i:Nat):List (Key×Value):=(D7 i).map λj=>(B7 (key j),val j)
theorem Ml(key:Nat→Int)(val:Nat→Value)(i:Nat):vV key val (i+1)=vV key val i++[(B7 (key i),val i)]:=by
 unfold vV
 rw[List.range_succ,G6]
 rfl
theorem Dv{key:Nat→Int}{val:Nat→Value}{i:Nat}(hk:∀j,j<i→key j≠key i):stored (vV key val i) (B7 (key i)) (val i)=vV key val (i+1):=by
 rw[Ml]
 unfold stored
 rw[if_neg]
 intro z
 rw[List.any_eq_true]at z
 obtain⟨kv,h1,h2⟩:=z
 unfold vV at h1
 obtain⟨j,hj,rfl⟩:=G0.mp h1
 rw[K5]at hj
 have h2:=of_decide_eq_true h2
 exact hk j hj (P5 h2)
theorem KZ(W:WalksS prog w A.in1 I fp wr G n P St)(d:Addr)(hf:d∉fp)(adr:Nat→Addr)(key:Nat→Int)(tk:Nat→Tok)(val:Nat→Value)(hP:∀i v,P i v→v=.ref (adr i))(had:∀i,i<n→adr i∉wr∧adr i≠d)(hk:∀i j,i<n→j<n→i≠j→key i≠key j)(hz:n≤sizeLine) :
  ∀(m i:Nat)(s:Shared),n-i=m→i≤n→St i s→s.heap.DictOf (aY prog w) d (vV key val i)→(∀j,j<n→IsTup s.heap (adr j) #[.int (key j) (tk j),val j])→(∀s',Moved (d::wr) G s s'→s'.heap.DictOf (aY prog w) d (vV key val n)→R (.ok (.ret .none)) s') →
   codeAny (model prog w) A (.builtin "dict.update.loop" ⟨[.ref d,.ref I,rawInt (i:Int),.none],[]⟩) R s:=by
 have hw:d∉wr:=λz=>hf (W.sub _ z)
 have sub:∀c∈wr,c∈d::wr:=λc hc=>C9 _ hc
 intro m
 induction m with
 | zero=>
  intro i s hm hi hst hD hT hR
  have e:i=n:=by omega
  subst e
  refine codeAny_builtin yO ?_
  rw[Around.under_plainId nC _]
  show wpAny _ A.in1 (pyNext (.ref I) >>= _) _ _ s
  refine wpAny_bind (W.done s _ _ hst λs' mv=>?_)
  show wpAny _ A.in1 (ret Value.none) _ _ s'
  exact wpAny_pure (hR s' (mv.mono sub) (let ⟨o,es,ep,e,r⟩:=hD;⟨o,es,ep,mv.heap d o hw e,r⟩))
 | succ m ih=>
  intro i s hm hi hst hD hT hR
  have lt:i<n:=by omega
  refine codeAny_builtin yO ?_
  rw[Around.under_plainId nC _]
  show wpAny _ A.in1 (pyNext (.ref I) >>= _) _ _ s
  refine wpAny_bind (W.item i s _ _ lt hst λv s1 hPv st1 mv=>?_)
  obtain rfl:=hP i v hPv
  have D1:s1.heap.DictOf (aY prog w) d (vV key val i):=let ⟨o,es,ep,e,r⟩:=hD;⟨o,es,ep,mv.heap d o hw e,r⟩
  have T1:∀j,j<n→IsTup s1.heap (adr j) #[.int (key j) (tk j),val j]:=λj hj=>let ⟨o,ho,r⟩:=hT j hj;⟨o,mv.heap _ o (had j hj).1 ho,r⟩
  obtain⟨o,ho,hc,k,hd⟩:=T1 i lt
  dsimp only
  refine wpAny_bind (wpAny_holding (wpAny_bind (wpAny_tryCatch ?_)))
  unfold Builtin.Dict.pairItems
  refine wpAny_bind (wpAny_typeOf (show s1.TypeIs (.ref (adr i)) "tuple" from⟨o,ho,hc⟩) ?_)
  rw[if_pos (by decide)]
  refine wpAny_bind (wpAny_seqItems ho hd (wpAny_pure ?_))
  dsimp only[Option.getD_some]
  refine wpAny_holding (wpAny_dictSet_pairs (knd:=aY prog w) (k:=B7 (key i)) (sX _ _ _ _) D1 (λh' D2 sb=>?_) (by unfold vV;rw[B3,K4];omega))
  rw[Dv λj hj=>hk j i (by omega) lt (by omega)]at D2
  refine wpAny_pure ⟨plainId_quiet nC _,?_⟩
  refine ih (i+1) _ (by omega) lt (W.frame _ s1 _ _ st1 (N6 _) λc hc o e=>?_) D2 (λj hj=>?_) λs2 wj D3=>?_
  ·rw[sb.2 c λz=>hf (by rw[←z];exact hc)]
   exact e
  ·obtain⟨o,ho,r⟩:=T1 j hj
   exact⟨o,by rw[sb.2 _ (had j hj).2];exact ho,r⟩
  ·refine hR s2 (Moved.trans W.gtrans ((mv.mono sub).then_heap (N6 _) λc o hc e=>?_) wj) D3
   rw[sb.2 c λz=>hc (by rw[z];exact D4)]
   exact e
variable{E:Value→Shared→Prop}{s:Shared}
theorem Rh{l:Addr}{its:List Value}{ps:List (Int×Int)}{Q:Value→Shared→Prop}(hh:A.handled=none)(hl:PlainL s.heap l its.toArray)(hp:qQ s.heap its ps)(hn:(ps.map (·.1)).Nodup)(hz:ps.length≤1000)
  (h:∀(h':Heap)(tk:Nat)(vs:List (Key×Value)),KV (Rb ps) vs→h'.DictOf (aY prog w) s.heap.objs.size vs→(∀b o,s.heap.get? b=some o→h'.get? b=some o)→Q (.ref s.heap.objs.size) {s with heap:=h',toks:=tk}) :
  wpAny (model prog w) A (call (.type "dict") [.ref l]) Q E s:=by
 have hlen:=hp.length
 obtain⟨adr,iu,us,hat⟩:∃(adr:Nat→Addr)(iu us:Nat→Tok),∀i,i<its.length→its.getD i .none=.ref (adr i)∧IsTup s.heap (adr i) #[.int (xH ps i) (iu i),.int (ps.getD i (0,0)).2 (us i)]:=by
  have hx:∀i,∃(a:Addr)(t u:Tok),i<its.length→its.getD i .none=.ref a∧IsTup s.heap a #[.int (xH ps i) t,.int (ps.getD i (0,0)).2 u]:=λi=>by
   by_cases c:i<its.length
   ·obtain⟨a,t,u,e⟩:=hp.at_ c
    exact⟨a,t,u,λ_=>e⟩
   ·exact⟨0,0,0,λz=>absurd z c⟩
  exact⟨λi=>(hx i).choose,λi=>(hx i).choose_spec.choose,λi=>(hx i).choose_spec.choose_spec.choose,λi hi=>(hx i).choose_spec.choose_spec.choose_spec hi⟩
 obtain⟨ol,nl,hol,hcl,hdl,hsl⟩:=hl
 obtain⟨ocls,odict,odata,oslots⟩:=ol
 simp only at hcl hdl hsl
 subst hcl hdl hsl
 refine callType_codes (Q₁:=λobj s₁=>obj=.ref s.heap.objs.size∧s₁={s with heap:=s.heap.push {cls:=.type "dict", data:=.dict #[]}}) PySem.F.kt_called_dict (PySem.F.kt_typeCall_dict_1 _) PySem.F.entry_dict_init (kt_code_dict_new _ ⟨rfl,rfl⟩) ?_
 rintro obj s₁ ⟨rfl,rfl⟩
 have hnew:(s.heap.push {cls:=.type "dict", data:=.dict #[]}).DictOf (aY prog w) s.heap.objs.size []:=Heap.DictOf.new s.heap
 have hol1:(s.heap.push {cls:=.type "dict", data:=.dict #[]}).get? l=some {cls:=.type "list", dict:=none,data:=.seq its.toArray nl,slots:=oslots}:=Heap.get?_push_of_some _ hol
 have nq:l<s.heap.objs.size:=Heap.lt_size hol
 refine⟨hnew.typeIs,PySem.F.args_dict_init_2 _ _,?_⟩
 unfold Builtin.«dict.__init__»
 refine wpAny_bind ?_
 unfold Builtin.Dict.selfAndRest
 refine wpAny_bind (wpAny_notOrdered_dict hnew.typeIs ?_)
 show wpAny _ _ (pure (s.heap.objs.size,[Value.ref l])) _ _ _
 refine wpAny_pure ?_
 show wpAny _ _ (Builtin.Dict.updateFrom "dict.__init__" s.heap.objs.size (.ref l) [] .none) _ _ _
 unfold Builtin.Dict.updateFrom
 refine wpAny_bind (wpAny_typeOf (show Shared.TypeIs _ (.ref l) "list" from⟨_,hol1,rfl⟩) ?_)
 rw[if_pos (by decide)]
 refine wpAny_bind (Mj (A:=A.in1.in1) hol1 hh λh2 tk2 ao=>?_)
 rw[if_pos (show (none:Option Value).isNone=true from rfl)]
 refine wpAny_bind (wpAny_rule ?_)
 have hol2:h2.get? l=some {cls:=.type "list", dict:=none,data:=.seq its.toArray nl,slots:=oslots}:=ao _ _ hol1
 have hL2:h2.IsList l its.toArray:=⟨_,hol2,rfl,nl,rfl⟩
 have hd2:h2.DictOf (aY prog w) s.heap.objs.size []:=let ⟨o,es,ep,e,r⟩:=hnew;⟨o,es,ep,ao _ _ e,r⟩
 have aq:s.heap.objs.size<h2.objs.size:=let ⟨o,es,ep,e,r⟩:=hd2;Heap.lt_size e
 refine wpAny_bind (wpAny_pyIter_list hL2 ?_)
 refine wpAny_pure ⟨plainId_quiet nC _,?_⟩
 have iw:l<h2.objs.size:=O9 nq aq
 have hsz:its.toArray.size=its.length:=B4
 have nf:s.heap.objs.size∉[h2.objs.size,l]:=λz=>by
  rcases D6.mp z with z | z
  ·exact absurd z (C4 aq)
  ·exact absurd (F7.mp z) (O7 nq)
 have hadr:∀i,i<its.length→adr i<s.heap.objs.size∧adr i≠l:=λi hi=>by
  obtain⟨o,ho,hc,_⟩:=(hat i hi).2
  refine⟨Heap.lt_size ho,λz=>?_⟩
  rw[z,hol]at ho
  cases ho
  exact absurd (show Value.type "list" = Value.type "tuple" from hc) (by decide)
 refine KZ ((Walks.list (A:=A.in1.in1) hh h2.objs.size l (C4 iw) its.toArray).toS) s.heap.objs.size nf adr (xH ps) iu (λi=>.int (ps.getD i (0,0)).2 (us i)) (λi v hv=>?_) (λi hi=>?_) (rJ hn (by omega)) (by rw[sizeLine_eq];omega) (its.toArray.size-0) 0 _ rfl (K0 _) ⟨⟨_,Heap.get?_push_size _ rfl,rfl,rfl⟩,hL2.push _⟩ (hd2.push _) (λj hj=>?_) λs' mv D'=>?_
 ·have hi:i<its.length:=by
   rw[←hsz]
   exact(Array.getElem?_eq_some_iff.mp hv).1
  have e:=(hat i hi).1
  rw[B6]at e
  rw[S7]at hv
  rw[hv]at e
  exact e
 ·rw[hsz]at hi
  obtain⟨x,y⟩:=hadr i hi
  refine⟨λz=>?_,C4 x⟩
  have z:adr i=h2.objs.size:=by simpa using z
  rw[z]at x
  exact absurd (O9 x aq) (G1 _)
 ·rw[hsz]at hj
  obtain⟨o,ho,r⟩:=(hat j hj).2
  exact⟨o,Heap.get?_push_of_some _ (ao _ _ (Heap.get?_push_of_some _ ho)),r⟩
 ·obtain⟨h',g',d',tk',os'⟩:=s'
  have eg:g'=s.gens:=mv.gens
  have ed:d'=s.drawn:=mv.drawn
  have eo:os'=s.os:=mv.os
  subst eg ed eo
  refine⟨rfl,h h' tk' _ ?_ D' λb o e=>?_⟩
  ·rw[hsz,hlen]
   unfold vV Rb
   have gen:∀(qs:List (Int×Int))(f:Nat→Value)(g:Nat→Int),(∀i,i<qs.length→g i=xH qs i∧∃u,f i=.int (qs.getD i (0,0)).2 u)→KV (qs.map λp=>((B7 p.1:Key),V.int p.2)) ((D7 qs.length).map λj=>((B7 (g j):Key),f j)):=by
    intro qs
    induction qs with
    | nil=>intro f g _;exact .nil
    | cons q qs ih=>
     intro f g hh
     rw[F3,List.range_succ_eq_map,B5,B5,N1]
     obtain⟨h1,u,h2⟩:=hh 0 (Nat.succ_pos _)
     refine .cons ⟨?_,?_⟩ (ih (λi=>f (i+1)) (λi=>g (i+1)) λi hi=>hh (i+1) (Nat.succ_lt_succ hi))
     ·show (B7 q.1:Key)=B7 (g 0)
      rw[h1]
      rfl
     ·show RelV (.int q.2) (f 0)
      rw[h2]
      exact⟨u,rfl⟩
   exact gen ps _ _ λi hi=>⟨rfl,us i,rfl⟩
  ·have lb:=Heap.lt_size e
   refine mv.heap b o (λz=>?_) (Heap.get?_push_of_some _ (ao _ _ (Heap.get?_push_of_some _ e)))
   rcases D6.mp z with z | z
   ·exact absurd z (C4 lb)
   ·have:=F7.mp z
    exact absurd this (C4 (O9 lb aq))
end
end L2


namespace L2
open PySem PySem.W PySem.Spec PyProof.Rows
mutual
def Ng:D→Nat→Bool
 | .int _,_=>true
 | .str _,_=>true
 | .lst ds,n+1=>kY ds n
 | .tup ds,n+1=>kY ds n
 | _,_=>false
def kY:List D→Nat→Bool
 | [],_=>true
 | d::ds,n=>Ng d n&&kY ds n
end
theorem Dw:∀{ds:List D} {n i:Nat} {d:D},kY ds n=true→ds[i]?=some d→Ng d n=true
 | [],n,i,d,h,e=>by simp at e
 | d'::ds,n,0,d,h,e=>by
  unfold kY at h
  rw[J6]at h
  have e:d'=d:=by simpa using e
  rw[←e];exact h.1
 | d'::ds,n,i+1,d,h,e=>by
  unfold kY at h
  rw[J6]at h
  exact Dw h.2 (by simpa using e)
section
open SeqAt
variable{X:Cx}{pins:List (Addr×Obj)}{σ:St}{H:Hp}{s:Shared}
theorem Bc(n:Nat):((D7 n).all λ_=>true)=true:=by simp
theorem oU{n:Nat}(ih:∀(d:D)(x y:V)(u v:Value)(A:Around),Ng d n=true→A.units+n<cLine→Rv X.K H d x→Rv X.K H d y→RelV x u→RelV y v→EqAt A s u v true){A:Around}{ds:List D}{xs ys:List V}{us vs:List Value}(hd:kY ds n=true)(hu:A.units+(n+1)<cLine)(r1:bI X.K H ds xs)(r2:bI X.K H ds ys)(v1:Vals xs us)(v2:Vals ys vs) :
  ∀j (h1:j<us.toArray.size) (h2:j<vs.toArray.size),EqAt A.in1 s us.toArray[j] vs.toArray[j] ((λ_=>true) j):=by
 intro j h1 h2
 have l1:j<ds.length:=by rw[←r1.length,v1.length];simpa using h1
 obtain⟨x,ex,rx⟩:=r1.get (i:=j) (d:=ds[j]) (by simp)
 obtain⟨y,ey,ry⟩:=r2.get (i:=j) (d:=ds[j]) (by simp)
 obtain⟨u,eu,ru⟩:=v1.get ex
 obtain⟨v,ev,rv⟩:=v2.get ey
 have e1:us.toArray[j]=u:=by
  rw[B8]at eu
  obtain⟨_,eu⟩:=eu
  simpa using eu
 have e2:vs.toArray[j]=v:=by
  rw[B8]at ev
  obtain⟨_,ev⟩:=ev
  simpa using ev
 rw[e1,e2]
 exact ih _ x y u v A.in1 (Dw hd (B0 l1)) (by rw[uU];omega) rx ry ru rv
theorem Xx(I:Inv X pins σ H s):∀(n:Nat)(d:D)(x y:V)(u v:Value)(A:Around),Ng d n=true→A.units+n<cLine→Rv X.K H d x→Rv X.K H d y→RelV x u→RelV y v→EqAt A s u v true:=by
 have flat:∀(d:D)(x y:V)(u v:Value)(A:Around),(∃i,d=.int i)∨(∃t,d=.str t)→Rv X.K H d x→Rv X.K H d y→RelV x u→RelV y v→EqAt A s u v true:=by
  rintro d x y u v A (⟨i,rfl⟩ | ⟨t,rfl⟩) r1 r2 rx ry
  ·unfold Rv at r1 r2
   subst r1 r2
   obtain⟨t1,rfl⟩:=rx
   obtain⟨t2,rfl⟩:=ry
   have:=EqAt.int_int (A:=A) (s:=s) i t1 i t2
   rw[beq_self_eq_true]at this
   exact this
  ·unfold Rv at r1 r2
   subst r1 r2
   obtain⟨t1,rfl⟩:=rx
   obtain⟨t2,rfl⟩:=ry
   have:=EqAt.str_str (A:=A) (s:=s) t t1 t t2
   rw[beq_self_eq_true]at this
   exact this
 intro n
 induction n with
 | zero=>
  intro d x y u v A hd hu r1 r2 rx ry
  cases d with
  | int i=>exact flat _ x y u v A (.inl ⟨i,rfl⟩) r1 r2 rx ry
  | str t=>exact flat _ x y u v A (.inr ⟨t,rfl⟩) r1 r2 rx ry
  | _=>unfold Ng at hd;cases hd
 | succ n ih=>
  intro d x y u v A hd hu r1 r2 rx ry
  cases d with
  | int i=>exact flat _ x y u v A (.inl ⟨i,rfl⟩) r1 r2 rx ry
  | str t=>exact flat _ x y u v A (.inr ⟨t,rfl⟩) r1 r2 rx ry
  | lst ds=>
   unfold Ng at hd
   unfold Rv at r1 r2
   obtain⟨a,xs,rfl,a1,a2⟩:=r1
   obtain⟨b,ys,rfl,b1,b2⟩:=r2
   cases rx
   cases ry
   by_cases hab:a=b
   ·subst hab;exact EqAt.same _
   obtain⟨uV,v1,qP,_⟩:=I.list a1
   obtain⟨its2,v2,tZ,_⟩:=I.list b1
   have z:=RcAt.lists (A:=A) (s:=s) qP.isList tZ.isList (by rw[B4,B4,←v1.length,←v2.length,a2.length,b2.length]) (by omega) (oU ih hd (by omega) a2 b2 v1 v2)
   rw[Bc]at z
   exact EqAt.of_refs hab z
  | tup ds=>
   unfold Ng at hd
   unfold Rv at r1 r2
   obtain⟨a,xs,rfl,a1,a2⟩:=r1
   obtain⟨b,ys,rfl,b1,b2⟩:=r2
   cases rx
   cases ry
   by_cases hab:a=b
   ·subst hab;exact EqAt.same _
   obtain⟨uV,v1,qP,_⟩:=I.tuple a1
   obtain⟨its2,v2,tZ,_⟩:=I.tuple b1
   have z:=RcAt.tuples (A:=A) (s:=s) qP tZ (by omega) (oU ih hd (by omega) a2 b2 v1 v2)
   rw[Bc,show uV.toArray.size=its2.toArray.size by rw[B4,B4,←v1.length,←v2.length,a2.length,b2.length],beq_self_eq_true]at z
   exact EqAt.of_refs hab z
  | _=>unfold Ng at hd;cases hd
end
section
open SeqAt
variable{K:aA}{X:Cx}
def LC(K:aA)(c:Bool):R2:=λx y H Q=>∃ds,kY ds 32=true∧Rv K H (.lst ds) x∧Rv K H (.lst ds) y∧Q (.bl c) H
theorem LK(hu:X.A.units+64<cLine):nR X (compareOp .Eq) (LC X.K true):=by
 intro pins s σ H x y v u Q I rx ry h
 obtain⟨ds,hd,r1,r2,q⟩:=h
 unfold Rv at r1 r2
 obtain⟨a,xs,rfl,a1,a2⟩:=r1
 obtain⟨b,ys,rfl,b1,b2⟩:=r2
 cases rx
 cases ry
 obtain⟨uV,v1,qP,_⟩:=I.list a1
 obtain⟨its2,v2,tZ,_⟩:=I.list b1
 have z:=RcAt.lists (A:=X.A) (s:=s) qP.isList tZ.isList (by rw[B4,B4,←v1.length,←v2.length,a2.length,b2.length]) (by omega) (oU (Xx I 32) hd (by omega) a2 b2 v1 v2)
 rw[Bc]at z
 exact z X.prog X.w X.xe _ ⟨.bl _,H,I,rfl,q⟩
open Classical in
noncomputable def Ri(c:Bool)(a b:D):Option D:=match a with
 | .lst ds=>if b=.lst ds∧kY ds 32=true then some (.bl c)else none
 | _=>none
theorem LQ(c:Bool):Mz K (LC K c) (Ri c):=λx y H a b d Q ra rb q k=>by
 unfold Ri at q
 split at q
 ·split at q
  ·rename_i h
   cases q
   rw[h.1]at rb
   exact⟨_,h.2,ra,rb,k _ H (aH.refl _) (.fO rfl (by unfold Rv;rfl))⟩
  ·cases q
 ·cases q
theorem LR(hu:X.A.units+64<cLine)(hk:X.K=K):nR X (compareOp .Eq) (LC K true):=by subst hk;exact LK hu
end
section
variable{K:aA}{X:Cx}
def Gr(K:aA):List V→Hp→VK→Prop:=λxs H Q=>∃(p:Addr)(zs:List V)(ps:List (Int×Int)),xs=[.ref p]∧iY K H p zs∧bI K H (ps.map pD) zs∧ps.length≤1000∧(ps.map (·.1)).Nodup∧∀l,H l=none→Q (.ref l) (upd H l (.dK (Rb ps)))
theorem Gs(hc:X.calm=true):fM X (.type "dict") (Gr X.K):=by
 intro pins s σ H xs us Q I r h
 obtain⟨p,zs,ps,rfl,hq,hr,hz,hn,q⟩:=h
 obtain⟨u,rfl,rx⟩:=vals1 r
 cases rx
 obtain⟨its,rv,pl,_⟩:=I.list hq
 refine Rh (I.ok.hd hc) pl (vR I hr rv) hn hz λh' tk vs kv dd kp=>?_
 refine⟨.ref _,_,I.laid (t':=tk) (a:=s.heap.objs.size) (o:=.dK (Rb ps)) kp (B9 _) ?_,rfl,q _ (I.hok.fresh (B9 _))⟩
 exact Fo (by unfold Rb;rw[B3,sizeLine_eq];omega) (beq_eq_false_iff_ne.mpr (Ne.symm (C4 I.big))) kv dd
def vW:List D→Option D
 | [.lst ds]=>(nY ds).bind λps=>if ps.length≤1000∧(ps.map (·.1)).Nodup then some (.dk (ps.map λp=>.inl p.1) (ps.map λp=>.int p.2))else none
 | _=>none
theorem Jq:∀ps:List (Int×Int),(ps.map λp=>(B7 p.1:Key)).zip (ps.map λp=>V.int p.2)=Rb ps
 | []=>rfl
 | p::ps=>by rw[B5,B5,G7,Jq ps];rfl
theorem Dy{H:Hp}:∀ps:List (Int×Int),cA K H (ps.map λp=>D.int p.2) nil (ps.map λp=>V.int p.2)
 | []=>by rw[F5,F5];unfold cA;exact⟨λ_ z=>z,rfl⟩
 | p::ps=>by
  rw[B5,B5]
  unfold cA
  refine⟨_,_,nil,nil,rfl,λ_ z=>z.elim,λx=>⟨.inl,λz=>z.elim id id⟩,?_,Dy ps⟩
  unfold Ow
  exact⟨λ_ z=>z,rfl⟩
theorem Dz:vH K (Gr K) vW:=λvs H ds d Q rs q k=>by
 unfold vW at q
 split at q
 ·obtain⟨ps,q1,q2⟩:=aX q
  split at q2
  ·rename_i hl
   cases q2
   obtain⟨v,rfl,r⟩:=Ag rs
   rw[oR q1]at r
   unfold Rv at r
   obtain⟨p,zs,rfl,r2,r3⟩:=r
   refine⟨p,zs,ps,rfl,r2,r3,hl.1,hl.2,λl hl=>k _ _ (bM hl _) ⟨(·=l),?_,λa z=>by cases z;exact hl⟩⟩
   unfold Ow
   exact⟨l,ps.map λp=>V.int p.2,nil,rfl,by rw[Jq];exact bB,by rw[B3,B3],λz=>z,λx=>⟨.inl,λz=>z.elim id False.elim⟩,Dy ps⟩
  ·cases q2
 ·cases q
theorem Ea(hk:X.K=K)(hc:X.calm=true):fM X (.type "dict") (Gr K):=by subst hk;exact Gs hc
end
end L2


namespace L2
open PySem PySem.W PySem.Spec PyProof.Rows
def oV{β:Type}:List Key→List β→Key→List β
 | a::ks,d::ds,k=>if a=k then oV ks ds k else d::oV ks ds k
 | _,_,_=>[]
def Gu(ks:List Key)(k:Key):List Key:=ks.filter λa=>decide (a≠k)
theorem yP{k:Key}:∀{ks:List Key} {xs:List V},ks.length=xs.length→uM (ks.zip xs) k=(Gu ks k).zip (oV ks xs k)∧(Gu ks k).length=(oV ks xs k).length
 | [],xs,_=>⟨rfl,by cases xs<;>rfl⟩
 | a::ks,[],h=>by simp at h
 | a::ks,x::xs,h=>by
  obtain⟨h1,h2⟩:=yP (k:=k) (ks:=ks) (xs:=xs) (by simpa using h)
  unfold uM at h1 ⊢
  unfold Gu at h1 h2 ⊢
  unfold oV
  rw[G7,M3,M3]
  by_cases c:a=k
  ·rw[if_neg (by simp[c]),if_neg (by simp[c]),if_pos c]
   exact⟨h1,h2⟩
  ·rw[if_pos (by simp[c]),if_pos (by simp[c]),if_neg c,G7,h1]
   exact⟨rfl,by rw[F3,F3,h2]⟩
section
variable{K:aA}{X:Cx}{e a b c:Expr}{ta tb te:TE}{f g:FE}{pos:Pos}{i j:Nat}{π:FP}{tc:TT}{fc:FT}
theorem Jr{H:Hp}(k:Key):∀{ks:List Key} {ds:List D} {A:Fp} {xs:List V},ks.length=xs.length→cA K H ds A xs→∃A',(∀x,A' x→A x)∧cA K H (oV ks ds k) A' (oV ks xs k)
 | [],ds,A,xs,hl,h=>by
  cases xs with
  | nil=>exact⟨nil,λ_ z=>z.elim,by cases ds<;>(unfold oV cA;exact⟨λ_ z=>z,rfl⟩)⟩
  | cons x xs=>simp at hl
 | k0::ks,[],A,xs,hl,h=>by unfold cA at h;rw[h.2]at hl;simp at hl
 | k0::ks,d0::ds,A,xs,hl,h=>by
  unfold cA at h
  obtain⟨y,yt,A1,A2,rfl,h2,h3,h4,h5⟩:=h
  obtain⟨A',a1,a2⟩:=Jr k (ks:=ks) (by simpa using hl) h5
  unfold oV
  by_cases c:k0=k
  ·rw[if_pos c,if_pos c]
   exact⟨A',λx q=>(h3 x).mpr (.inr (a1 x q)),a2⟩
  ·rw[if_neg c,if_neg c]
   refine⟨dH A1 A',λx q=>(h3 x).mpr (q.imp id (a1 x)),?_⟩
   unfold cA
   exact⟨y,_,A1,A',rfl,λx z1 z2=>h2 x z1 (a1 x z2),λ_=>Iff.rfl,h4,a2⟩
def yQ(i:Nat)(π:FP)(g:FE):GS:=λenv=>match env[i]?,π (rE env),g (rE env)with
 | some (.own d0),some p,some k=>(match pW p d0,Ln k with
  | some (.dk ks ds),some k=>if(posK ks k).isSome=true then .next (env.set i (.own (pX p d0 (.dk (Gu ks k) (oV ks ds k)))))else .bad
  | _,_=>.bad)
 | _,_,_=>.bad
theorem Xy(h:ZP K ta i π)(hx:Aa K tb g):WD K (kI (Fv ta tb)) (yQ i π g):=λB E σ H env r p=>by
 unfold yQ at p
 split at p
 ·rename_i d0 pp kd q1 q2 q3
  split at p
  ·rename_i ks ds k q4 q5
   split at p
   ·rename_i hc
    obtain⟨v0,a,xs,Bs,k1,k2,k3,Zt,k4,k5,k6⟩:=r.WM q1 q4
    refine h σ H (rE env) v0 pp _ _ r.r k1 q2 k2 λH2 s2=>?_
    refine⟨a,rfl,.inl ⟨_,.of (s2 _ _ k3)⟩,hx σ H2 H2 (rE env) _ _ (Zn.self K H2) (r.r.same s2) q3 λy' H3 Z3 s3 t3 z3 gf=>?_⟩
    have iy:=s2.trans s3
    have ek:=uB q5 (z3.sm.rv _ _ gf)
    obtain⟨j,hj⟩:=L8.mp hc
    have hjl:j<xs.length:=by have:=(uA hj).1;omega
    obtain⟨e1,e2⟩:=yP (k:=k) Zt
    obtain⟨A',a1,a2⟩:=Jr k Zt (k5.same iy)
    refine⟨ks.zip xs,k,xs[j],iy _ _ k3,ek,by rw[jA Zt,hj,C7,B0 hjl],p _ ?_⟩
    rw[e1]
    exact k6 H3 (Gu ks k) (oV ks ds k) (oV ks xs k) A' iy e2 a2 λb z=>.inl (a1 b z)
   ·exact p.elim
  ·exact p.elim
 ·exact p.elim
theorem Xz{apos cpos:Pos}(h:XP K X a ta i π)(hx:XR K X b tb g)(m:M1 X a "pop" apos b cpos):YS K X (.Expr (.Call (.Attribute a "pop" apos) [b] [] cpos) pos) (kI (Fv ta tb)) (yQ i π g):=⟨zK (Oh h.pe hx.pe m),(Xy h.ev hx.ev).ds⟩
def YF(K:aA)(wi:TI)(fi:FA):Prop:=∀(σ:St)(H:Hp)(e:DE)(ds:List D)(R:It→Hp→Prop),mY K H e σ→fi e=some ds→(∀J H' P vs,aH H H'→GX J P vs→(∀H2,aH H' H2→P H2)→bI K H' ds vs→R J H')→wi σ H R
theorem Rj{wi:TI}{fi:FA}{fr:List Nat}{te:TE}{fe:FE}(hi:YF K wi fi)(hc:My K tc fc)(he:Ab K te fe):Ab K (Cv wi 1 fr (cO 0) tc te) (yM fi fr fc fe):=by
 intro σ H e d Q re q k
 unfold yM at q
 obtain⟨xs,q1,q⟩:=aX q
 split at q
 ·rename_i hlen
  obtain⟨ds,q2,rfl⟩:=fJ q
  refine hi σ H e xs _ re q1 λJ H1 P vs s1 hJ hP rvs=>?_
  intro D0 hD
  have hl:=rvs.length
  have wk:H D0=none:=s1.free hD
  generalize hcc:(λx=>fc (some x::lQ e fr))=cc at q2
  generalize hel:(λx=>fe (some x::lQ e fr))=el at q2
  refine⟨λi m ys H2=>∃RN au A,m=vs.length-i∧i≤vs.length∧ds=RN++au∧pR cc el (xs.drop i)=some au∧aH H1 H2∧H2 D0=some (.lst ys)∧cA K H2 RN A ys∧(∀a,A a→H1 a=none∧a≠D0)∧ys.length≤i,
   ⟨vs.length,[],ds,nil,by simp,K0 _,rfl,by simpa using q2,bM hD _,bB,by unfold cA;exact⟨λ_ z=>z,rfl⟩,λ_ z=>z.elim,B9 _⟩,?_⟩
  rintro i m ys H2 ⟨RN,au,A,rfl,hi',hds,hcl,s2,hD2,ow,fr2,hyl⟩
  obtain⟨j1,j2,j3⟩:=hJ i H2 (hP H2 s2)
  refine⟨hD2,?_⟩
  by_cases hlt:i<vs.length
  ·refine .inr ⟨j1 hlt,λx H' y=>?_⟩
   obtain⟨e1,ex⟩:=j2 x H' y
   subst e1
   have hx:=ex hlt
   have hxi:i<xs.length:=by omega
   have hxs:xs.drop i=xs[i]::xs.drop (i+1):=L6 hxi
   obtain⟨x',hx',rx⟩:=rvs.get (B0 hxi)
   rw[hx]at hx'
   cases hx'
   rw[hxs]at hcl
   unfold pR at hcl
   obtain⟨bb,c1,c2⟩:=aX hcl
   show Kp 1 σ fr (some x::Fw σ fr)∧_
   refine⟨⟨by simp[blk],λj v hv=>?_⟩,?_⟩
   ·cases j with
    | zero=>simp[blk]at hv
    | succ j=>simpa[blk]using hv
   have nu:mY K H' (some xs[i]::lQ e fr) (some x::Fw σ fr):=Wx (re.same (s1.trans s2)) (s2.rv _ _ rx)
   refine hc _ H' _ bb _ nu (by rw[←hcc]at c1;exact c1) λH3 s3=>?_
   have iz:=s3 _ _ hD2
   cases bb with
   | false=>
    rw[if_neg (by decide)]at c2 ⊢
    exact⟨vs.length-(i+1),by omega,RN,au,A,rfl,by omega,hds,c2,s2.trans s3,iz,ow.same s3,fr2,by omega⟩
   | true=>
    rw[if_pos rfl]at c2 ⊢
    obtain⟨dy,c3,c4⟩:=aX c2
    obtain⟨wu,c5,rfl⟩:=fJ c4
    refine he _ H3 _ dy _ (nu.same s3) (by rw[←hel]at c3;exact c3) λyv H4 s4 n4=>?_
    have oh:=s4 _ _ iz
    refine⟨oh,Ph (by omega),vs.length-(i+1),by omega,RN++[dy],wu,?_⟩
    obtain⟨B,oB,fB⟩:=n4
    have hB:∀a,B a→H1 a=none∧a≠D0:=λa qa=>⟨(s2.trans s3).free (fB a qa),λz=>by have q0:=fB a qa;rw[z,iz]at q0;cases q0⟩
    refine⟨dH A B,rfl,by omega,by rw[hds];simp,c5,λb o eb=>?_,bB,?_,λa qa=>qa.elim (fr2 a) (hB a),by rw[F1];simp;exact hyl⟩
    ·rw[aR (cP eb hD)]
     exact(s2.trans (s3.trans s4)) b o eb
    ·have o4:=(ow.same s3).same s4
     have ap:Apart A B:=λa qa qb=>by
      obtain⟨⟨u,eu⟩,_⟩:=cA.cells _ _ _ (ow.same s3) a qa
      rw[fB a qb]at eu;cases eu
     have all:cA K H4 (RN++[dy]) (dH A B) (ys++[yv]):=dI.mpr ((dI.mp o4).snoc oB ap)
     exact cA.frame (rC (mX oh)) _ _ _ all λa qa=>aR (qa.elim (λz=>(fr2 a z).2) λz=>(hB a z).2)
  ·have ei:i=vs.length:=by omega
   subst ei
   have:xs.drop vs.length=[]:=List.drop_eq_nil_of_le (by omega)
   rw[this]at hcl
   unfold pR at hcl
   cases hcl
   rw[R5]at hds
   subst hds
   refine .inl ⟨j3 (B9 _),k _ H2 (s1.trans s2) ⟨dH (·=D0) A,?_,λa qa=>qa.elim (λz=>by cases z;exact wk) λz=>s1.free (fr2 a z).1⟩⟩
   unfold Ow
   exact⟨D0,ys,A,rfl,hD2,λz=>(fr2 D0 z).2 rfl,λ_=>Iff.rfl,ow⟩
 ·cases q
def ou(a:Addr)(o:Obj)(kvs:List (Key×V)):TI:=λ_ H R=>H a=some (.gW o (.dK kvs))→R (ZM a o kvs) H
theorem Rk{H:Hp}:∀{ks:List Key} {xs:List V},ks.length=xs.length→bI K H (ks.map kD) ((ks.zip xs).map λkv=>kV kv.1)
 | [],xs,_=>by rw[F5,List.zip_nil_left,F5];unfold bI;rfl
 | k::ks,[],h=>by simp at h
 | k::ks,x::xs,h=>by
  rw[B5,G7,B5]
  unfold bI
  refine⟨_,_,rfl,?_,Rk (by simpa using h)⟩
  cases k with
  | inl i=>unfold kD Rv;rfl
  | inr x=>unfold kD Rv;rfl
theorem MF{a:Addr}{o:Obj}{ks:List Key}{xs:List V}(hl:ks.length=xs.length):YF K (ou a o (ks.zip xs)) (λ_=>some (ks.map kD)):=λσ H e ds R re q k=>by
 cases q
 exact λhf=>k _ H _ _ (aH.refl _) Oo (λH2 s=>s _ _ hf) (Rk hl)
theorem Rm{B:Hp}{env:EN}{σ:St}{H:Hp}{ks:List Key}{ds:List D}{ns:List Int}(r:Rel K B env σ H)(e:env[i]?=some (.own (.dk ks ds)))(hn:intsOf ds=some ns):∃a xs,σ[i]?=some (some (.ref a))∧H a=some (.dK (ks.zip xs))∧ks.length=xs.length ∧
  ∀o,Rel K B (env.set i (.fro (.dk ks ds))) σ (upd H a (.gW o (.dK (ks.zip xs)))):=by
 obtain⟨A,a0,bb⟩:=r
 have cl:=dX a0
 obtain⟨y,A1,C,h1,h2,h3,h4,k⟩:=a0.focus e
 have h4':=h4
 obtain⟨v,rfl,ow⟩:=h4
 unfold Ow at ow
 obtain⟨a,xs,Bs,rfl,o2,o2',o3,o4,o5⟩:=ow
 refine⟨a,xs,h1,o2,o2',λo=>?_⟩
 have ha1:A1 a:=(o4 a).mpr (.inl rfl)
 have haC:¬C a:=λz=>h2 a ha1 z
 have tk:qT K H (upd H a (.gW o (.dK (ks.zip xs)))):=rC (pI o2)
 have g:aH (out H A) (out (upd H a (.gW o (.dK (ks.zip xs)))) (dH nil C)):=λx u ex=>by
  obtain⟨e1,e2⟩:=aZ.mp ex
  have na:x≠a:=λz=>e1 ((h3 x).mpr (.inl (z▸ha1)))
  exact aZ.mpr ⟨λz=>e1 ((h3 x).mpr (.inr (z.elim False.elim id))),by rw[aR na];exact e2⟩
 have za:out (upd H a (.gW o (.dK (ks.zip xs)))) (dH nil C) a=some (.gW o (.dK (ks.zip xs))):=aZ.mpr ⟨λz=>z.elim id haC,bB⟩
 have hxs:xs=ns.map V.int:=by
  have:=cA.rv _ _ _ o5
  rw[lO hn]at this
  exact jC.mp this
 have key:=k (fP K (upd H a (.gW o (.dK (ks.zip xs)))) (out (upd H a (.gW o (.dK (ks.zip xs)))) (dH nil C))) (λsd D z hb qq=>by
  have fm:∀x,D x→upd H a (.gW o (.dK (ks.zip xs))) x=H x:=λx zx=>aR λw=>haC (w▸hb x zx)
  cases sd with
  | no=>exact qq
  | fro d=>obtain⟨q1,v,q2,q3⟩:=qq;exact⟨q1,v,q2,g.rv _ _ q3⟩
  | inn v d=>exact⟨qq.1,Ow.frame tk _ _ _ qq.2 fm⟩
  | own d=>obtain⟨v,q1,q2⟩:=qq;exact⟨v,q1,Ow.frame tk _ _ _ q2 fm⟩) (.fro (.dk ks ds)) (some (.ref a)) nil (λ_ z=>z.elim) ⟨λ_ z=>z,_,rfl,by
   unfold Rv
   refine⟨a,xs,rfl,.inr ⟨o,za⟩,o2',?_⟩
   rw[lO hn]
   exact jC.mpr hxs⟩
 rw[set_same h1]at key
 exact⟨dH nil C,key,bb.trans g⟩
def Bd(ks:List Key)(fr:List Nat)(fe:FE):FE:=fL Ay (aB (yM (λ_=>some (ks.map kD)) fr Pz fe) aF)
def yR(t i:Nat)(fr:List Nat)(fe:FE):GS:=λenv=>match env[t]? with
 | some (.own (.dk ks ds))=>(match intsOf ds with
  | some _=>bT i (Bd ks fr fe) (env.set t (.fro (.dk ks ds)))
  | none=>.bad)
 | _=>.bad
theorem Yb{t:Nat}{fr:List Nat}{fe:FE}(he:Ab K te fe):DS K (xJ (Nz (rM K) (cY (Cv (Oq (iW t)) 1 fr (cO 0) Oj te) lD)) (cO i)) (yR t i fr fe):=λB E σ H env r p=>by
 unfold yR at p
 split at p
 case h_2=>exact p.elim
 rename_i ks ds q
 split at p
 case h_2=>exact p.elim
 rename_i ns hn
 obtain⟨a,xs,k1,k2,k3,k4⟩:=Rm r q hn
 refine⟨_,k1,a,ks.zip xs,rfl,k2,λo=>?_⟩
 have hT:My K Oj Pz:=λσ H e b Q re q k=>by cases q;exact k H (aH.refl _)
 have ev:Ab K (Nz (rM K) (cY (Cv (ou a o (ks.zip xs)) 1 fr (cO 0) Oj te) lD)) (Bd ks fr fe):=Pu Qx (Im (Rj (MF k3) hT he).r Pg)
 exact(Qc (i:=i) ev) B E σ _ _ (k4 o) p bB
theorem Yc{tg elt iter:Expr}{scope:Scope}{fr:List Nat}{fe:FE}{t:Nat}{x y:Str}{p2 p3 p4 pos':Pos}(N:List Str)(hcalm:X.calm=true)(B:eO X.env.scope scope X.N N 1 fr)(hv:PE X iter (iW t))
  (hg:∀cl fp s H C,PG (gZ X scope N cl fp s H C) tg (cO 0)) (he:∀cl fp s H C,XN K (gZ X scope N cl fp s H C) elt te fe) (hk:X.K=K)
  (wy:Gl X y) (hm:X.mg y=none) (hb:bootBuiltins y=some (.builtin "sorted")) (hN:X.N.Nodup) (hi:X.N[i]?=some x) (hx:Loc X.env.scope x)
  (hs:∀x,foldedSetIterable iter X.env x=pure x:=by intro _;rfl) (hn:y ≠ "__name__" := by decide) (hdb:(y==("__debug__" : Str))=false:=by decide)
  (hst:starEach [.ListComp elt [⟨tg,iter,[],0⟩] scope p4] X.env=(false,eval (.ListComp elt [⟨tg,iter,[],0⟩] scope p4) X.env)::starEach [] X.env:=by rfl)
  (hpl:(backTo p3 (starEach [] X.env)).any (·.1)=false:=by rfl)
  (hsw:swapsWith (.Call (.Name y p2) [.ListComp elt [⟨tg,iter,[],0⟩] scope p4] [] p3) (some (.Name x pos')) pos.line X.env=pure false:=by rfl)
  (hf:X.fn x=true∨X.env.scope.names.lookup x=some .local:=by first | exact .inl rfl | exact .inr rfl | assumption) :
  YS K X (.Assign [.Name x pos'] (.Call (.Name y p2) [.ListComp elt [⟨tg,iter,[],0⟩] scope p4] [] p3) pos) (xJ (Nz (rM K) (cY (Cv (Oq (iW t)) 1 fr (cO 0) Oj te) lD)) (cO i)) (yR t i fr fe):=
 ⟨bH hN hi hx (lE (Qy hk) wy hm hb (bN (We N 1 fr hcalm B (Wh hv) hg (λcl fp s H C=>Wb) (λcl fp s H C=>(he cl fp s H C).pe) hs) iU hst) hn hdb hst hpl) hsw hf,Yb (he [] [] X.s₀ X.H₀ 0).ev⟩
end
end L2


namespace L2
open PySem PySem.W PySem.Spec PyProof.Rows
section
open SeqAt
variable{K:aA}{X:Cx}
def MJ(K:aA):R2:=λx y H Q=>∃(a b:Addr)(xs:List V),x=.ref a∧y=.ref b∧iY K H a xs∧iY K H b []∧Q (.bl (!xs.isEmpty)) H
theorem MK(hu:X.A.units+64<cLine):nR X (compareOp .NotEq) (MJ X.K):=by
 intro pins s σ H x y v u Q I rx ry h
 obtain⟨a,b,xs,rfl,rfl,h1,h2,q⟩:=h
 cases rx
 cases ry
 obtain⟨uV,v1,qP,_⟩:=I.list h1
 obtain⟨its2,v2,tZ,_⟩:=I.list h2
 cases v2
 have rc:RcNeAt X.A s (.ref a) (.ref b) (!xs.isEmpty):=by
  cases xs with
  | nil=>
   cases v1
   exact RcNeAt.lists (e:=λ_=>true) (A:=X.A) (s:=s) qP.isList tZ.isList rfl (by omega) (λj h1 _=>absurd h1 (Nat.not_lt_zero _))
  | cons x xs=>
   refine RcNeAt.lists_lengths qP.isList tZ.isList ?_ (by omega)
   have:=v1.length
   rw[B4,←this]
   simp
 exact rc X.prog X.w X.xe _ ⟨.bl _,H,I,rfl,q⟩
def Yd(a b:D):Option D:=match a,b with
 | .lst ds,.lst []=>some (.bl (!ds.isEmpty))
 | _,_=>none
theorem MN:Mz K (MJ K) Yd:=λx y H a b d Q ra rb q k=>by
 unfold Yd at q
 split at q
 ·cases q
  unfold Rv at ra rb
  obtain⟨la,xs,rfl,a1,a2⟩:=ra
  obtain⟨lb,ys,rfl,b1,b2⟩:=rb
  unfold bI at b2
  subst b2
  have hl:=a2.length
  refine⟨la,lb,xs,rfl,rfl,a1,b1,?_⟩
  rename_i ds
  have e:xs.isEmpty=ds.isEmpty:=by
   cases xs<;>cases ds<;>first | rfl | (simp at hl)
  rw[e]
  exact k _ H (aH.refl _) (.fO rfl (by unfold Rv;rfl))
 ·cases q
theorem MP(hu:X.A.units+64<cLine)(hk:X.K=K):nR X (compareOp .NotEq) (MJ K):=by subst hk;exact MK hu
end
end L2


namespace L2
open PySem PySem.W PySem.Spec PyProof.Rows
def Rn(K:aA)(n:Nat)(F:List D→Option D)(l r:Nat):Sp:=λvs H Q E=>lA K n F vs H Q E∨(vs.length=n∧∃p v,vs[l]?=some (.ref p)∧iY K H p []∧vs[r]?=some v∧Q v H)
theorem Eb{N:List Str}{vs:List V}{i:Nat}{v:V}(h:vs[i]?=some v):(start N vs)[i]?=some (some v):=by
 unfold start
 have hl:=(B8.mp h).1
 rw[N9 (by rw[B3];exact hl),C5,h]
 rfl
theorem Raw.jb{P:Program}{w:World}{K:aA}{mg:Str→Option Value}{base:Heap}{x:Str}{st:Stmt}{N ps:List Str}{k l r i:Nat}{g:GS}(R:Raw K mg x st)(S:bL N ps (aK st))
    (hb:∀(kV doc pm:Value)(an:Option Addr)(cdv ct:Value)(us:List Value),us.length=ps.length→bindArgs (F4 x x (cJ st) (bO st) (aK st) .none kV doc pm an cdv ct) ⟨us,[]⟩=pure (ps.zip us))
    (hbody:∀(f:Addr)(cdv:Value)(A:Around)(outer:List Env)(s:Shared)(H:Hp)(E:XK),fK k (A.deeper (envOfC x (aK st) s.heap.objs.size f cdv)) →
      ∃tb,YB K (dZ Lh P w K mg base N x (aK st) f cdv A outer s H E).Yz (bO st) (Ff (Kr (VP K (iW l)) (cO i) tb) (Vh (iW r))) g):jP P w K mg base x (k+1) ps.length (Rn K ps.length (gH N.length ps.length g) l r):=by
  refine R.cal S (λvs H Q E h=>?_) hb (λf cdv A outer s H vs Q E hr h=>?_)
  · rcases h with ⟨ds,d,h1,h2,_⟩ | h
    · rw[h2.length];exact h1
    · exact h.1
  obtain⟨tb,yb⟩:=hbody f cdv A outer s H E hr
  refine⟨_,yb.ps,?_⟩
  rcases h with ⟨ds,d,h1,h2,h3,kk⟩ | ⟨hl,p,v,e1,e2,e3,q⟩
  · refine yb.ev H _ _ H (ds.map SD.fro++D9 (N.length-ps.length) SD.no) ?_ ?_
    · have hl:vs.length=ps.length:=by rw[h2.length];exact h1
      have:=nA (k:=N.length-ps.length) h2
      unfold start
      rw[hl]
      exact this
    · unfold gH at h3
      rw[if_pos h1]at h3
      cases q:g (ds.map SD.fro++D9 (N.length-ps.length) SD.no)with
      | ret d'=>
        rw[q]at h3
        cases h3
        refine λv H' A' s' o=>kk v H' (s'.trans (dG _ _)) ⟨A',o,λa qa=>?_⟩
        cases e:H a with
        | none=>rfl
        | some u=>exact absurd qa (aZ.mp (s' a u e)).1
      | next env'=>
        rw[q]at h3
        cases h3
        refine λσ' H' ⟨A',_,s'⟩=>kk .non H' (s'.trans (dG _ _)) (.fO rfl (by unfold Rv;rfl))
      | brk env'=>rw[q]at h3;cases h3
      | cont env'=>rw[q]at h3;cases h3
      | bad=>rw[q]at h3;cases h3
      | rete d e=>rw[q]at h3;cases h3
  · refine .inl ⟨_,Eb e1,p,rfl,⟨[],e2⟩,λi _ σ' H'=>i=0∧σ'=start N vs∧H'=H,⟨0,rfl,rfl,rfl⟩,?_⟩
    rintro i m σ' H' ⟨rfl,rfl,rfl⟩
    exact .inl ⟨(Cw 0 _ e2).2.2 (B9 _),v,Eb e3,q⟩
section
variable{K:aA}{X:Cx}{a b c:Expr}{ta tb tc:TE}{fa fb fc:FE}{pos:Pos}
def lX(F:List D→Option D)(fa fb fc:FE):FE:=λe=>(fa e).bind λd1=>(fb e).bind λd2=>(fc e).bind λd3=>match d2 with
 | .lst []=>some d3
 | _=>F [d1,d2,d3]
theorem Ye{x:Str}{k:Nat}{F:List D→Option D}{p:Pos}(C:jP X.prog X.w X.K X.mg X.base x k 3 (Rn K 3 F 1 2))(hr:fK k X.A)(hg:Gl X x)(ha:XR K X a ta fa)(hb:XR K X b tb fb)(hc:XN K X c tc fc)  (hdb:(x==("__debug__" : Str))=false:=by decide)
  (he:starEach [a,b,c] X.env=(false,eval a X.env)::starEach [b,c] X.env:=by rfl) (he2:starEach [b,c] X.env=(false,eval b X.env)::starEach [c] X.env:=by rfl) (wz:starEach [c] X.env=(false,eval c X.env)::starEach [] X.env:=by rfl) (hpl:(backTo pos (starEach [b,c] X.env)).any (·.1)=false:=by rfl):XN K X (.Call (.Name x p) [a,b,c] [] pos) (uL (Rn K 3 F 1 2) [] E0 (cY ta (cY tb (cY tc lD)))) (lX F fa fb fc):=
 ⟨ha.hk,Ox C hr hg (bN ha.pe (bN hb.pe (bN hc.pe iU wz) he2) he) hdb he hpl,λσ H e d Q re q k=>by
  unfold lX at q
  obtain⟨d1,q1,q⟩:=aX q
  obtain⟨d2,q2,q⟩:=aX q
  obtain⟨d3,q3,q⟩:=aX q
  refine call_of (ha.ev σ H H e d1 _ (Zn.self K H) re q1 λv1 H1 Z1 s1 t1 z1 r1=>?_)
  refine hb.ev σ H1 H1 e d2 _ (Zn.self K H1) (re.same s1) q2 λv2 H2 Z2 s2 t2 z2 r2=>?_
  refine hc.ev σ H2 e d3 _ (re.same (s1.trans s2)) q3 λv3 H3 s3 n3=>?_
  have g1:Rv K H3 d1 v1:=(z1.sm.trans (s2.trans s3)).rv _ _ r1
  have g2:Rv K H3 d2 v2:=(z2.sm.trans s3).rv _ _ r2
  have g3:Rv K H3 d3 v3:=n3.rv
  have Px:aH H H3:=s1.trans (s2.trans s3)
  split at q
  ·cases q
   unfold Rv at g2
   obtain⟨pp,xs,rfl,h1,h2⟩:=g2
   unfold bI at h2
   subst h2
   exact .inr ⟨rfl,pp,v3,rfl,h1,rfl,k v3 H3 Px (n3.back (s1.trans s2))⟩
  ·refine .inl ⟨[d1,d2,d3],d,rfl,?_,q,λv H4 s4 n4=>k v H4 (Px.trans s4) (n4.back Px)⟩
   unfold bI
   refine⟨_,_,rfl,g1,?_⟩
   unfold bI
   refine⟨_,_,rfl,g2,?_⟩
   unfold bI
   refine⟨_,_,rfl,g3,?_⟩
   unfold bI
   rfl⟩
end
end L2


namespace L2
open PySem PySem.Spec PyProof.Rows
abbrev bY(ns:List Int):D:=.lst (ns.map D.int)
theorem rN{i:Nat}{g:GS}(I:Nat→EN→Prop):∀(xs:List D)(env:EN)(n:Nat),I n env→(∀k x env,xs[k]?=some x→I (n+k) env→i<env.length∧∃env',g (env.set i (.fro x))=.next env'∧I (n+k+1) env')→∃env',rD i g xs env=.next env'∧I (n+xs.length) env'
 | [],env,n,h,_=>⟨env,by unfold rD;rfl,h⟩
 | x::xs,env,n,h,st=>by
  obtain⟨h1,env',h2,h3⟩:=st 0 x env rfl h
  obtain⟨nQ,a1,a2⟩:=rN I xs env' (n+1) h3 λk y e hk hi=>by
   have:=st (k+1) y e (by simpa using hk) (by rw[show n+(k+1)=n+1+k by omega];exact hi)
   rw[show n+(k+1)+1=n+1+k+1 by omega]at this
   exact this
  refine⟨nQ,?_,?_⟩
  ·unfold rD
   rw[if_pos h1,h2]
   exact a1
  ·rw[F3,show n+(xs.length+1)=n+1+xs.length by omega]
   exact a2
theorem bR{g1 g2:GS}{env env':EN}(h:g1 env=.next env'):aO g1 g2 env=g2 env':=by unfold aO;rw[h]
theorem vX{g1 g2:GS}{env:EN}{d:D}(h:g1 env=.ret d):aO g1 g2 env=.ret d:=by unfold aO;rw[h]
theorem vY{f:FT}{g1 g2:GS}{env:EN}(h:f (rE env)=some true):jD f g1 g2 env=g1 env:=by unfold jD;rw[h]
theorem nD{f:FT}{g1 g2:GS}{env:EN}(h:f (rE env)=some false):jD f g1 g2 env=g2 env:=by unfold jD;rw[h]
theorem dJ{i:Nat}{f:FE}{env:EN}{d:D}(h:f (rE env)=some d)(hi:i<env.length):bT i f env=.next (env.set i (.own d)):=by unfold bT;rw[h];dsimp only;rw[if_pos hi]
theorem jX{f:FE}{env:EN}{d:D}(h:f (rE env)=some d):fX f env=.ret d:=by unfold fX;rw[h]
theorem uD{js:List Nat}{i:Nat}{fi:FA}{g:GS}{env gF:EN}{xs:List D}(h0:gW js env=gF)(h:fi (zE gF)=some xs):pU js i fi g env=rD i g xs gF:=by unfold pU;rw[h0,h]
theorem lY{n m:Nat}{g:GS}{ds:List D}{d:D}(hl:ds.length=m)(h:g (ds.map SD.fro++D9 (n-m) SD.no)=.ret d):gH n m g ds=some d:=by unfold gH;rw[if_pos hl,h]
theorem aL{φ:D→D→Option D}{f g:FE}{e:DE}{a b d:D}(h1:f e=some a)(h2:g e=some b)(h:φ a b=some d):f2 φ f g e=some d:=by unfold f2;rw[h1,h2];exact h
theorem qD{φ:List D→Option D}{fs:FA}{e:DE}{ds:List D}{d:D}(h1:fs e=some ds)(h:φ ds=some d):fL φ fs e=some d:=by unfold fL;rw[h1];exact h
theorem aC{f:FE}{fs:FA}{e:DE}{a:D}{r:List D}(h1:f e=some a)(h2:fs e=some r):aB f fs e=some (a::r):=by unfold aB;rw[h1,h2];rfl
theorem aW{n:Nat}{F:List D→Option D}{fs:FA}{e:DE}{ds:List D}{d:D}(h1:fs e=some ds)(hl:ds.length=n)(h:F ds=some d):aP n F fs e=some d:=by unfold aP;rw[h1];dsimp only[C7];rw[if_pos hl];exact h
theorem cN{f:FE}{e:DE}{b:Bool}(h:f e=some (.bl b)):fB f e=some b:=by unfold fB;rw[h];rfl
theorem Be{f:FT}{e:DE}{b:Bool}(h:f e=some b):oJ f e=some (!b):=by unfold oJ;rw[h];rfl
theorem Bf{f g:FT}{e:DE}(h:f e=some false):dU f g e=some false:=by unfold dU;rw[h];rfl
theorem cD{f:FE}{e:DE}{d:D}(h:f e=some d)(i:d.fO=true):gD f e=some d:=yK.mpr ⟨h,i⟩
theorem cH(i j:Int):dW (.int i) (.int j)=some (.int (i+j)):=rfl
theorem jJ(i j:Int):Cy (.int i) (.int j)=some (.int (i-j)):=by unfold Cy uY;exact if_pos True.intro
theorem jK{i j:Int}(h:zM i j):Cz (.int i) (.int j)=some (.int (i*j)):=by unfold Cz uY;exact if_pos h
theorem cU{i j:Int}(h:0<j)(h2:j<1073741824):lJ (.int i) (.int j)=some (.int (i/j)):=by unfold lJ uY;exact if_pos (show Ku i j from⟨h,h2⟩)
theorem bA{i j:Int}(h:0<j):dC (.int i) (.int j)=some (.int (i%j)):=by unfold dC uY;exact if_pos h
theorem iD{i j:Int}(h:Kv i j):lK (.int i) (.int j)=some (.int (i ^ j.toNat)):=by unfold lK uY;exact if_pos h
theorem qF(i j:Int):Ga (.int i) (.int j)=some (.bl (decide (i<j))):=by unfold Ga uY;exact if_pos True.intro
theorem Bg(i j:Int):dw (.int i) (.int j)=some (.bl (decide (j<i))):=by unfold dw uY;exact if_pos True.intro
theorem Yg(i j:Int):decide (V.int i=V.int j)=decide (i=j):=by
 by_cases c:i=j
 ·subst c;simp
 ·rw[decide_eq_false c,decide_eq_false (λz=>c (by cases z;rfl))]
theorem qG(i j:Int):Ca (.int i) (.int j)=some (.bl (decide (i=j))):=by
 unfold Ca toV
 dsimp only
 rw[if_pos (by rfl),Yg]
theorem Gv{α:Type}{xs:List α}{i:Int}{x:α}(h0:0≤i)(h:xs[i.toNat]?=some x):Oa xs i=some x:=by
 have h1:i.toNat<xs.length:=by
  obtain⟨h1,_⟩:=B8.mp h
  exact h1
 unfold Oa TX
 rw[if_pos h0,if_pos (by omega)]
 exact h
theorem nF{ds:List D}{i:Int}{d:D}(h0:0≤i)(h:ds[i.toNat]?=some d):oZ (.lst ds) (.int i)=some d:=Gv h0 h
theorem Bh{ds:List D}{i:Int}{d:D}(h0:0≤i)(h:ds[i.toNat]?=some d):oZ (.tup ds) (.int i)=some d:=Gv h0 h
theorem vZ{ns:List Int}{i:Int}(h0:0≤i)(h:i<ns.length):oZ (bY ns) (.int i)=some (.int (ns.getD i.toNat 0)):=Gv h0 (by
 rw[C5,B6,B0 (show i.toNat<ns.length by omega)];rfl)
theorem qH(ds:List D):vI [.lst ds]=some (.int ds.length):=rfl
theorem rO(ns:List Int):vI [bY ns]=some (.int ns.length):=by show some (D.int ((ns.map D.int).length:Nat))=_;rw[B3]
theorem Ro{fi:FA}{fr:List Nat}{fc:FT}{fe:FE}{e:DE}{xs ys:List D}(h1:fi e=some xs)(hl:xs.length≤100000)(h:pR (λx=>fc (some x::lQ e fr)) (λx=>fe (some x::lQ e fr)) xs=some ys):yM fi fr fc fe e=some (.lst ys):=by
 unfold yM
 rw[h1,C7,if_pos hl,h]
 rfl
theorem Rp{i j:Int}(h1:-18446744073709551616<j)(h2:j<18446744073709551616):zM i j:=.inr ⟨h1,h2⟩
theorem MT{i:Nat}{f:FE}{env:EN}{ds:List D}{d:D}(h1:env[i]?=some (.own (.lst ds)))(h2:f (rE env)=some d)(hl:ds.length<100000):Gg i jE f env=.next (env.set i (.own (.lst (ds++[d])))):=by
 unfold Gg jE
 rw[h1,h2]
 dsimp only[pW]
 rw[if_pos hl]
 rfl
end L2


namespace L2
open PySem PySem.Spec PyProof.Rows
section
variable{i j:Nat}{f:FE}{c:FT}{g1 g2 g:GS}{env env':EN}{d:D}{r:SR}{ds:List D}
theorem Zy{b:Bool}(h:c (rE env)=some b)(k1:b=true→aO g1 g env=r)(k2:b=false→aO g2 g env=r):aO (jD c g1 g2) g env=r:=by
 cases b with
 | true=>have k:=k1 rfl;unfold aO at k ⊢;rw[vY h];exact k
 | false=>have k:=k2 rfl;unfold aO at k ⊢;rw[nD h];exact k
theorem NB{b:Bool}(h:c (rE env)=some b)(hb:b=false)(k:aO g2 g env=r):aO (jD c g1 g2) g env=r:=Zy h (λz=>by rw[hb]at z;cases z) λ_=>k
theorem NK{b:Bool}(h:c (rE env)=some b)(hb:b=true)(k:aO g1 g env=r):aO (jD c g1 g2) g env=r:=Zy h (λ_=>k) (λz=>by rw[hb]at z;cases z)
theorem YG(k:g env=r):aO bW g env=r:=k
theorem YH(h:f (rE env)=some d)(k:SR.ret d=r):aO (fX f) g env=r:=(vX (jX h)).trans k
theorem Mm(h:env[i]?=some (.own d)):sZ i env=.ret d:=by unfold sZ;rw[h]
theorem jY{fs:FA}{e:DE}(h:fs e=some ds)(hl:ds.length≤100000):nP fs e=some (.tup ds):=by unfold nP cap;rw[h];dsimp only[C7];rw[if_pos hl]
theorem cB{fs:FA}{e:DE}(h:fs e=some ds)(hl:ds.length≤100000):fU fs e=some (.lst ds):=by unfold fU cap;rw[h];dsimp only[C7];rw[if_pos hl]
theorem Js{e:DE}{z:Int}(h:f e=some (.int z)):Qe f e=some (.int (-z)):=by unfold Qe;rw[h];rfl
theorem Yh{e:DE}{f':FE}(h:f e=some (.bl true))(k:f' e=some d):De f f' e=some d:=by unfold De;rw[cN h];exact k
theorem gP{e:DE}{c':FT}{a b:Bool}(h:c e=some a)(k:c' e=some b):dU c c' e=some (a&&b):=by
 unfold dU;rw[h]
 cases a with
 | true=>exact k
 | false=>rfl
theorem iG{e:DE}(h:f e=some (.lst ds)):tR f e=some ds:=by unfold tR;rw[h];rfl
theorem yS{a b:List D}(h:D.cF (a++b)=true)(hl:a.length+b.length≤100000):dW (.lst a) (.lst b)=some (.lst (a++b)):=by
 show (if D.cF (a++b)=true∧a.length+b.length≤100000 then some (D.lst (a++b))else none)=_
 rw[if_pos ⟨h,hl⟩]
theorem nG(d:D)(ds:List D):D.cF (d::ds)=(d.fO&&D.cF ds):=by rw[D.cF]
theorem wA{a b:List D}:D.cF (a++b)=(D.cF a&&D.cF b):=by
 induction a with
 | nil=>rw[W4,D.cF];rfl
 | cons x a ih=>rw[N3,nG,nG,ih,Bool.and_assoc]
theorem yU(h:D.cF ds=true):dList [.lst ds]=some (.lst ds):=by
 show (if D.cF ds=true then some (D.lst ds)else none)=_
 rw[if_pos h]
end
end L2
namespace L2
theorem Yi{i:Nat}{e:DE}{d:D}(h:e[i]?=some (some d)):aD i e=some d:=by unfold aD;rw[h];rfl
theorem Rq{e:DE}:aF e=some []:=rfl
end L2
namespace L2
end L2


namespace L2
open PySem PySem.Spec PyProof.Rows
def Qs(Pr:SR→Prop)(r:SR):Prop:=Pr r
section
variable{i j:Nat}{f:FE}{c:FT}{g1 g2 g gb:GS}{env env':EN}{d:D}{ds:List D}{Pr:SR→Prop}
theorem cZ(h:f (rE env)=some d)(hi:i<env.length)(k:Qs Pr (g (env.set i (.own d)))):Qs Pr (aO (bT i f) g env):=by rw[bR (dJ h hi)];exact k
theorem NP(h:f (rE env)=some d)(hi:i<env.length)(k:Pr (.next (env.set i (.own d)))):Qs Pr (bT i f env):=by rw[dJ h hi];exact k
theorem jc(h:g1 env=.next env')(k:Qs Pr (g env')):Qs Pr (aO g1 g env):=by rw[bR h];exact k
theorem wB(k:Qs Pr (g env)):Qs Pr (aO bW g env):=k
theorem Bj{b:Bool}(h:c (rE env)=some b)(k1:b=true→Qs Pr (aO g1 g env))(k2:b=false→Qs Pr (aO g2 g env)):Qs Pr (aO (jD c g1 g2) g env):=by
 cases b with
 | true=>have k:=k1 rfl;unfold aO at k ⊢;rw[vY h];exact k
 | false=>have k:=k2 rfl;unfold aO at k ⊢;rw[nD h];exact k
theorem YJ{b:Bool}(h:c (rE env)=some b)(k1:b=true→Qs Pr (g1 env))(k2:b=false→Qs Pr (g2 env)):Qs Pr (jD c g1 g2 env):=by
 cases b with
 | true=>rw[vY h];exact k1 rfl
 | false=>rw[nD h];exact k2 rfl
theorem Rr{b:Bool}(h:c (rE env)=some b)(hb:b=false)(k:Qs Pr (aO g2 g env)):Qs Pr (aO (jD c g1 g2) g env):=Bj h (λz=>by rw[hb]at z;cases z) λ_=>k
theorem yV(h:f (rE env)=some d)(k:Pr (.ret d)):Qs Pr (aO (fX f) g env):=by rw[vX (jX h)];exact k
theorem rP(h:f (rE env)=some d)(k:Pr (.ret d)):Qs Pr (fX f env):=by rw[jX h];exact k
theorem rQ(h:env[i]?=some (.own d))(k:Pr (.ret d)):Qs Pr (sZ i env):=by rw[Mm h];exact k
theorem YK(h1:env[i]?=some (.own (.lst ds)))(h2:f (rE env)=some d)(hl:ds.length<100000)(k:Qs Pr (g (env.set i (.own (.lst (ds++[d])))))):Qs Pr (aO (Gg i jE f) g env):=by rw[bR (MT h1 h2 hl)];exact k
theorem Jt{js:List Nat}{fi:FA}{gF:EN}{xs:List D}(I:Nat→EN→Prop)(hf:gW js env=gF)(h:fi (zE gF)=some xs)(h0:I 0 gF)
  (st:∀(k:Nat) x env,xs[k]?=some x→I k env→i<env.length∧Qs (λr=>∃env',r=.next env'∧I (k+1) env') (gb (env.set i (.fro x)))) (k:∀env',I xs.length env'→Qs Pr (g env')):Qs Pr (aO (pU js i fi gb) g env):=by
 obtain⟨env',h1,h2⟩:=rN (i:=i) (g:=gb) I xs gF 0 h0 λk x e hx hi=>by
  rw[N0]at hi ⊢
  exact⟨(st k x e hx hi).1,let ⟨e,a,b⟩:=(st k x e hx hi).2;⟨e,a,b⟩⟩
 rw[N0]at h2
 rw[bR ((uD hf h).trans h1)]
 exact k env' h2
theorem jZ{n m:Nat}{Pd:D→Prop}(hl:ds.length=m)(h:Qs (λr=>∃d,r=.ret d∧Pd d) (g (ds.map SD.fro++D9 (n-m) SD.no))):∃d,gH n m g ds=some d∧Pd d:=by
 obtain⟨d,h1,h2⟩:=h
 exact⟨d,lY hl h1,h2⟩
end
end L2
namespace L2
theorem Mp{fi:FA}{fr:List Nat}{fe:FE}{e:DE}{α:Type}{xs:List α}{ψ φ:α→D}(h1:fi e=some (xs.map ψ))(hn:xs.length≤1000)(he:∀x∈xs,fe (some (ψ x)::lQ e fr)=some (φ x)):yM fi fr Pz fe e=some (.lst (xs.map φ)):=by
 refine Ro h1 (by rw[B3];omega) ?_
 clear h1 hn
 induction xs with
 | nil=>rw[F5,F5];unfold pR;rfl
 | cons x xs ih=>
  rw[B5]
  unfold pR
  show (some true).bind _=_
  rw[C7,if_pos rfl,he x D4,C7,ih λy hy=>he y (C9 _ hy)]
  rfl
theorem Gw{b:Bool}{f:FE}{l h:FO}{e:DE}{ds:List D}{lo hi:Option Int}(h1:f e=some (.lst ds))(h2:l e=some lo)(h3:h e=some hi)(h4:b=false∨D.cF (kO ds lo hi)=true):Cd b f l h e=some (.lst (kO ds lo hi)):=by
 unfold Cd
 rw[h1,h2,h3]
 dsimp only[C7]
 rw[if_pos h4]
end L2


namespace L2
open PySem PySem.Spec PyProof.Rows
section
variable{i j:Nat}{f:FE}{c:FT}{g1 g2 g gb:GS}{env env':EN}{d:D}{ds:List D}{Pr:SR→Prop}
theorem NQ{js:List Nat}{fi:FA}{gF:EN}{xs:List D}(I:Nat→EN→Prop)(hf:gW js env=gF)(h:fi (zE gF)=some xs)(h0:I 0 gF)
  (st:∀(k:Nat) x env,xs[k]?=some x→I k env→i<env.length∧Qs (λr=>∃env',r=.next env'∧I (k+1) env') (gb (env.set i (.fro x)))) (k:∀env',I xs.length env'→Pr (.next env')):Qs Pr (pU js i fi gb env):=by
 obtain⟨env',h1,h2⟩:=rN (i:=i) (g:=gb) I xs gF 0 h0 λk x e hx hi=>by
  rw[N0]at hi ⊢
  exact⟨(st k x e hx hi).1,let ⟨e,a,b⟩:=(st k x e hx hi).2;⟨e,a,b⟩⟩
 rw[N0]at h2
 rw[(uD hf h).trans h1]
 exact k env' h2
end
end L2
namespace L2
theorem Ju{l:List Int}{b:Int}:(B7 b:Key)∈l.map (B7:Int→Key)↔b∈l:=by
 rw[G0]
 constructor
 ·rintro⟨a,h1,h2⟩;cases h2;exact h1
 ·intro h;exact⟨b,h,rfl⟩
theorem Ru{l:List Int}{b:Int}(h:b∉l):posK (l.map (B7:Int→Key)) (B7 b)=none:=qY.mpr λz=>h (Ju.mp z)
end L2
namespace L2
end L2


namespace L2
open PySem PySem.Spec PyProof.Rows
def tH(ks:List Int):D:=.dk (ks.map B7) (ks.map λ_=>.bl true)
theorem wC(i:Int)(ks:List Int):(posK (ks.map (B7:Int→Key)) (B7 i)).isSome=decide (i∈ks):=by
 by_cases c:i∈ks
 ·rw[decide_eq_true c]
  cases q:posK (ks.map (B7:Int→Key)) (B7 i)with
  | some j=>rfl
  | none=>exact absurd (Ju.mpr c) (qY.mp q)
 ·rw[decide_eq_false c,Ru c]
  rfl
theorem wD(neg:Bool)(i:Int)(ks:List Int):eE neg (.int i) (tH ks)=some (.bl (if neg then !decide (i∈ks)else decide (i∈ks))):=by
 show some (D.bl (if neg then !(posK (ks.map (B7:Int→Key)) (B7 i)).isSome else(posK (ks.map (B7:Int→Key)) (B7 i)).isSome))=_
 rw[wC]
def iK(ks:List Int)(k:Int):List Int:=if k∈ks then ks else ks++[k]
theorem wF(ks:List Int)(k j:Int):j∈iK ks k↔j∈ks∨j=k:=by
 unfold iK
 split
 ·rename_i c
  exact⟨.inl,λz=>z.elim id λe=>by rw[e];exact c⟩
 ·simp
theorem Gx{ks:List Int}{k:Int}(h:ks.Nodup):(iK ks k).Nodup:=by
 unfold iK
 split
 ·exact h
 ·rename_i c
  exact V0.mpr ⟨h,by simp,λx hx y hy=>by
   rw[F7.mp hy]
   intro z
   rw[z]at hx
   exact c hx⟩
theorem qI(ks:List Int)(k:Int):(iK ks k).length≤ks.length+1:=by
 unfold iK
 split
 ·omega
 ·simp
theorem yW(k:Key):∀ks:List Int,P0 (λ(k':Key) (d':D)=>if k'=k then D.bl true else d') (ks.map B7) (ks.map λ_=>D.bl true)=ks.map λ_=>D.bl true
 | []=>rfl
 | a::ks=>by
  rw[B5,B5,K1,yW k ks]
  split<;>rfl
theorem Ec{i:Nat}{f f':FE}{env:EN}{ks:List Int}{k:Int}(h1:env[i]?=some (.own (tH ks)))(h2:f (rE env)=some (.int k))(h3:f' (rE env)=some (.bl true))(hl:ks.length<1000):iC i jE f f' env=.next (env.set i (.own (tH (iK ks k)))):=by
 unfold iC jE
 rw[h1,h2,h3]
 dsimp only[pW,tH]
 show (if D.fO (.bl true)=true∧(ks.map (B7:Int→Key)).length<100000 then _ else _)=_
 rw[if_pos ⟨rfl,by rw[B3];omega⟩]
 have e1:vG (ks.map (B7:Int→Key)) (B7 k)=(iK ks k).map B7:=by
  unfold vG iK
  rw[wC]
  by_cases c:k∈ks
  ·simp[c]
  ·simp[c]
 have e2:putD (ks.map (B7:Int→Key)) (ks.map λ_=>D.bl true) (B7 k) (.bl true)=(iK ks k).map λ_=>D.bl true:=by
  unfold putD iK
  rw[wC]
  by_cases c:k∈ks
  ·rw[decide_eq_true c,if_pos rfl,if_pos c,yW]
  ·rw[decide_eq_false c,if_neg (by decide),if_neg c,G6]
   rfl
 rw[e1,e2]
 rfl
theorem NT{φ:D→Option D}{f:FE}{e:DE}{a d:D}(h1:f e=some a)(h:φ a=some d):ZR φ f e=some d:=by unfold ZR;rw[h1];exact h
theorem Ed{α β:Type}(φ:α→β)(l:List α)(lo hi:Option Int):kO (l.map φ) lo hi=(kO l lo hi).map φ:=by
 unfold kO
 rw[B3,←T2,←Q0]
theorem qJ{b:Bool}{f:FE}{l h:FO}{e:DE}{ns:List Int}{lo hi:Option Int}(h1:f e=some (bY ns))(h2:l e=some lo)(h3:h e=some hi):Cd b f l h e=some (bY (kO ns lo hi)):=by
 rw[Gw h1 h2 h3 (.inr (by rw[Ed];exact vJ _)),Ed]
theorem Rw{α:Type}{l:List α}{c:Nat}(h:c≤l.length):kO l (some (c:Int)) none=l.drop c:=by
 unfold kO
 show (l.drop (HT.tO l.length 0 (some (c:Int)))).take (l.length-HT.tO l.length 0 (some (c:Int)))=_
 rw[pJ,show min c l.length=c by omega,O3 (by rw[L9];omega)]
theorem Gy{α:Type}(l:List α)(c:Nat):kO l none (some (c:Int))=l.take c:=by
 unfold kO
 show (l.drop 0).take (HT.tO l.length l.length (some (c:Int))-0)=_
 rw[pJ,List.drop_zero,Nat.sub_zero]
 rcases K6 c l.length with z | z
 ·rw[show min c l.length=c by omega]
 ·rw[show min c l.length=l.length by omega,O3 (B9 _),O3 z]
theorem Rx{α:Type}(l:List α)(a b:Nat):kO l (some (a:Int)) (some (b:Int))=(l.drop a).take (b-a):=by
 unfold kO
 rw[pJ,pJ]
 refine Q3 λk=>?_
 rw[U6,P6,U6,P6]
 rcases K6 a l.length with z | z
 ·rw[show min a l.length=a by omega]
  by_cases c:k<min b l.length-a
  ·rw[if_pos c,if_pos (by omega)]
  ·rw[if_neg c]
   by_cases c2:k<b-a
   ·rw[if_pos c2,J5 (by omega)]
   ·rw[if_neg c2]
 ·rw[show min a l.length=l.length by omega,J5 (show l.length≤l.length+k by omega),J5 (show l.length≤a+k by omega)]
  split<;>split<;>rfl
structure az where
 jd:Int
 place:Int
 thing:List Int
 needs:List Int
 deriving Inhabited
def xf(c:az):D:=.tup [.int c.jd,.int c.place,dTup c.thing,dTup c.needs]
def xg(cs:List az):D:=.lst (cs.map xf)
abbrev at_(cs:List az)(k:Nat):az:=cs.getD k default
theorem rR{i j:Int}(h1:Builtin.Int.intBits i≤4000000)(h2:Builtin.Int.intBits j≤4000000):Dm (.int i) (.int j)=some (.int (i*j)):=by unfold Dm uY;exact if_pos (show tE i j from⟨h1,h2⟩)
end L2
namespace L2
theorem fY{f:FE}{e:DE}{i:Int}(h:f e=some (.int i)):cL f e=some (some i):=by unfold cL;rw[h];rfl
end L2
namespace L2
end L2


namespace L2
open PySem PySem.Spec PyProof.Rows
end L2


namespace L2
open PySem PySem.Spec PyProof.Rows
section
variable{i j:Nat}{f f':FE}{c:FT}{g1 g2 g gb:GS}{env env':EN}{d d0 d' r:D}{ds:List D}{Pr:SR→Prop}{v:V}{π:FP}{p:List Step}
theorem Ry(h:f (rE env)=some d):tD f env=.next env:=by unfold tD;rw[h]
theorem Rz(h:f (rE env)=some d)(k:Qs Pr (g env)):Qs Pr (aO (tD f) g env):=by rw[bR (Ry h)];exact k
end
end L2


local macro_rules | `(tactic| walk_at "fs")=>`(tactic| exact⟨rfl,rfl,rfl,by decide +kernel,rfl,by decide +kernel,by decide +kernel⟩)
namespace Rs
open PySem L2
def top(i:Nat):Stmt:=PySem.Challenge.pw_ripestone_k34_plainly_refused.main.body.getD i (.Pass ⟨0,0,0,0⟩)
def rT:Aq:=λi j=>match i,j with | 0,0=>true | 0,3=>true | 1,1=>true | 1,3=>true | 2,2=>true | 2,3=>true | 3,3=>true | 4,3=>true | 4,4=>true | 5,3=>true | 5,5=>true | 6,3=>true | 6,6=>true | 7,3=>true | 7,7=>true | 8,3=>true | 8,8=>true | 9,3=>true | 9,9=>true | 10,3=>true | 10,10=>true | _,_=>false
theorem Yj:∀i,i<3→rT i i=true:=by decide
abbrev oW:Stmt:=top 20
noncomputable def wG:GS:=aO (jD (fB (f2 Ga (aD 1) (fL vI (aB (aD 0) aF)))) (fX (gD (f2 oZ (aD 0) (aD 1)))) bW)
 (fX (fC (.int 0)))
noncomputable def cC:List D→Option D:=gH 2 2 (wG)
abbrev Bk:Stmt:=top 22
noncomputable def Jv:GS:=aO (bT 2 (gD (f2 oZ (fU (aB (fC (.int 1)) (aB (fC (.int 3)) (aB (f2 lK (fC (.int 10)) (fC (.int 30))) aF)))) (f2 dC (aD 0) (fC (.int 3))))))
 (aO (bT 3 (gD (f2 oZ (fU (aB (fC (.int 0)) (aB (f2 dC (aD 0) (f2 lK (fC (.int 10)) (fC (.int 58)))) (aB (f2 Cy (fC (.int 0)) (f2 dC (aD 0) (f2 lK (fC (.int 10)) (fC (.int 58))))) aF)))) (f2 dC (f2 lJ (aD 0) (fC (.int 3))) (fC (.int 3))))))
 (fX (f2 dW (aD 3) (f2 Cz (aD 2) (aD 1)))))
noncomputable def gQ:List D→Option D:=gH 4 2 (Jv)
abbrev rW:Stmt:=top 25
noncomputable def yX:GS:=aO (bT 3 (f2 dC (aD 1) (fC (.int 6))))
 (aO (bT 4 (aP 2 gQ (aB (aD 0) (aB (f2 dW (fC (.int 21)) (f2 dC (f2 lJ (aD 1) (fC (.int 6))) (fC (.int 9)))) aF))))
 (aO (jD (dU (fB (f2 Yd (aD 2) (fU aF))) (fB (f2 dw (aD 3) (fC (.int 2))))) (bT 4 (gD (f2 oZ (f2 oZ (aD 2) (f2 dC (f2 lJ (aD 1) (fC (.int 6))) (fL vI (aB (aD 2) aF)))) (fC (.int 1))))) bW)
 (aO (jD (fB (f2 Ca (f2 dC (aD 3) (fC (.int 3))) (fC (.int 0)))) (fX (nP (aB (fC (.str "put")) (aB (gD (aD 4)) (aB (f2 Cy (Qe (fC (.int 1))) (f2 dC (f2 lJ (aD 1) (fC (.int 54))) (f2 lK (fC (.int 10)) (fC (.int 58))))) aF))))) bW)
 (aO (jD (fB (f2 Ca (f2 dC (aD 3) (fC (.int 3))) (fC (.int 1)))) (fX (nP (aB (fC (.str "take")) (aB (gD (aD 4)) aF)))) bW)
 (fX (nP (aB (fC (.str "put")) (aB (gD (aD 4)) (aB (f2 dC (f2 lJ (aD 1) (fC (.int 54))) (f2 lK (fC (.int 10)) (fC (.int 58)))) aF)))))))))
noncomputable def fZ:List D→Option D:=gH 5 3 (yX)
abbrev oX:Stmt:=top 26
noncomputable def wH:GS:=aO (pU [] 3 (tR (aD 1)) (aO (bT 4 (f2 dC (f2 lJ (f2 dC (f2 Cz (f2 dW (aD 3) (fC (.int 19))) (fC (.int 69621))) (fC (.int 2147483647))) (fC (.int 7))) (f2 dW (fL vI (aB (aD 2) aF)) (fC (.int 1)))))
 (bT 2 (f2 dW (f2 dW (Cd false (aD 2) (eX) (cL (aD 4))) (fU (aB (aP 3 fZ (aB (aD 0) (aB (aD 3) (aB (aD 2) aF)))) aF))) (Cd false (aD 2) (cL (aD 4)) (eX))))))
 (sZ 2)
noncomputable def gA:List D→Option D:=gH 5 3 (wH)
abbrev wI:Stmt:=top 23
noncomputable def Ef:GS:=aO (jD (dU (fB (f2 (eE false) (aD 1) (aD 2))) (fB (f2 Ca (f2 dC (f2 lJ (aD 0) (fC (.int 2))) (fC (.int 2))) (fC (.int 0))))) (fX (nP (aB (fC (.str "take")) (aB (gD (aD 1)) aF)))) bW)
 (fX (nP (aB (fC (.str "put")) (aB (gD (aD 1)) (aB (f2 dC (f2 Dm (f2 dW (aD 0) (fC (.int 5))) (f2 dW (aD 0) (fC (.int 11)))) (f2 lK (fC (.int 10)) (fC (.int 58)))) aF)))))
noncomputable def lZ:List D→Option D:=gH 3 3 (Ef)
abbrev rY:Stmt:=top 24
noncomputable def yZ:GS:=aO (bT 3 (fU aF))
 (aO (bT 4 (fC (.dk [] [])))
 (aO (pU [] 5 (tR (aD 1)) (aO (bT 6 (aP 2 gQ (aB (aD 0) (aB (f2 Cy (f2 dC (f2 dC (f2 Cz (aD 5) (fC (.int 48271))) (fC (.int 2147483647))) (fC (.int 41))) (fC (.int 20))) aF))))
 (aO (jD (fB (f2 (eE true) (aD 6) (aD 4))) (Gg 3 jE (aP 3 lZ (aB (aD 5) (aB (aD 6) (aB (aD 2) aF))))) bW)
 (iC 4 jE (aD 6) (fC (.bl true))))))
 (sZ 3)))
noncomputable def gB:List D→Option D:=gH 7 3 (yZ)
abbrev Gz:Stmt:=top 15
noncomputable def NZ:GS:=fX (gD (f2 oZ (aD 0) (fC (.int 1))))
noncomputable def fG:List D→Option D:=gH 1 1 (NZ)
abbrev Hf:Stmt:=top 14
noncomputable def OD:GS:=fX (f2 Ca (f2 oZ (aD 0) (fC (.int 0))) (fC (.str "put")))
noncomputable def bK:List D→Option D:=gH 1 1 (OD)
abbrev rZ:Stmt:=top 16
noncomputable def Mq:GS:=fX (gD (f2 oZ (aD 0) (fC (.int 2))))
noncomputable def bJ:List D→Option D:=gH 1 1 (Mq)
abbrev iQ:Stmt:=top 17
noncomputable def tK:GS:=aO (bT 2 (fC (.dk [] [])))
 (pU [] 3 (tR (aD 1)) (aO (bT 4 (aP 1 fG (aB (aD 3) aF)))
 (aO (jD (fB (f2 (eE false) (aD 4) (aD 2))) kW bW)
 (aO (jD (dU (fB (aP 1 bK (aB (aD 3) aF))) (fB (f2 Ga (aP 1 bJ (aB (aD 3) aF)) (fC (.int 0))))) kW bW)
 (aO (jD (dU (oJ (fB (aP 1 bK (aB (aD 3) aF)))) (fB (f2 (eE true) (aD 4) (aD 0)))) kW bW)
 (iC 2 jE (aD 4) (fC (.bl true))))))))
noncomputable def iR:List D→Option D:=gH 5 2 (tK)
abbrev qK:Stmt:=top 18
noncomputable def Eg:GS:=aO (bT 2 (fL vW (aB (aD 0) aF)))
 (aO (tD (aP 2 iR (aB (aD 2) (aB (aD 1) aF))))
 (aO (pU [] 3 (tR (aD 1)) (jD (fB (aP 1 bK (aB (aD 3) aF))) (iC 2 jE (aP 1 fG (aB (aD 3) aF)) (aP 1 bJ (aB (aD 3) aF))) (yQ 2 jE (aP 1 fG (aB (aD 3) aF)))))
 (fX (ZR Bb (aD 2)))))
noncomputable def mC:List D→Option D:=gH 4 2 (Eg)
noncomputable def mD(κ:Nat→Addr):GZ:=jF (bT 2 (fC (.dk [] []))) (Qk [] 3 (tR (aD 1)) (aO (bT 4 (aP 1 fG (aB (aD 3) aF)))
 (aO (jD (fB (f2 (eE false) (aD 4) (aD 2))) kW bW)
 (aO (jD (dU (fB (aP 1 bK (aB (aD 3) aF))) (fB (f2 Ga (aP 1 bJ (aB (aD 3) aF)) (fC (.int 0))))) kW bW)
 (aO (jD (dU (oJ (fB (aP 1 bK (aB (aD 3) aF)))) (fB (f2 (eE true) (aD 4) (aD 0)))) kW bW)
 (iC 2 jE (aD 4) (fC (.bl true))))))) (jF (bT 4 (aP 1 fG (aB (aD 3) aF))) (Uz (Va (fB (f2 (eE false) (aD 4) (aD 2))) (Qm 0 (aB (fC (.str "a key comes in two parts")) aF)) (Uy)) (jF (jD (fB (f2 (eE false) (aD 4) (aD 2))) kW bW) (Uz (Va (dU (fB (aP 1 bK (aB (aD 3) aF))) (fB (f2 Ga (aP 1 bJ (aB (aD 3) aF)) (fC (.int 0))))) (Qm 1 (aB (fC (.str "a worth is below 0")) aF)) (Uy)) (jF (jD (dU (fB (aP 1 bK (aB (aD 3) aF))) (fB (f2 Ga (aP 1 bJ (aB (aD 3) aF)) (fC (.int 0))))) kW bW) (Va (dU (oJ (fB (aP 1 bK (aB (aD 3) aF)))) (fB (f2 (eE true) (aD 4) (aD 0)))) (Qm 2 (aB (fC (.str "there is no such key to take")) aF)) (Uy))))))))
noncomputable def gG(κ:Nat→Addr):List D→Option Nat:=JQ 5 2 (mD κ)
noncomputable def wJ(κ:Nat→Addr):GZ:=jF (bT 2 (fL vW (aB (aD 0) aF))) (zX (Ao (gG κ) (aB (aD 2) (aB (aD 1) aF))))
noncomputable def jL(κ:Nat→Addr):List D→Option Nat:=JQ 4 2 (wJ κ)
abbrev wK:Stmt:=top 28
noncomputable def Eh(κ:Nat→Addr):GS:=aO (bT 2 (fU aF))
 (aO (xO (zX (Ao (jL κ) (aB (aD 0) (aB (aD 1) aF)))) (tD (aP 2 mC (aB (aD 0) (aB (aD 1) aF)))) rT 3 11 (λi=>(3,RL 3 (aO (bT 4 (fC (.bl (([4,5,6,7,8,9,10]:List Nat).any (rT i))))) (bT 2 (fU (aB (fC (.bl (rT i 0))) (aB (fC (.bl (rT i 1))) (aB (fC (.bl (rT i 2))) (aB (fC (.bl true)) (aB (gD (aD 4)) aF)))))))))::[]))
 (sZ 2))
noncomputable def mG(κ:Nat→Addr):List D→Option D:=gH 5 2 (Eh κ)
abbrev Bl:Stmt:=top 27
noncomputable def Jw:GS:=aO (bT 2 (fC (.dk [] [])))
 (aO (pU [] 3 (tR (aD 1)) (aO (jD (fB (f2 (eE false) (f2 oZ (aD 3) (fC (.int 1))) (aD 2))) (fX (fU (aB (fC (.bl true)) (aB (fC (.bl false)) (aB (fC (.bl false)) (aB (fC (.bl true)) (aB (fC (.bl false)) aF))))))) bW)
 (aO (jD (dU (fB (f2 Ca (f2 oZ (aD 3) (fC (.int 0))) (fC (.str "put")))) (fB (f2 Ga (f2 oZ (aD 3) (fC (.int 2))) (fC (.int 0))))) (fX (fU (aB (fC (.bl false)) (aB (fC (.bl true)) (aB (fC (.bl false)) (aB (fC (.bl true)) (aB (fC (.bl false)) aF))))))) bW)
 (aO (jD (dU (fB (f2 Ca (f2 oZ (aD 3) (fC (.int 0))) (fC (.str "take")))) (fB (f2 (eE true) (f2 oZ (aD 3) (fC (.int 1))) (aD 0)))) (fX (fU (aB (fC (.bl false)) (aB (fC (.bl false)) (aB (fC (.bl true)) (aB (fC (.bl true)) (aB (fC (.bl false)) aF))))))) bW)
 (iC 2 jE (f2 oZ (aD 3) (fC (.int 1))) (fC (.bl true)))))))
 (fX (fU aF)))
noncomputable def qL:List D→Option D:=gH 4 2 (Jw)
abbrev Yk:Stmt:=top 29
noncomputable def YL(κ:Nat→Addr):GS:=aO (bT 1 (aP 2 cC (aB (aD 0) (aB (fC (.int 0)) aF))))
 (aO (bT 2 (Cd true (aD 0) (cL (fC (.int 3))) (cL (fC (.int 60)))))
 (aO (bT 3 (f2 dC (f2 lJ (aD 1) (fC (.int 9))) (f2 dW (fL vI (aB (aD 2) aF)) (fC (.int 1)))))
 (aO (bT 4 (fC (.dk [] [])))
 (aO (pU [2,3] 5 (tR (Cd false (aD 2) (eX) (cL (aD 3)))) (iC 4 jE (aP 2 gQ (aB (aD 1) (aB (f2 Cy (f2 dC (f2 dC (f2 Cz (aD 5) (fC (.int 16807))) (fC (.int 2147483647))) (fC (.int 41))) (fC (.int 20))) aF))) (f2 dC (f2 Dm (f2 dW (aD 5) (fC (.int 5))) (f2 dW (aD 5) (fC (.int 7)))) (f2 lK (fC (.int 10)) (fC (.int 58))))))
 (aO (yR 4 6 [4] (nP (aB (gD (aD 0)) (aB (gD (f2 Lp (aD 1) (aD 0))) aF))))
 (aO (bT 7 (Cd true (fU (aB (aP 2 cC (aB (aD 0) (aB (fC (.int 1)) aF))) (aB (aP 2 cC (aB (aD 0) (aB (fC (.int 2)) aF))) aF))) (eX) (cL (f2 dC (f2 lJ (aD 1) (fC (.int 700))) (fC (.int 3))))))
 (aO (bT 8 (lX gA (aD 1) (aD 7) (aP 3 gB (aB (aD 1) (aB (Cd false (aD 2) (cL (aD 3)) (eX)) (aB (aD 4) aF))))))
 (aO (bT 9 (fU (aB (fL dList (aB (aD 6) aF)) (aB (fL dList (aB (aD 8) aF)) aF))))
 (fX (De (f2 Xq (aP 2 (mG κ) (aB (f2 oZ (aD 9) (fC (.int 0))) (aB (f2 oZ (aD 9) (fC (.int 1))) aF))) (aP 2 qL (aB (aD 4) (aB (aD 8) aF)))) (f2 (Ri true) (aD 9) (fU (aB (aD 6) (aB (aD 8) aF))))))))))))))
noncomputable def OJ(κ:Nat→Addr):List D→Option D:=gH 10 1 (YL κ)
section
variable{P:Program}{w:World}{K:aA}{mg:Str→Option Value}{base:Heap}
theorem Ei:bL ["script", "k"] ["script", "k"] (aK oW):=by walk_at "fs"
theorem Bm(R:Raw K mg "_law_cell_at" oW) (tW:mg "len" = none):jP P w K mg base "_law_cell_at" 1 2 (lA K 2 cC):=by
 refine R.tU Ei (λ_ _ _ _ _ _ us hl=>match us,hl with | [_,_],_=>rfl) (λ_ _ _ _ _ _ _ hr=>?_)
 have gR:=hr.units
 have hu:=gJ hr
 exact⟨_,aN (fQ (fV xV oF (aM (pv 1)) (XN.r (Ip Ah (Ai rfl) rfl tW P4 (aG (aM (pv 0)) aQ))) (dB _)) (aU (cT (XR.n (gK (aM (pv 0)) (aM (pv 1)) (λ_ _=>rfl))))) cR)
  (aU (cT aJ))⟩
theorem wL:bL ["first", "number", "spread", "low"] ["first", "number"] (aK Bk):=by walk_at "fs"
theorem Mr(R:Raw K mg "_law_key" Bk):jP P w K mg base "_law_key" 1 2 (lA K 2 gQ):=by
 refine R.tU wL (λ_ _ _ _ _ _ us hl=>match us,hl with | [_,_],_=>rfl) (λ_ _ _ _ _ _ _ hr=>?_)
 have gR:=hr.units
 have hu:=gJ hr
 exact⟨_,aN (bQ (i:=2) (XR.n (gK (rA (aG (XN.r (aJ)) (aG (XN.r (aJ)) (aG (XN.r (oG (XN.r (aJ)) (XN.r (aJ)))) aQ)))) (XN.r (bZ (aM (pv 0)) (XN.r (aJ)))) (λ_ _=>rfl))) (λh=>bH wL.nd rfl (by first | exact F0 rfl | exact D8 rfl) h))
  (aN (bQ (i:=3) (XR.n (gK (rA (aG (XN.r (aJ)) (aG (XN.r (bZ (aM (pv 0)) (XN.r (oG (XN.r (aJ)) (XN.r (aJ)))))) (aG (XN.r (Ac (XN.r (aJ)) (XN.r (bZ (aM (pv 0)) (XN.r (oG (XN.r (aJ)) (XN.r (aJ)))))))) aQ)))) (XN.r (bZ (XN.r (jU (aM (pv 0)) (XN.r (aJ)))) (XN.r (aJ)))) (λ_ _=>rfl))) (λh=>bH wL.nd rfl (by first | exact F0 rfl | exact D8 rfl) h))
  (aU (cT (eY (aM (pv 3)) (XN.r (Ad (aM (pv 2)) (aM (pv 1))))))))⟩
theorem kE:bL ["first", "cell", "parts", "kind", "key"] ["first", "cell", "parts"] (aK rW):=by walk_at "fs"
theorem Ej(R:Raw K mg "_law_fault" rW) (gU:jP P w K mg base "_law_key" 1 2 (lA K 2 gQ)) (tW:mg "len" = none):jP P w K mg base "_law_fault" 2 3 (lA K 3 fZ):=by
 refine R.tU kE (λ_ _ _ _ _ _ us hl=>match us,hl with | [_,_,_],_=>rfl) (λ_ _ _ _ _ _ _ hr=>?_)
 have gR:=hr.units
 have hu:=gJ hr
 exact⟨_,aN (bQ (i:=3) (bZ (aM (pv 1)) (XN.r (aJ))) (λh=>bH kE.nd rfl (by first | exact F0 rfl | exact D8 rfl) h))
  (aN (bQ (i:=4) (bF gU (hr.mono (by decide)) rfl (aG (aM (pv 0)) (aG (XN.r (eY (XN.r (aJ)) (XN.r (bZ (XN.r (jU (aM (pv 1)) (XN.r (aJ)))) (XN.r (aJ)))))) aQ))) (λh=>bH kE.nd rfl (by first | exact F0 rfl | exact D8 rfl) h))
  (aN (fQ (XW.xt (iB (fV (MP gR rfl) MN (aM (pv 2)) (rA aQ) (dB _)) (eV (fV TQ oF (aM (pv 3)) (XN.r (aJ)) (dB _))))) (aU (bQ (i:=4) (XR.n (gK (gK (aM (pv 2)) (XN.r (bZ (XN.r (jU (aM (pv 1)) (XN.r (aJ)))) (XN.r (Ip Ah (Ai rfl) rfl tW P4 (aG (aM (pv 2)) aQ))))) (λ_ _=>rfl)) (XN.r (aJ)) (λ_ _=>rfl))) (λh=>bH kE.nd rfl (by first | exact F0 rfl | exact D8 rfl) h))) cR)
  (aN (fQ (fV (or_eq gR rfl) yL (XN.r (bZ (aM (pv 3)) (XN.r (aJ)))) (XN.r (aJ)) (dB _)) (aU (cT (rB (aV (iV) (aV (XR.n (aM (pv 4))) (aV (Ac (XN.r (Xa (XN.r (aJ)))) (XN.r (bZ (XN.r (jU (aM (pv 1)) (XN.r (aJ)))) (XN.r (oG (XN.r (aJ)) (XN.r (aJ))))))) fW)))))) cR)
  (aN (fQ (fV (or_eq gR rfl) yL (XN.r (bZ (aM (pv 3)) (XN.r (aJ)))) (XN.r (aJ)) (dB _)) (aU (cT (rB (aV (iV) (aV (XR.n (aM (pv 4))) fW))))) cR)
  (aU (cT (rB (aV (iV) (aV (XR.n (aM (pv 4))) (aV (bZ (XN.r (jU (aM (pv 1)) (XN.r (aJ)))) (XN.r (oG (XN.r (aJ)) (XN.r (aJ))))) fW))))))))))⟩
theorem iT:bL ["first", "faults", "parts", "cell", "at"] ["first", "faults", "parts"] (aK oX):=by walk_at "fs"
theorem Bo(R:Raw K mg "_law_spoilt" oX) (sE:jP P w K mg base "_law_fault" 2 3 (lA K 3 fZ)) (tW:mg "len" = none):jP P w K mg base "_law_spoilt" 3 3 (Rn K 3 gA 1 2):=by
 refine R.jb (i:=3) iT (λ_ _ _ _ _ _ us hl=>match us,hl with | [_,_,_],_=>rfl) (λ_ _ _ _ _ _ _ hr=>?_)
 have gR:=hr.units
 have hu:=gJ hr
 exact⟨_,aN (rF [] PassesOwn.never rfl (oK (aM (pv 1))) (iM (i:=3) iT.nd rfl (by first | exact F0 rfl | exact D8 rfl)) (aN (bQ (i:=4) (bZ (XN.r (jU (XN.r (bZ (XN.r (Ad (XN.r (eY (aM (pv 3)) (XN.r (aJ)))) (XN.r (aJ)))) (XN.r (aJ)))) (XN.r (aJ)))) (XN.r (eY (XN.r (Ip Ah (Ai rfl) rfl tW P4 (aG (aM (pv 2)) aQ))) (XN.r (aJ))))) (λh=>bH iT.nd rfl (by first | exact F0 rfl | exact D8 rfl) h))
  (aU (bQ (i:=2) (eY (XN.r (eY (pQ (aM (pv 2)) (pP) (jV (aM (pv 4)))) (rA (aG (XN.r (bF sE (hr.mono (by decide)) rfl (aG (aM (pv 0)) (aG (aM (pv 3)) (aG (aM (pv 2)) aQ))))) aQ)))) (pQ (aM (pv 2)) (jV (aM (pv 4))) (pP))) (λh=>bH iT.nd rfl (by first | exact F0 rfl | exact D8 rfl) h)))))
  (aU (Al (pv 2)))⟩
theorem Ms:bL ["cell", "key", "worths"] ["cell", "key", "worths"] (aK wI):=by walk_at "fs"
theorem Hg(R:Raw K mg "_law_part" wI):jP P w K mg base "_law_part" 1 3 (lA K 3 lZ):=by
 refine R.tU Ms (λ_ _ _ _ _ _ us hl=>match us,hl with | [_,_,_],_=>rfl) (λ_ _ _ _ _ _ _ hr=>?_)
 have gR:=hr.units
 have hu:=gJ hr
 exact⟨_,aN (fQ (XW.xt (iB (qZ hu (aM (pv 1)) (aM (pv 2))) (eV (fV (or_eq gR rfl) yL (XN.r (bZ (XN.r (jU (aM (pv 0)) (XN.r (aJ)))) (XN.r (aJ)))) (XN.r (aJ)) (dB _))))) (aU (cT (rB (aV (iV) (aV (XR.n (aM (pv 1))) fW))))) cR)
  (aU (cT (rB (aV (iV) (aV (XR.n (aM (pv 1))) (aV (bZ (XN.r (Jb (XN.r (eY (aM (pv 0)) (XN.r (aJ)))) (XN.r (eY (aM (pv 0)) (XN.r (aJ)))))) (XN.r (oG (XN.r (aJ)) (XN.r (aJ))))) fW))))))⟩
theorem iH:bL ["first", "cells", "worths", "parts", "met", "cell", "key"] ["first", "cells", "worths"] (aK rY):=by walk_at "fs"
theorem Ek(R:Raw K mg "_law_parts" rY) (gU:jP P w K mg base "_law_key" 1 2 (lA K 2 gQ)) (wM:jP P w K mg base "_law_part" 1 3 (lA K 3 lZ)):jP P w K mg base "_law_parts" 2 3 (lA K 3 gB):=by
 refine R.tU iH (λ_ _ _ _ _ _ us hl=>match us,hl with | [_,_,_],_=>rfl) (λ_ _ _ _ _ _ _ hr=>?_)
 have gR:=hr.units
 have hu:=gJ hr
 exact⟨_,aN (bQ (i:=3) (oH fW) (λh=>bH iH.nd rfl (by first | exact F0 rfl | exact D8 rfl) h))
  (aN (bQ (i:=4) (pO) (λh=>bH iH.nd rfl (by first | exact F0 rfl | exact D8 rfl) h))
  (aN (rF [] PassesOwn.never rfl (oK (aM (pv 1))) (iM (i:=5) iH.nd rfl (by first | exact F0 rfl | exact D8 rfl)) (aN (bQ (i:=6) (bF gU (hr.mono (by decide)) rfl (aG (aM (pv 0)) (aG (XN.r (Ac (XN.r (bZ (XN.r (bZ (XN.r (Ad (aM (pv 5)) (XN.r (aJ)))) (XN.r (aJ)))) (XN.r (aJ)))) (XN.r (aJ)))) aQ))) (λh=>bH iH.nd rfl (by first | exact F0 rfl | exact D8 rfl) h))
  (aN (fQ (jB hu (aM (pv 6)) (aM (pv 4))) (aU (JL (Di (pv 3)) (bF wM (hr.mono (by decide)) rfl (aG (aM (pv 5)) (aG (aM (pv 6)) (aG (aM (pv 2)) aQ)))) (λa b=>zK (UT PySem.F.plainAttrs_list PySem.F.slot_list_append PySem.F.type_list_append yC a (bN b iU))))) cR)
  (aU (mZ (Di (pv 4)) (aM (pv 6)) (XN.r (eU)) (λa b c=>mW hu a b c rfl))))))
  (aU (Al (pv 3)))))⟩
theorem Yl:bL ["part"] ["part"] (aK Gz):=by walk_at "fs"
theorem Sd(R:Raw K mg "key_of" Gz):jP P w K mg base "key_of" 1 1 (lA K 1 fG):=by
 refine R.tU Yl (λ_ _ _ _ _ _ us hl=>match us,hl with | [_],_=>rfl) (λ_ _ _ _ _ _ _ hr=>?_)
 have gR:=hr.units
 have hu:=gJ hr
 exact⟨_,aU (cT (XR.n (gK (aM (pv 0)) (XN.r (aJ)) (λ_ _=>rfl))))⟩
theorem Ym:bL ["part"] ["part"] (aK Hf):=by walk_at "fs"
theorem Sg(R:Raw K mg "is_put" Hf) (PB:Je mg "PUT" "put"):jP P w K mg base "is_put" 1 1 (lA K 1 bK):=by
 refine R.tU Ym (λ_ _ _ _ _ _ us hl=>match us,hl with | [_],_=>rfl) (λ_ _ _ _ _ _ _ hr=>?_)
 have gR:=hr.units
 have hu:=gJ hr
 exact⟨_,aU (cT (Fz (or_eq gR rfl) yL (gK (aM (pv 0)) (XN.r (aJ)) (λ_ _=>rfl)) (XN.r (WR PB rfl)) (dB _)))⟩
theorem Hh:bL ["part"] ["part"] (aK rZ):=by walk_at "fs"
theorem El(R:Raw K mg "amount_of" rZ):jP P w K mg base "amount_of" 1 1 (lA K 1 bJ):=by
 refine R.tU Hh (λ_ _ _ _ _ _ us hl=>match us,hl with | [_],_=>rfl) (λ_ _ _ _ _ _ _ hr=>?_)
 have gR:=hr.units
 have hu:=gJ hr
 exact⟨_,aU (cT (XR.n (gK (aM (pv 0)) (XN.r (aJ)) (λ_ _=>rfl))))⟩
theorem bU:bL ["worths", "parts", "came", "part", "key"] ["worths", "parts"] (aK iQ):=by walk_at "fs"
theorem xP(R:Raw K mg "check_parts" iQ) (iI:jP P w K mg base "key_of" 1 1 (lA K 1 fG)) (cI:jP P w K mg base "amount_of" 1 1 (lA K 1 bJ)) (fH:jP P w K mg base "is_put" 1 1 (lA K 1 bK)):jP P w K mg base "check_parts" 2 2 (lA K 2 iR):=by
 refine R.tU bU (λ_ _ _ _ _ _ us hl=>match us,hl with | [_,_],_=>rfl) (λ_ _ _ _ _ _ _ hr=>?_)
 have gR:=hr.units
 have hu:=gJ hr
 exact⟨_,aN (bQ (i:=2) (pO) (λh=>bH bU.nd rfl (by first | exact F0 rfl | exact D8 rfl) h))
  (aU (rF [] PassesOwn.never rfl (oK (aM (pv 1))) (iM (i:=3) bU.nd rfl (by first | exact F0 rfl | exact D8 rfl)) (aN (bQ (i:=4) (bF iI (hr.mono (by decide)) rfl (aG (aM (pv 3)) aQ)) (λh=>bH bU.nd rfl (by first | exact F0 rfl | exact D8 rfl) h))
  (aN (fQ (qZ hu (aM (pv 4)) (aM (pv 2))) (aU (lR)) cR)
  (aN (fQ (XW.xt (iB (lM (XN.r (bF fH (hr.mono (by decide)) rfl (aG (aM (pv 3)) aQ)))) (eV (fV xV oF (XN.r (bF cI (hr.mono (by decide)) rfl (aG (aM (pv 3)) aQ))) (XN.r (aJ)) (dB _))))) (aU (lR)) cR)
  (aN (fQ (XW.xt (iB (Gd (lM (XN.r (bF fH (hr.mono (by decide)) rfl (aG (aM (pv 3)) aQ))))) (eV (jB hu (aM (pv 4)) (aM (pv 0)))))) (aU (lR)) cR)
  (aU (mZ (Di (pv 2)) (aM (pv 4)) (XN.r (eU)) (λa b c=>mW hu a b c rfl)))))))))⟩
theorem jM:bL ["rows", "parts", "worths", "part"] ["rows", "parts"] (aK qK):=by walk_at "fs"
theorem Hi(R:Raw K mg "plainly" qK) (mH:jP P w K mg base "check_parts" 2 2 (lA K 2 iR)) (fH:jP P w K mg base "is_put" 1 1 (lA K 1 bK)) (iI:jP P w K mg base "key_of" 1 1 (lA K 1 fG)) (cI:jP P w K mg base "amount_of" 1 1 (lA K 1 bJ)) (zdict:mg "dict" = none) (nH:mg "sorted" = none):jP P w K mg base "plainly" 3 2 (lA K 2 mC):=by
 refine R.tU jM (λ_ _ _ _ _ _ us hl=>match us,hl with | [_,_],_=>rfl) (λ_ _ _ _ _ _ _ hr=>?_)
 have gR:=hr.units
 have hu:=gJ hr
 exact⟨_,aN (bQ (i:=2) (Ir Dz (Ea rfl rfl) rfl zdict R9 (aG (aM (pv 0)) aQ)) (λh=>bH jM.nd rfl (by first | exact F0 rfl | exact D8 rfl) h))
  (aN (Jc (XN.r (bF mH (hr.mono (by decide)) rfl (aG (aM (pv 2)) (aG (aM (pv 1)) aQ)))))
  (aN (rF [] PassesOwn.never rfl (oK (aM (pv 1))) (iM (i:=3) jM.nd rfl (by first | exact F0 rfl | exact D8 rfl)) (aU (fQ (lM (XN.r (bF fH (hr.mono (by decide)) rfl (aG (aM (pv 3)) aQ)))) (aU (mZ (Di (pv 2)) (XN.r (bF iI (hr.mono (by decide)) rfl (aG (aM (pv 3)) aQ))) (XN.r (bF cI (hr.mono (by decide)) rfl (aG (aM (pv 3)) aQ))) (λa b c=>mW hu a b c rfl))) (aU (Xz (Di (pv 2)) (XN.r (bF iI (hr.mono (by decide)) rfl (aG (aM (pv 3)) aQ))) ⟨rfl,rfl,rfl,rfl⟩)))))
  (aU (cT (Rg (aM (pv 2)) ⟨rfl,rfl,rfl,rfl⟩ rfl nH Q9)))))⟩
theorem wN{κ:Nat→Addr}(R:Raw K mg "check_parts" iQ) (iI:jP P w K mg base "key_of" 1 1 (lA K 1 fG)) (cI:jP P w K mg base "amount_of" 1 1 (lA K 1 bJ)) (fH:jP P w K mg base "is_put" 1 1 (lA K 1 bK)) (sG:jQ K mg "Twice" (κ 0)) (jN:jQ K mg "NoWorth" (κ 1)) (sH:jQ K mg "NoKey" (κ 2)):Ls P w K mg base "check_parts" 2 2 (Zv K κ 2 (gG κ)):=by
 refine R.XQ bU (λ_ _ _ _ _ _ us hl=>match us,hl with | [_,_],_=>rfl) (λ_ _ _ _ _ _ _ hr=>?_)
 have gR:=hr.units
 have hu:=gJ hr
 exact⟨_,lU (bQ (i:=2) (pO) (λh=>bH bU.nd rfl (by first | exact F0 rfl | exact D8 rfl) h)) (dY (JS [] JP rfl (oK (aM (pv 1))) (iM (i:=3) bU.nd rfl (by first | exact F0 rfl | exact D8 rfl)) (aN (bQ (i:=4) (bF iI (hr.mono (by decide)) rfl (aG (aM (pv 3)) aQ)) (λh=>bH bU.nd rfl (by first | exact F0 rfl | exact D8 rfl) h))
  (aN (fQ (qZ hu (aM (pv 4)) (aM (pv 2))) (aU (lR)) cR)
  (aN (fQ (XW.xt (iB (lM (XN.r (bF fH (hr.mono (by decide)) rfl (aG (aM (pv 3)) aQ)))) (eV (fV xV oF (XN.r (bF cI (hr.mono (by decide)) rfl (aG (aM (pv 3)) aQ))) (XN.r (aJ)) (dB _))))) (aU (lR)) cR)
  (aN (fQ (XW.xt (iB (Gd (lM (XN.r (bF fH (hr.mono (by decide)) rfl (aG (aM (pv 3)) aQ))))) (eV (jB hu (aM (pv 4)) (aM (pv 0)))))) (aU (lR)) cR)
  (aU (mZ (Di (pv 2)) (aM (pv 4)) (XN.r (eU)) (λa b c=>mW hu a b c rfl))))))) (lU (bQ (i:=4) (bF iI (hr.mono (by decide)) rfl (aG (aM (pv 3)) aQ)) (λh=>bH bU.nd rfl (by first | exact F0 rfl | exact D8 rfl) h)) (Qi (dY (Qj (qZ hu (aM (pv 4)) (aM (pv 2))) (dY (vN sG rfl (aG (XN.r (iV)) aQ))) (Gi))) (lU (fQ (qZ hu (aM (pv 4)) (aM (pv 2))) (aU (lR)) cR) (Qi (dY (Qj (XW.xt (iB (lM (XN.r (bF fH (hr.mono (by decide)) rfl (aG (aM (pv 3)) aQ)))) (eV (fV xV oF (XN.r (bF cI (hr.mono (by decide)) rfl (aG (aM (pv 3)) aQ))) (XN.r (aJ)) (dB _))))) (dY (vN jN rfl (aG (XN.r (iV)) aQ))) (Gi))) (lU (fQ (XW.xt (iB (lM (XN.r (bF fH (hr.mono (by decide)) rfl (aG (aM (pv 3)) aQ)))) (eV (fV xV oF (XN.r (bF cI (hr.mono (by decide)) rfl (aG (aM (pv 3)) aQ))) (XN.r (aJ)) (dB _))))) (aU (lR)) cR) (dY (Qj (XW.xt (iB (Gd (lM (XN.r (bF fH (hr.mono (by decide)) rfl (aG (aM (pv 3)) aQ))))) (eV (jB hu (aM (pv 4)) (aM (pv 0)))))) (dY (vN sH rfl (aG (XN.r (iV)) aQ))) (Gi))))))))))⟩
theorem Em{κ:Nat→Addr}(R:Raw K mg "plainly" qK) (mJ:Ls P w K mg base "check_parts" 2 2 (Zv K κ 2 (gG κ))) (zdict:mg "dict" = none):Ls P w K mg base "plainly" 3 2 (Zv K κ 2 (jL κ)):=by
 refine R.XQ jM (λ_ _ _ _ _ _ us hl=>match us,hl with | [_,_],_=>rfl) (λ_ _ _ _ _ _ _ hr=>?_)
 have gR:=hr.units
 have hu:=gJ hr
 exact⟨_,lU (bQ (i:=2) (Ir Dz (Ea rfl rfl) rfl zdict R9 (aG (aM (pv 0)) aQ)) (λh=>bH jM.nd rfl (by first | exact F0 rfl | exact D8 rfl) h)) (dY (Xg (Jh mJ Ji (hr.mono (by decide)) rfl (aG (aM (pv 2)) (aG (aM (pv 1)) aQ))) Xc))⟩
theorem jO:bL ["rows", "parts", "told", "e", "other"] ["rows", "parts"] (aK wK):=by walk_at "fs"
theorem Hj{κ:Nat→Addr}(R:Raw K mg "_law_told" wK) (wO:jP P w K mg base "plainly" 3 2 (lA K 2 mC)) (wQ:Ls P w K mg base "plainly" 3 2 (Zv K κ 2 (jL κ))) (mK:jQ K mg "StoneError" (κ 3)) (sH:jQ K mg "NoKey" (κ 2)) (jN:jQ K mg "NoWorth" (κ 1)) (sG:jQ K mg "Twice" (κ 0)) (Bp:jQ K mg "NoText" (κ 10)) (Ho:jQ K mg "NoRow" (κ 9)) (wR:jQ K mg "NoPlace" (κ 8)) (Bq:jQ K mg "NoDeed" (κ 7)) (sI:jQ K mg "NoChange" (κ 6)) (Sh:jQ K mg "Full" (κ 5)) (sJ:jQ K mg "BadStone" (κ 4)) (XM:∀i j,i<3→j<11→A9 K (.ref (κ i)) (.ref (κ j))=some (rT i j)) (XC:∀i,i<3→oO K (κ i)) (XV:∀i,i<3→O2 K (.ref (κ i)) (.type "ValueError")=some true) (cV:mg "isinstance" = none) (mL:mg "ValueError" = none):jP P w K mg base "_law_told" 4 2 (lA K 2 (mG κ)):=by
 refine R.tU jO (λ_ _ _ _ _ _ us hl=>match us,hl with | [_,_],_=>rfl) (λ_ _ _ _ _ _ _ hr=>?_)
 have gR:=hr.units
 have hu:=gJ hr
 exact⟨_,aN (bQ (i:=2) (oH fW) (λh=>bH jO.nd rfl (by first | exact F0 rfl | exact D8 rfl) h))
  (aN (JT (n:=3) (nj:=11) (sub:=rT) XM (λpn=>⟨_,aU (Jc (XN.r (bF wO (hr.mono (by decide)) rfl (aG (aM (pv 0)) (aG (aM (pv 1)) aQ)))))⟩) (λpn Ex E=>⟨_,Xh (Jh wQ Ji (hr.mono (by decide)) rfl (aG (aM (pv 0)) (aG (aM (pv 1)) aQ)))⟩) (λi=>.as (k:=3) mK.mg rfl (by decide) jO.nd rfl rfl (λpn e oe hi hc hm=>⟨_,KH (i:=4) (by decide) (Xl (cs:=([4,5,6,7,8,9,10]:List Nat).map κ) (b:=([4,5,6,7,8,9,10]:List Nat).any (rT i)) (G5 rfl) (pv 3) (Ny (bN (eG rfl sJ.mg rfl) (bN (eG rfl Sh.mg rfl) (bN (eG rfl sI.mg rfl) (bN (eG rfl Bq.mg rfl) (bN (eG rfl wR.mg rfl) (bN (eG rfl Ho.mg rfl) (bN (eG rfl Bp.mg rfl) (iU))))))))) (KD rfl hm hc (XC i hi) (XX (by decide) XM Yj i hi [4,5,6,7,8,9,10] (by decide))) rfl cV) (λh=>bH jO.nd rfl (by first | exact F0 rfl | exact D8 rfl) h) (Xo (i:=2) (Xn (lV (Av (b:=rT i 0) (pv 3) (eG rfl sG.mg rfl) (Gj rfl hm hc (XC i hi) (Xp (by decide) XM Yj i 0 hi (by decide))) rfl cV) (lV (Av (b:=rT i 1) (pv 3) (eG rfl jN.mg rfl) (Gj rfl hm hc (XC i hi) (Xp (by decide) XM Yj i 1 hi (by decide))) rfl cV) (lV (Av (b:=rT i 2) (pv 3) (eG rfl sH.mg rfl) (Gj rfl hm hc (XC i hi) (Xp (by decide) XM Yj i 2 hi (by decide))) rfl cV) (lV (XH (JX (pv 3) (Ve (v:=.ty "ValueError") rfl mL rfl rfl) (JW rfl hm hc (XV i hi)) rfl cV)) (lV (XF (XR.n (aM (pv 4)))) (Xm))))))) (λh=>bH jO.nd rfl (by first | exact F0 rfl | exact D8 rfl) h))⟩) (.nil)))
  (aU (Al (pv 2))))⟩
theorem wU:bL ["worths", "parts", "met", "part"] ["worths", "parts"] (aK Bl):=by walk_at "fs"
theorem Mt(R:Raw K mg "_law_due" Bl):jP P w K mg base "_law_due" 1 2 (lA K 2 qL):=by
 refine R.tU wU (λ_ _ _ _ _ _ us hl=>match us,hl with | [_,_],_=>rfl) (λ_ _ _ _ _ _ _ hr=>?_)
 have gR:=hr.units
 have hu:=gJ hr
 exact⟨_,aN (bQ (i:=2) (pO) (λh=>bH wU.nd rfl (by first | exact F0 rfl | exact D8 rfl) h))
  (aN (rF [] PassesOwn.never rfl (oK (aM (pv 1))) (iM (i:=3) wU.nd rfl (by first | exact F0 rfl | exact D8 rfl)) (aN (fQ (qZ hu (gK (aM (pv 3)) (XN.r (aJ)) (λ_ _=>rfl)) (aM (pv 2))) (aU (cT (oH (aV (eU) (aV (eU) (aV (eU) (aV (eU) (aV (eU) fW)))))))) cR)
  (aN (fQ (XW.xt (iB (fV (or_eq gR rfl) yL (gK (aM (pv 3)) (XN.r (aJ)) (λ_ _=>rfl)) (XN.r (iV)) (dB _)) (eV (fV xV oF (gK (aM (pv 3)) (XN.r (aJ)) (λ_ _=>rfl)) (XN.r (aJ)) (dB _))))) (aU (cT (oH (aV (eU) (aV (eU) (aV (eU) (aV (eU) (aV (eU) fW)))))))) cR)
  (aN (fQ (XW.xt (iB (fV (or_eq gR rfl) yL (gK (aM (pv 3)) (XN.r (aJ)) (λ_ _=>rfl)) (XN.r (iV)) (dB _)) (eV (jB hu (gK (aM (pv 3)) (XN.r (aJ)) (λ_ _=>rfl)) (aM (pv 0)))))) (aU (cT (oH (aV (eU) (aV (eU) (aV (eU) (aV (eU) (aV (eU) fW)))))))) cR)
  (aU (mZ (Di (pv 2)) (gK (aM (pv 3)) (XN.r (aJ)) (λ_ _=>rfl)) (XN.r (eU)) (λa b c=>mW hu a b c rfl)))))))
  (aU (cT (oH fW))))⟩
theorem nZ:bL ["script", "first", "cells", "many", "worths", "cell", "rows", "faults", "parts", "given"] ["script"] (aK Yk):=by walk_at "fs"
theorem PJ{κ:Nat→Addr}{f:Addr}{fd:FuncData}(F:Uw K "law" "law" Yk f fd) (iJ:jP P w K mg base "_law_cell_at" 1 2 (lA K 2 cC)) (gU:jP P w K mg base "_law_key" 1 2 (lA K 2 gQ)) (oY:jP P w K mg base "_law_spoilt" 3 3 (Rn K 3 gA 1 2)) (sO:jP P w K mg base "_law_parts" 2 3 (lA K 3 gB)) (wV:jP P w K mg base "_law_told" 4 2 (lA K 2 (mG κ))) (Br:jP P w K mg base "_law_due" 1 2 (lA K 2 qL)) (tW:mg "len" = none) (nH:mg "sorted" = none) (Jx:mg "list" = none) (JM:∀ns:List Int,ns.length≤63→(∀k∈ns,Small k)→OJ κ [.lst (ns.map D.int)]=some (.bl true)):pC P w K mg base Lh 5 f fd ["script"] (gj K):=by
 refine F.ud nZ (λcdv A outer s H E hr=>?_) JM
 have gR:=hr.units
 have hu:=gJ hr
 exact⟨_,aN (bQ (i:=1) (bF iJ (hr.mono (by decide)) rfl (aG (aM (pv 0)) (aG (XN.r (aJ)) aQ))) (λh=>bH nZ.nd rfl (by first | exact F0 rfl | exact D8 rfl) h))
  (aN (bQ (i:=2) (Dg (aM (pv 0)) (jV (XN.r (aJ))) (jV (XN.r (aJ)))) (λh=>bH nZ.nd rfl (by first | exact F0 rfl | exact D8 rfl) h))
  (aN (bQ (i:=3) (bZ (XN.r (jU (aM (pv 1)) (XN.r (aJ)))) (XN.r (eY (XN.r (Ip Ah (Ai rfl) rfl tW P4 (aG (aM (pv 2)) aQ))) (XN.r (aJ))))) (λh=>bH nZ.nd rfl (by first | exact F0 rfl | exact D8 rfl) h))
  (aN (bQ (i:=4) (pO) (λh=>bH nZ.nd rfl (by first | exact F0 rfl | exact D8 rfl) h))
  (aN (rF [2,3] PassesOwn.never rfl (oK (pQ (aM (pv 2)) (pP) (jV (aM (pv 3))))) (iM (i:=5) nZ.nd rfl (by first | exact F0 rfl | exact D8 rfl)) (aU (mZ (Di (pv 4)) (XN.r (bF gU (hr.mono (by decide)) rfl (aG (aM (pv 1)) (aG (XN.r (Ac (XN.r (bZ (XN.r (bZ (XN.r (Ad (aM (pv 5)) (XN.r (aJ)))) (XN.r (aJ)))) (XN.r (aJ)))) (XN.r (aJ)))) aQ)))) (XN.r (bZ (XN.r (Jb (XN.r (eY (aM (pv 5)) (XN.r (aJ)))) (XN.r (eY (aM (pv 5)) (XN.r (aJ)))))) (XN.r (oG (XN.r (aJ)) (XN.r (aJ)))))) (λa b c=>mW hu a b c rfl))))
  (aN (Yc (t:=4) (i:=6) (fr:=[4]) ["key", "worths"] rfl (.at (aK Yk) ["script", "first", "cells", "many", "worths", "cell", "rows", "faults", "parts", "given"] (by decide +kernel)) (pv 4) (Wg (by decide +kernel) rfl rfl) (λ_ _ _ _ _=>rB (aV (XR.n (aM (pv 0))) (aV (XR.n (Ws hu (aM (pv 1)) (aM (pv 0)) (λ_ _=>rfl))) fW))) rfl rfl nH Q9 nZ.nd rfl (by first | exact F0 rfl | exact D8 rfl))
  (aN (bQ (i:=7) (Dg (rA (aG (XN.r (bF iJ (hr.mono (by decide)) rfl (aG (aM (pv 0)) (aG (XN.r (aJ)) aQ)))) (aG (XN.r (bF iJ (hr.mono (by decide)) rfl (aG (aM (pv 0)) (aG (XN.r (aJ)) aQ)))) aQ))) (pP) (jV (XN.r (bZ (XN.r (jU (aM (pv 1)) (XN.r (aJ)))) (XN.r (aJ)))))) (λh=>bH nZ.nd rfl (by first | exact F0 rfl | exact D8 rfl) h))
  (aN (bQ (i:=8) (Ye oY (hr.mono (by decide)) rfl (aM (pv 1)) (aM (pv 7)) (bF sO (hr.mono (by decide)) rfl (aG (aM (pv 1)) (aG (pQ (aM (pv 2)) (jV (aM (pv 3))) (pP)) (aG (aM (pv 4)) aQ))))) (λh=>bH nZ.nd rfl (by first | exact F0 rfl | exact D8 rfl) h))
  (aN (bQ (i:=9) (oH (aV (Ir Iu (Iv rfl) rfl Jx S0 (aG (aM (pv 6)) aQ)) (aV (Ir Iu (Iv rfl) rfl Jx S0 (aG (aM (pv 8)) aQ)) fW))) (λh=>bH nZ.nd rfl (by first | exact F0 rfl | exact D8 rfl) h))
  (aU (cT (JB (XN.r (Fz (KR gR rfl) KQ (XN.r (bF wV (hr.mono (by decide)) rfl (aG (gK (aM (pv 9)) (XN.r (aJ)) (λ_ _=>rfl)) (aG (gK (aM (pv 9)) (XN.r (aJ)) (λ_ _=>rfl)) aQ)))) (XN.r (bF Br (hr.mono (by decide)) rfl (aG (aM (pv 4)) (aG (aM (pv 8)) aQ)))) (dB _))) (Wu (Fz (LR gR rfl) (LQ true) (aM (pv 9)) (rA (aG (aM (pv 6)) (aG (aM (pv 8)) aQ))) (dB _))))))))))))))⟩
end
end Rs

namespace Rs
open PySem L2
local macro_rules | `(tactic| walk_at "lt")=>`(tactic| exact G5 rfl)
local macro_rules | `(tactic| walk_at "sc")=>`(tactic| first | omega | with_reducible assumption | exact Int.pow_pos (by decide) | exact cm_l (by omega) (by omega) | exact Rp (by omega) (by omega))
local macro_rules | `(tactic| walk_at "op")=>`(tactic| first | with_reducible assumption | with_reducible exact cH _ _ | with_reducible exact jJ _ _ | with_reducible exact qG _ _ | with_reducible exact dNe_int _ _ | with_reducible exact qF _ _ | with_reducible exact Bg _ _ | with_reducible exact dGe_int _ _ | with_reducible exact dLe_int _ _ | with_reducible exact rO _ | with_reducible exact qH _ | with_reducible exact dLen_tup _ | ((with_reducible apply jK);walk_at "sc") | ((with_reducible apply bA);walk_at "sc") | ((with_reducible apply cU);(walk_at "sc");walk_at "sc") | ((with_reducible apply iD);exact⟨by decide,by decide,by omega⟩) | ((with_reducible apply vZ);(walk_at "sc");walk_at "sc"))
local macro_rules | `(tactic| walk_at "ea")=>`(tactic| first | with_reducible exact Rq | ((with_reducible apply aC);(walk_at "ev");walk_at "ea"))
local macro_rules | `(tactic| walk_at "ev")=>`(tactic| first | ((with_reducible apply Yi);exact rfl) | with_reducible exact fC_ok | with_reducible assumption | ((with_reducible apply aL);(walk_at "ev");(walk_at "ev");walk_at "op") | ((with_reducible apply qD);(walk_at "ea");walk_at "op") | ((with_reducible apply aW);(walk_at "ea");exact rfl;with_reducible assumption) | ((with_reducible apply cD);(walk_at "ev");exact rfl) | ((with_reducible apply Js);walk_at "ev") | ((with_reducible apply jY);(walk_at "ea");walk_at "lt") | ((with_reducible apply cB);(walk_at "ea");walk_at "lt"))
local macro_rules | `(tactic| walk_at "et")=>`(tactic| first | ((with_reducible apply Be);walk_at "et") | ((with_reducible apply fOr_ok);(walk_at "et");walk_at "et") | ((with_reducible apply gP);(walk_at "et");walk_at "et") | ((with_reducible apply cN);walk_at "ev"))
local macro_rules | `(tactic| walk_at "set")=>`(tactic| (apply sq_set;(walk_at "ev");(walk_at "lt")))
local macro_rules | `(tactic| walk_at "q")=>`(tactic| (apply cZ;(walk_at "ev");(walk_at "lt")))
local macro_rules | `(tactic| walk_at "op")=>`(tactic| first | with_reducible assumption | with_reducible exact cH _ _ | with_reducible exact jJ _ _ | with_reducible exact qG _ _ | with_reducible exact dNe_int _ _ | with_reducible exact qF _ _ | with_reducible exact Bg _ _ | with_reducible exact dGe_int _ _ | with_reducible exact dLe_int _ _ | with_reducible exact rO _ | with_reducible exact len_chs _ | with_reducible exact wD _ _ _ | with_reducible exact dMin2_int _ _ | with_reducible exact dMax2_int _ _ | with_reducible exact dIntB_bl _ | with_reducible exact ix_pane _ | with_reducible exact ix_place _ | with_reducible exact ix_thing _ | with_reducible exact ix_needs _ | ((with_reducible apply ix_chs);omega) | with_reducible exact qH _ | with_reducible exact dLen_tup _ | ((with_reducible apply jK);walk_at "sc") | ((with_reducible apply rR);(walk_at "sc");walk_at "sc") | ((with_reducible apply bA);walk_at "sc") | ((with_reducible apply cU);(walk_at "sc");walk_at "sc") | ((with_reducible apply iD);exact⟨by decide,by decide,by omega⟩) | ((with_reducible apply vZ);(walk_at "sc");walk_at "sc"))
theorem En(a b:Str):Ca (.str a) (.str b)=some (.bl (decide (a=b))):=by
 show (if Nu (V.str a) (V.str b)=true then some (D.bl (decide (V.str a=V.str b)))else none)=_
 rw[if_pos (show Nu (V.str a) (V.str b)=true from rfl)]
 by_cases c:a=b
 ·rw[decide_eq_true c,decide_eq_true (by rw[c])]
 ·rw[decide_eq_false c,decide_eq_false λz=>c (V.str.inj z)]
structure Pt where
 put:Bool
 key:Int
 am:Int
def gO(p:Pt):D:=if p.put=true then .tup [.str "put", .int p.key,.int p.am]else .tup [.str "take", .int p.key]
def bC(ps:List Pt):D:=.lst (ps.map gO)
theorem Hq(p:Pt):(gO p).fO=true:=by unfold gO;split<;>rfl
theorem mO:∀ps:List Pt,D.cF (ps.map gO)=true
 | []=>rfl
 | p::ps=>by
  rw[B5]
  unfold D.cF
  rw[Hq,mO ps]
  rfl
theorem Hr(p:Pt):oZ (gO p) (.int 0)=some (.str (if p.put=true then "put" else "take")):=by
 unfold gO
 split<;>exact Bh (by decide) rfl
theorem wW(p:Pt):oZ (gO p) (.int 1)=some (.int p.key):=by
 unfold gO
 split<;>exact Bh (by decide) rfl
theorem Sq{p:Pt}(h:p.put=true):oZ (gO p) (.int 2)=some (.int p.am):=by
 unfold gO
 rw[if_pos h]
 exact Bh (by decide) rfl
theorem Jy(p:Pt):Ca (.str (if p.put=true then "put" else "take")) (.str "put")=some (.bl p.put):=by
 rw[En]
 cases p.put with
 | true=>rw[if_pos rfl,decide_eq_true rfl]
 | false=>rw[if_neg C6,decide_eq_false (by decide)]
theorem qM(p:Pt):fG [gO p]=some (.int p.key):=lY rfl (jX (cD (aL rfl rfl (wW p)) rfl))
theorem mQ(p:Pt):bK [gO p]=some (.bl p.put):=lY rfl (jX (aL (aL rfl rfl (Hr p)) rfl (Jy p)))
theorem Bu{p:Pt}(h:p.put=true):bJ [gO p]=some (.int p.am):=lY rfl (jX (cD (aL rfl rfl (Sq h)) rfl))
abbrev dD(m:List (Int×Int)):List Int:=m.map (·.1)
def dM(m:List (Int×Int)):D:=.dk ((dD m).map B7) (m.map λp=>.int p.2)
def wX(m:List (Int×Int))(k v:Int):List (Int×Int):=if k∈dD m then m.map λp=>if p.1=k then(k,v)else p else m++[(k,v)]
def Bv(m:List (Int×Int))(k:Int):List (Int×Int):=m.filter λp=>decide (p.1≠k)
theorem Bw(neg:Bool)(i:Int)(m:List (Int×Int)):eE neg (.int i) (dM m)=some (.bl (if neg then !decide (i∈dD m)else decide (i∈dD m))):=by
 show some (D.bl (if neg then !(posK ((dD m).map (B7:Int→Key)) (B7 i)).isSome else(posK ((dD m).map (B7:Int→Key)) (B7 i)).isSome))=_
 rw[wC]
theorem Jz(m:List (Int×Int))(k v:Int):dD (wX m k v)=iK (dD m) k:=by
 unfold wX iK
 by_cases c:k∈dD m
 ·rw[if_pos c,if_pos c]
  unfold dD
  rw[N1]
  refine T8 λp _=>?_
  show (if p.1=k then(k,v)else p).1=p.1
  split
  ·rename_i h;exact h.symm
  ·rfl
 ·rw[if_neg c,if_neg c]
  unfold dD
  rw[G6]
  rfl
theorem Zz(k v:Int):∀m:List (Int×Int),P0 (λ(k':Key) (d':D)=>if k'=B7 k then D.int v else d') ((dD m).map B7) (m.map λp=>D.int p.2)=(m.map λp=>if p.1=k then(k,v)else p).map λp=>D.int p.2
 | []=>rfl
 | p::m=>by
  show (if(B7 p.1:Key)=B7 k then D.int v else D.int p.2)::_=D.int (if p.1=k then(k,v)else p).2::_
  have ih:=Zz k v m
  congr 1
  by_cases c:p.1=k
  ·rw[if_pos c,if_pos (by rw[c])]
  ·rw[if_neg c,if_neg λz=>c (P5 z)]
theorem BJ{i:Nat}{f f':FE}{env:EN}{m:List (Int×Int)}{k v:Int}(h1:env[i]?=some (.own (dM m)))(h2:f (rE env)=some (.int k))(h3:f' (rE env)=some (.int v))(hl:m.length<1000):iC i jE f f' env=.next (env.set i (.own (dM (wX m k v)))):=by
 unfold iC jE
 rw[h1,h2,h3]
 dsimp only[pW,dM]
 show (if D.fO (.int v)=true∧((dD m).map (B7:Int→Key)).length<100000 then _ else _)=_
 rw[if_pos ⟨rfl,by rw[B3,B3];omega⟩]
 have e1:vG ((dD m).map (B7:Int→Key)) (B7 k)=(dD (wX m k v)).map B7:=by
  rw[Jz]
  unfold vG iK
  rw[wC]
  by_cases c:k∈dD m
  ·rw[decide_eq_true c,if_pos rfl,if_pos c]
  ·rw[decide_eq_false c,if_neg (by decide),if_neg c,G6]
   rfl
 have e2:putD ((dD m).map (B7:Int→Key)) (m.map λp=>D.int p.2) (B7 k) (.int v)=(wX m k v).map λp=>D.int p.2:=by
  unfold putD wX
  rw[wC]
  by_cases c:k∈dD m
  ·rw[decide_eq_true c,if_pos rfl,if_pos c,Zz]
  ·rw[decide_eq_false c,if_neg (by decide),if_neg c,G6]
   rfl
 rw[e1,e2]
 rfl
theorem Hs(k:Int):∀m:List (Int×Int),Gu ((dD m).map B7) (B7 k)=(dD (Bv m k)).map B7∧oV ((dD m).map B7) (m.map λp=>D.int p.2) (B7 k)=(Bv m k).map λp=>D.int p.2
 | []=>⟨rfl,rfl⟩
 | p::m=>by
  obtain⟨h1,h2⟩:=Hs k m
  unfold Gu at h1 ⊢
  unfold Bv at h1 h2 ⊢
  show ((B7 p.1:Key)::(dD m).map B7).filter _=_∧(if(B7 p.1:Key)=B7 k then oV ((dD m).map B7) (m.map λp=>D.int p.2) (B7 k)else D.int p.2::oV ((dD m).map B7) (m.map λp=>D.int p.2) (B7 k))=_
  rw[M3,M3]
  by_cases c:p.1=k
  ·rw[if_neg (by simp[c]),if_neg (by simp[c]),if_pos (by rw[c])]
   exact⟨h1,h2⟩
  ·rw[if_pos (by simpa using λz=>c z),if_pos (by simpa using c),if_neg λz=>c (P5 z),h1,h2]
   exact⟨rfl,rfl⟩
theorem YM{i:Nat}{g:FE}{env:EN}{m:List (Int×Int)}{k:Int}(h1:env[i]?=some (.own (dM m)))(h2:g (rE env)=some (.int k))(hk:k∈dD m):yQ i jE g env=.next (env.set i (.own (dM (Bv m k)))):=by
 unfold yQ jE
 rw[h1,h2]
 dsimp only[pW,dM]
 show (if(posK ((dD m).map (B7:Int→Key)) (B7 k)).isSome=true then _ else _)=_
 rw[if_pos (by rw[wC];exact decide_eq_true hk),(Hs k m).1,(Hs k m).2]
 rfl
theorem wY{m:List (Int×Int)}{k v:Int}(h:(dD m).Nodup):(dD (wX m k v)).Nodup:=by rw[Jz];exact Gx h
theorem Eo(m:List (Int×Int))(k v:Int):(wX m k v).length≤m.length+1:=by
 unfold wX
 split
 ·rw[B3];omega
 ·rw[F1];exact B9 _
theorem Ss{m:List (Int×Int)}{k v a b:Int}:(a,b)∈wX m k v↔(a=k∧b=v)∨(a≠k∧(a,b)∈m):=by
  unfold wX
  by_cases c:k∈dD m
  · rw[if_pos c,G0]
    constructor
    · rintro⟨p,hp,e⟩
      by_cases z:p.1=k
      · rw[if_pos z]at e
        cases e
        exact .inl ⟨rfl,rfl⟩
      · rw[if_neg z]at e
        subst e
        exact .inr ⟨z,hp⟩
    · rintro(⟨rfl,rfl⟩ | ⟨z,hp⟩)
      · obtain⟨p,hp,e⟩:=G0.mp c
        exact⟨p,hp,by rw[if_pos e]⟩
      · exact⟨(a,b),hp,by rw[if_neg z]⟩
  · rw[if_neg c,K3,F7]
    constructor
    · rintro(z | z)
      · exact .inr ⟨λe=>c (G0.mpr ⟨(a,b),z,e⟩),z⟩
      · cases z
        exact .inl ⟨rfl,rfl⟩
    · rintro(⟨rfl,rfl⟩ | ⟨_,z⟩)
      · exact .inr rfl
      · exact .inl z
theorem Su{m:List (Int×Int)}{k a b:Int}:(a,b)∈Bv m k↔a≠k∧(a,b)∈m:=by
 unfold Bv
 rw[R4,decide_eq_true_iff]
 exact⟨λz=>⟨z.2,z.1⟩,λz=>⟨z.2,z.1⟩⟩
theorem Ht{m:List (Int×Int)}{k:Int}(h:(dD m).Nodup):(dD (Bv m k)).Nodup:=by
 unfold dD Bv at *
 exact(V7 _ List.filter_sublist).nodup h
structure je(m:List (Int×Int))(ps:List Pt):Prop where
 nd:(ps.map Pt.key).Nodup
 am:∀p∈ps,p.put=true→0≤p.am
 tk:∀p∈ps,p.put=false→p.key∈dD m
theorem mR{α:Type}{l:List α}{n:Nat}{x:α}(h:l[n]?=some x):l.take (n+1)=l.take n++[x]:=by rw[List.take_add_one,h];rfl
theorem Ka{ps:List Pt}(h:(ps.map Pt.key).Nodup){n:Nat}{p:Pt}(hp:ps[n]?=some p):p.key∉(ps.take n).map Pt.key:=λz=>by
 have e:(ps.take (n+1)).map Pt.key=(ps.take n).map Pt.key++[p.key]:=by rw[mR hp,G6];rfl
 have hs:((ps.take (n+1)).map Pt.key).Nodup:=(V7 _ (U8 _ _)).nodup h
 rw[e,V0]at hs
 exact hs.2.2 _ z _ (F7.mpr rfl) rfl
theorem Yn{n m:Nat}{g:GS}{ds:List D}(hl:ds.length=m)(h:Qs (λr=>∃e,r=.next e) (g (ds.map SD.fro++D9 (n-m) SD.no))):gH n m g ds=some .non:=by
 obtain⟨e,h⟩:=h
 unfold gH
 rw[if_pos hl,h]
theorem wZ{Pr:SR→Prop}{g1:GS}{env env':EN}(h:g1 env=.next env')(k:Pr (.next env')):Qs Pr (g1 env):=by
 unfold Qs
 rw[h]
 exact k
theorem Sv{m:List (Int×Int)}{ps:List Pt}(h:je m ps)(hl:ps.length≤100):iR [dM m,bC ps]=some .non:=by
 refine Yn rfl ?_
 unfold tK
 refine cZ (d:=tH []) rfl (by exact Nat.le_of_ble_eq_true rfl) ?_
 refine NQ (xs:=ps.map gO) (λn env=>∃(ks:List Int)(v3 v4:SD),env=[.fro (dM m),.fro (bC ps),.own (tH ks),v3,v4]∧(∀k,k∈ks↔k∈(ps.take n).map Pt.key)∧ks.length≤n) rfl (iG rfl) ⟨[],_,_,rfl,λk=>(by simp),B9 _⟩ ?_ ?_
 ·rintro n x env hx ⟨ks,v3,v4,rfl,hm,hll⟩
  refine⟨by walk_at "lt", ?_⟩
  rw[C5]at hx
  obtain⟨p,hp,rfl⟩:=fJ hx
  have hn:=(B8.mp hp).1
  have hin:=F9 hp
  have hk:p.key∉ks:=λz=>Ka h.nd hp ((hm _).mp z)
  refine cZ (aW (aC rfl rfl) rfl (qM p)) (by exact Nat.le_of_ble_eq_true rfl) ?_
  refine Rr (b:=false) ((cN (aL rfl rfl (wD false p.key ks))).trans (by rw[if_neg (by decide),decide_eq_false hk])) rfl (wB ?_)
  have t2:dU (fB (aP 1 bK (aB (aD 3) aF))) (fB (f2 Ga (aP 1 bJ (aB (aD 3) aF)) (fC (.int 0)))) (rE [.fro (dM m),.fro (bC ps),.own (tH ks),.fro (gO p),.own (.int p.key)])=some false:=by
   have a1:fB (aP 1 bK (aB (aD 3) aF)) (rE [.fro (dM m),.fro (bC ps),.own (tH ks),.fro (gO p),.own (.int p.key)])=some p.put:=cN (aW (aC rfl rfl) rfl (mQ p))
   cases c:p.put with
   | false=>rw[c]at a1;exact Bf a1
   | true=>
    rw[c]at a1
    have hm:=h.am p hin c
    exact(gP a1 (cN (aL (aW (aC rfl rfl) rfl (Bu c)) rfl (qF _ _)))).trans (by rw[decide_eq_false (by omega)];rfl)
  refine Rr (b:=false) t2 rfl (wB ?_)
  have t3:dU (oJ (fB (aP 1 bK (aB (aD 3) aF)))) (fB (f2 (eE true) (aD 4) (aD 0))) (rE [.fro (dM m),.fro (bC ps),.own (tH ks),.fro (gO p),.own (.int p.key)])=some false:=by
   have a1:oJ (fB (aP 1 bK (aB (aD 3) aF))) (rE [.fro (dM m),.fro (bC ps),.own (tH ks),.fro (gO p),.own (.int p.key)])=some (!p.put):=Be (cN (aW (aC rfl rfl) rfl (mQ p)))
   cases c:p.put with
   | true=>rw[c]at a1;exact Bf a1
   | false=>
    rw[c]at a1
    have hm:=h.tk p hin c
    exact(gP a1 (cN (aL rfl rfl (Bw true p.key m)))).trans (by rw[if_pos rfl,decide_eq_true hm];rfl)
  refine Rr (b:=false) t3 rfl (wB ?_)
  refine wZ (Ec (ks:=ks) (k:=p.key) rfl rfl rfl (by omega)) ⟨_,rfl,iK ks p.key,_,_,rfl,λk=>?_,?_⟩
  ·rw[wF,hm,mR hp,G6,K3]
   exact or_congr_right F7.symm
  ·have:=qI ks p.key
   omega
 ·rintro env ⟨ks,v3,v4,rfl,_,_⟩
  exact⟨_,rfl⟩
theorem sS:∀ps:List (Int×Int),nY (ps.map pD)=some ps
 | []=>rfl
 | p::ps=>by
  rw[B5]
  show (nY (ps.map pD)).map ((p.1,p.2)::·)=_
  rw[sS ps]
  rfl
theorem Kc:∀m:List (Int×Int),tV ((dD m).map B7) (m.map λp=>.int p.2)=some m
 | []=>rfl
 | p::m=>by
  show (tV ((dD m).map B7) (m.map λp=>.int p.2)).map ((p.1,p.2)::·)=_
  rw[Kc m]
  rfl
theorem Ep{rs:List (Int×Int)}(hn:(dD rs).Nodup)(hl:rs.length≤1000):vW [.lst (rs.map pD)]=some (dM rs):=by
 show (nY (rs.map pD)).bind _=_
 rw[sS,C7,if_pos ⟨hl,hn⟩]
 unfold dM dD
 rw[N1]
 rfl
theorem Mu{m:List (Int×Int)}(hn:(dD m).Nodup)(hl:m.length<64):Bb (dM m)=some (.lst ((cM m).map pD)):=by
 show (tV ((dD m).map B7) (m.map λp=>.int p.2)).bind _=_
 rw[Kc,C7,if_pos ⟨hl,hn⟩]
theorem Mv{m:List (Int×Int)}(hn:(dD m).Nodup)(hl:m.length<64):Ay [.lst (m.map pD)]=some (.lst ((cM m).map pD)):=by
 show (nY (m.map pD)).bind _=_
 rw[sS,C7,if_pos ⟨hl,hn⟩]
def Made(rs:List (Int×Int))(ps:List Pt)(m:List (Int×Int)):Prop:=(dD m).Nodup∧∀a b,(a,b)∈m↔(a∉ps.map Pt.key∧(a,b)∈rs)∨∃p∈ps,p.put=true∧p.key=a∧p.am=b
theorem Hu{rs:List (Int×Int)}{ps:List Pt}(hn:(dD rs).Nodup)(h:je rs ps)(hl:rs.length+ps.length<64):∃m,mC [.lst (rs.map pD),bC ps]=some (.lst ((cM m).map pD))∧Made rs ps m:=by
  suffices hh:∃d,mC [.lst (rs.map pD),bC ps]=some d∧∃m,d=.lst ((cM m).map pD)∧Made rs ps m by
    obtain⟨d,h1,m,rfl,h2⟩:=hh
    exact⟨m,h1,h2⟩
  refine jZ rfl ?_
  unfold Eg
  refine cZ (qD (aC rfl rfl) (Ep hn (by omega))) (by exact Nat.le_of_ble_eq_true rfl) ?_
  refine Rz (aW (aC rfl (aC rfl rfl)) rfl (Sv h (by omega))) ?_
  refine Jt (xs:=ps.map gO) (λn env=>∃(m:List (Int×Int))(v3:SD),env=[.fro (.lst (rs.map pD)),.fro (bC ps),.own (dM m),v3]∧Made rs (ps.take n) m∧m.length≤rs.length+n) rfl (iG rfl) ⟨rs,_,rfl,⟨hn,λa b=>⟨λz=>.inl ⟨by simp,z⟩,λz=>z.elim (λz=>z.2) λ⟨p,hp,_⟩=>(by simp at hp)⟩⟩,B9 _⟩ ?_ ?_
  · rintro n x env hx ⟨m,v3,rfl,⟨hm1,hm2⟩,hml⟩
    refine⟨by walk_at "lt", ?_⟩
    rw[C5]at hx
    obtain⟨p,hp,rfl⟩:=fJ hx
    have hpn:=(B8.mp hp).1
    have hnew:=Ka h.nd hp
    have hin:=F9 hp
    have mem_cons:∀a,a∈((ps.take (n+1)).map Pt.key)↔a∈(ps.take n).map Pt.key∨a=p.key:=λa=>by
      rw[mR hp,G6,K3]
      exact or_congr_right F7
    refine YJ (cN (aW (aC rfl rfl) rfl (mQ p))) (λSw=>?_) λSw=>?_
    · refine wZ (BJ (m:=m) (k:=p.key) (v:=p.am) rfl (aW (aC rfl rfl) rfl (qM p)) (aW (aC rfl rfl) rfl (Bu Sw)) (by omega)) ⟨_,rfl,_,_,rfl,⟨wY hm1,λa b=>?_⟩,?_⟩
      · rw[Ss,hm2,mem_cons,mR hp]
        constructor
        · rintro(⟨rfl,rfl⟩ | ⟨ne,⟨z1,z2⟩ | ⟨q,hq,r⟩⟩)
          · exact .inr ⟨p,C8 _ (F7.mpr rfl),Sw,rfl,rfl⟩
          · exact .inl ⟨λz=>z.elim z1 ne,z2⟩
          · exact .inr ⟨q,F6 _ hq,r⟩
        · rintro(⟨z1,z2⟩ | ⟨q,hq,q1,q2,q3⟩)
          · exact .inr ⟨λz=>z1 (.inr z),.inl ⟨λz=>z1 (.inl z),z2⟩⟩
          · rcases K3.mp hq with w | w
            · refine .inr ⟨λz=>hnew ?_,.inr ⟨q,w,q1,q2,q3⟩⟩
              rw[←z,←q2]
              exact G0.mpr ⟨q,w,rfl⟩
            · rw[F7.mp w]at q2 q3
              exact .inl ⟨q2.symm,q3.symm⟩
      · have:=Eo m p.key p.am
        omega
    · have hk:=h.tk p hin Sw
      have hkm:p.key∈dD m:=by
        obtain⟨⟨a,b⟩,ha,e⟩:=G0.mp hk
        have e:a=p.key:=e
        subst e
        exact G0.mpr ⟨(p.key,b),(hm2 _ _).mpr (.inl ⟨hnew,ha⟩),rfl⟩
      refine wZ (YM (m:=m) (k:=p.key) rfl (aW (aC rfl rfl) rfl (qM p)) hkm) ⟨_,rfl,_,_,rfl,⟨Ht hm1,λa b=>?_⟩,?_⟩
      · rw[Su,hm2,mem_cons,mR hp]
        constructor
        · rintro⟨ne,⟨z1,z2⟩ | ⟨q,hq,r⟩⟩
          · exact .inl ⟨λz=>z.elim z1 ne,z2⟩
          · exact .inr ⟨q,F6 _ hq,r⟩
        · rintro(⟨z1,z2⟩ | ⟨q,hq,q1,q2,q3⟩)
          · exact⟨λz=>z1 (.inr z),.inl ⟨λz=>z1 (.inl z),z2⟩⟩
          · rcases K3.mp hq with w | w
            · refine⟨λz=>hnew ?_,.inr ⟨q,w,q1,q2,q3⟩⟩
              rw[←z,←q2]
              exact G0.mpr ⟨q,w,rfl⟩
            · rw[F7.mp w,Sw]at q1
              cases q1
      · unfold Bv
        have:=S2 (λp':Int×Int=>decide (p'.1≠p.key)) m
        omega
  · rintro env ⟨m,v3,rfl,hm,hml⟩
    rw[B3,List.take_length]at hm
    rw[B3]at hml
    exact rP (NT rfl (Mu hm.1 (by omega))) ⟨_,rfl,m,rfl,hm⟩
theorem Yo{c:Int}{N:Nat}(h:Builtin.Int.intBits c≤N):c.natAbs<2 ^ N:=by
 unfold Builtin.Int.intBits at h
 split at h
 ·rename_i z
  have z:c=0:=by simpa using z
  rw[z]
  exact Nat.pow_pos (by decide)
 ·rename_i z
  have hz:c.natAbs≠0:=λw=>z (by rw[U7.mp w];rfl)
  exact(Nat.log2_lt hz).mp (by omega)
theorem bits_le{c:Int}{N:Nat}(h:c.natAbs<2 ^ N):Builtin.Int.intBits c≤N:=by
 unfold Builtin.Int.intBits
 split
 ·exact K0 _
 ·rename_i z
  have hz:c.natAbs≠0:=λw=>z (by rw[U7.mp w];rfl)
  have:=(Nat.log2_lt hz).mpr h
  omega
theorem bits_add{c:Int}{N:Nat}(h:Builtin.Int.intBits c≤N)(hN:4≤N){j:Int}(h0:0≤j)(h1:j≤16):Builtin.Int.intBits (c+j)≤N+1:=by
 have a:=Yo h
 have b:2 ^ 4≤2 ^ N:=Nat.pow_le_pow_right (by decide) hN
 refine bits_le ?_
 rw[Nat.pow_succ]
 generalize 2 ^ N=M at *
 omega
theorem nJ{c:Int}(h:Small c){j:Int}(h0:0≤j)(h1:j≤16):Builtin.Int.intBits (c+j)≤4000000:=by
 have h:Builtin.Int.intBits c≤1048576:=h
 have:=bits_add h (by decide) h0 h1
 omega
theorem PK{m:List (Int×Int)}(hn:(dD m).Nodup){p:Int×Int}(hp:p∈m):Lp (dM m) (.int p.1)=some (.int p.2):=by
 obtain⟨i,hi⟩:=List.mem_iff_getElem?.mp hp
 have e:posK ((dD m).map (B7:Int→Key)) (B7 p.1)=some i:=by
  refine Az ?_ ?_
  ·rw[N5,M7]
   exact(N5.mp hn).imp λh z=>h (P5 z)
  ·unfold dD
   rw[C5,C5,hi]
   rfl
 show (posK ((dD m).map (B7:Int→Key)) (B7 p.1)).bind (λj=>(m.map λp=>D.int p.2)[j]?)=_
 rw[e,C7,C5,hi]
 rfl
theorem Er:∀m:List (Int×Int),intsOf (m.map λp=>D.int p.2)=some (m.map (·.2))
 | []=>rfl
 | p::m=>by
  show (intsOf (m.map λp=>D.int p.2)).map (p.2::·)=_
  rw[Er m]
  rfl
theorem PL{Pr:SR→Prop}{t i:Nat}{env:EN}{g:GS}{m:List (Int×Int)}(h1:env[t]?=some (.own (dM m)))(ht:i<env.length)(hn:(dD m).Nodup)(hl:m.length<64)(hv:lQ (rE (env.set t (.fro (dM m)))) [t]=[some (dM m)]) (k:Qs Pr (g ((env.set t (.fro (dM m))).set i (.own (.lst ((cM m).map pD)))))) :
  Qs Pr (aO (yR t i [t] (nP (aB (gD (aD 0)) (aB (gD (f2 Lp (aD 1) (aD 0))) aF)))) g env):=by
 refine jc (env':=(env.set t (.fro (dM m))).set i (.own (.lst ((cM m).map pD)))) ?_ k
 unfold yR
 rw[h1]
 show (match intsOf (m.map λp=>D.int p.2)with
  | some _=>bT i (Bd ((dD m).map B7) [t] (nP (aB (gD (aD 0)) (aB (gD (f2 Lp (aD 1) (aD 0))) aF)))) (env.set t (.fro (dM m)))
  | none=>.bad)=_
 rw[Er]
 refine dJ ?_ (by rw[W3];exact ht)
 unfold Bd
 refine qD (aC (Mp (xs:=m) (ψ:=λp=>.int p.1) (φ:=pD) ?_ (by omega) λp hp=>?_) rfl) (Mv hn hl)
 ·unfold dD
  rw[N1,N1]
  rfl
 ·rw[hv]
  exact jY (aC (cD rfl rfl) (aC (cD (aL rfl rfl (PK hn hp)) rfl) rfl)) (by exact Nat.le_of_ble_eq_true rfl)
theorem Kd(n:Nat):∀l:List (Int×Int),kY (l.map pD) (n+1)=true
 | []=>by rw[F5];unfold kY;rfl
 | p::l=>by
  rw[B5]
  unfold kY
  rw[Kd n l]
  unfold Ng
  rfl
theorem PN(n:Nat)(p:Pt):Ng (gO p) (n+1)=true:=by
 unfold gO
 split<;>(unfold Ng;rfl)
theorem Ke(n:Nat):∀l:List Pt,kY (l.map gO) (n+1)=true
 | []=>by rw[F5];unfold kY;rfl
 | p::l=>by
  rw[B5]
  unfold kY
  rw[Ke n l,PN]
  rfl
theorem Hv(c:Bool)(l:List (Int×Int))(ps:List Pt):Ri c (.lst [.lst (l.map pD),bC ps]) (.lst [.lst (l.map pD),bC ps])=some (.bl c):=by
 unfold Ri
 dsimp only
 rw[if_pos]
 refine⟨rfl,?_⟩
 unfold kY
 unfold kY
 unfold kY bC
 unfold Ng
 rw[Kd,Ke]
 rfl
theorem Hw{c k:Int}{m:List (Int×Int)}(hs:Small c):∃p:Pt,lZ [.int c,.int k,dM m]=some (gO p)∧p.key=k∧(p.put=true→0≤p.am)∧(p.put=false→k∈dD m):=by
 suffices hh:∃d,lZ [.int c,.int k,dM m]=some d∧∃p:Pt,d=gO p∧p.key=k∧(p.put=true→0≤p.am)∧(p.put=false→k∈dD m) by
  obtain⟨d,h1,p,rfl,h2⟩:=hh
  exact⟨p,h1,h2⟩
 refine jZ rfl ?_
 unfold Ef
 have Yp:lK (.int 10) (.int 58)=some (.int (10 ^ 58)):=iD ⟨by decide,by decide,by decide⟩
 refine Bj (gP (cN (aL rfl rfl (Bw false k m))) (cN (aL (aL (aL rfl rfl (cU (by decide) (by decide))) rfl (bA (by decide))) rfl (qG _ _)))) (λhb=>?_) λ_=>wB ?_
 ·rw[J6,if_neg (by decide),decide_eq_true_iff]at hb
  exact yV (jY (aC rfl (aC (cD rfl rfl) rfl)) (by exact Nat.le_of_ble_eq_true rfl)) ⟨_,rfl,⟨false,k,0⟩,rfl,rfl,λz=>(by cases z),λ_=>hb.1⟩
 ·have h5:=nJ hs (show (0:Int)≤5 by decide) (by decide)
  have h11:=nJ hs (show (0:Int)≤11 by decide) (by decide)
  refine rP (jY (aC rfl (aC (cD rfl rfl) (aC (aL (aL (aL rfl rfl (cH _ _)) (aL rfl rfl (cH _ _)) (rR h5 h11)) (aL rfl rfl Yp) (bA (by decide))) rfl))) (by exact Nat.le_of_ble_eq_true rfl)) ⟨_,rfl,⟨true,k,(c+5)*(c+11)%10 ^ 58⟩,rfl,rfl,λ_=>J1 _ (by decide),λz=>(by cases z)⟩
theorem Es{i:Nat}{g:GS}(I:Nat→EN→Prop)(Rt:D→Prop):∀(xs:List D)(env:EN)(n:Nat),I n env→(∀k x env,xs[k]?=some x→I (n+k) env→i<env.length∧((∃env',g (env.set i (.fro x))=.next env'∧I (n+k+1) env')∨(∃d,g (env.set i (.fro x))=.ret d∧Rt d)))→(∃env',rD i g xs env=.next env'∧I (n+xs.length) env')∨∃d,rD i g xs env=.ret d∧Rt d
 | [],env,n,h,_=>.inl ⟨env,rfl,h⟩
 | x::xs,env,n,h,st=>by
  obtain⟨hl,q⟩:=st 0 x env rfl h
  unfold rD
  rw[if_pos hl]
  rcases q with ⟨env',q1,q2⟩ | ⟨d,q1,q2⟩
  ·rw[q1]
   have:=Es I Rt xs env' (n+1) q2 λk y e hy hi=>by
    have z:=st (k+1) y e hy (by rw[show n+(k+1)=n+1+k by omega];exact hi)
    rw[show n+(k+1)=n+1+k by omega]at z
    exact z
   rw[F3,show n+(xs.length+1)=n+1+xs.length by omega]
   exact this
  ·rw[q1]
   exact .inr ⟨d,rfl,q2⟩
theorem Sx{i:Nat}{gb g:GS}{env:EN}{Pr:SR→Prop}{js:List Nat}{fi:FA}{gF:EN}{xs:List D}(I:Nat→EN→Prop)(hf:gW js env=gF)(h:fi (zE gF)=some xs)(h0:I 0 gF)
  (st:∀(k:Nat) x env,xs[k]?=some x→I k env→i<env.length∧Qs (λr=>(∃env',r=.next env'∧I (k+1) env')∨∃d,r=.ret d∧Pr (.ret d)) (gb (env.set i (.fro x)))) (k:∀env',I xs.length env'→Qs Pr (g env')):Qs Pr (aO (pU js i fi gb) g env):=by
 rcases Es (i:=i) (g:=gb) I (λd=>Pr (.ret d)) xs gF 0 h0 λk x e hx hi=>by
  rw[N0]at hi ⊢
  exact⟨(st k x e hx hi).1,(st k x e hx hi).2⟩with ⟨env',h1,h2⟩ | ⟨d,h1,h2⟩
 ·rw[N0]at h2
  rw[bR ((uD hf h).trans h1)]
  exact k env' h2
 ·rw[vX ((uD hf h).trans h1)]
  exact h2
theorem Sy{sub:Aq}{n nj j i:Nat}{g:GS}(h1:i<n)(h2:j<nj)(h:sub i j=true):nU sub n nj ((j,g)::[]) i=g:=by
 unfold nU
 rw[if_pos ⟨h1,h2⟩,if_pos h]
theorem PQ{z:GZ}{g g2:GS}{sub:Aq}{n nj:Nat}{hs:Nat→List (Nat×GS)}{env:EN}{Pr:SR→Prop}(h:z env=none)(k:Qs Pr (aO g g2 env)):Qs Pr (aO (xO z g sub n nj hs) g2 env):=by
 have e:xO z g sub n nj hs env=g env:=by unfold xO;rw[h]
 unfold aO at k ⊢
 rw[e]
 exact k
theorem Hx{z:GZ}{g g2 gh:GS}{sub:Aq}{n nj i:Nat}{hs:Nat→List (Nat×GS)}{env:EN}{Pr:SR→Prop}(h:z env=some i)(hp:nU sub n nj (hs i) i=gh)(k:Qs Pr (aO gh g2 env)):Qs Pr (aO (xO z g sub n nj hs) g2 env):=by
 have e:xO z g sub n nj hs env=gh env:=by unfold xO;rw[h];show nU sub n nj (hs i) i env=_;rw[hp]
 unfold aO at k ⊢
 rw[e]
 exact k
theorem PX{g g2:GS}{k:Nat}{env env':EN}{Pr:SR→Prop}(h1:k<env.length)(h:g (env.set k .no)=.next env')(h2:k<env'.length)(kk:Qs Pr (g2 (env'.set k .no))):Qs Pr (aO (RL k g) g2 env):=by
 have e:RL k g env=.next (env'.set k .no):=by unfold RL;rw[if_pos h1,h];dsimp only;rw[if_pos h2]
 rw[bR e]
 exact kk
theorem sU(ns:List Int)(k:Nat):cC [bY ns,.int k]=some (.int (ns.getD k 0)):=by
 refine lY rfl ?_
 unfold wG
 by_cases c:k<ns.length
 ·apply NK
  ·walk_at "et"
  ·exact decide_eq_true (by omega)
  have hx:=vZ (ns:=ns) (i:=k) (by omega) (by omega)
  rw[U9]at hx
  apply YH
  ·walk_at "ev"
  ·rfl
 ·apply NB
  ·walk_at "et"
  ·exact decide_eq_false (by omega)
  apply YG
  rw[B6,J5 (by omega)]
  exact jX rfl
theorem BK(a b c:Int){i:Int}(h0:0≤i)(h1:i<3):∃s,oZ (.lst [.int a,.int b,.int c]) (.int i)=some (.int s):=by
 have:i=0∨i=1∨i=2:=by omega
 rcases this with rfl | rfl | rfl
 ·exact⟨a,nF (by decide) rfl⟩
 ·exact⟨b,nF (by decide) rfl⟩
 ·exact⟨c,nF (by decide) rfl⟩
theorem sV(first:Int){n:Int}(h0:-1000≤n)(h1:n≤1000):∃k,gQ [.int first,.int n]=some (.int k):=by
 suffices hh:∃d,gQ [.int first,.int n]=some d∧∃k,d=.int k by
  obtain⟨d,h1,k,rfl⟩:=hh
  exact⟨k,h1⟩
 refine jZ rfl ?_
 unfold Jv
 have Yp:lK (.int 10) (.int 58)=some (.int (10 ^ 58)):=iD ⟨by decide,by decide,by decide⟩
 have xj:lK (.int 10) (.int 30)=some (.int (10 ^ 30)):=iD ⟨by decide,by decide,by decide⟩
 obtain⟨s,hs⟩:=BK 1 3 (10 ^ 30) (J1 first (show (3:Int)≠0 by decide)) (G9 first (by decide))
 obtain⟨l,hl⟩:=BK 0 (first%10 ^ 58) (0-first%10 ^ 58) (J1 (first/3) (show (3:Int)≠0 by decide)) (G9 (first/3) (by decide))
 refine cZ (cD (aL (cB (aC rfl (aC rfl (aC (aL rfl rfl xj) rfl))) (by exact Nat.le_of_ble_eq_true rfl)) (aL rfl rfl (bA (by decide))) hs) rfl) (by exact Nat.le_of_ble_eq_true rfl) ?_
 refine cZ (cD (aL (cB (aC rfl (aC (aL rfl (aL rfl rfl Yp) (bA (by decide))) (aC (aL rfl (aL rfl (aL rfl rfl Yp) (bA (by decide))) (jJ _ _)) rfl))) (by exact Nat.le_of_ble_eq_true rfl)) (aL (aL rfl rfl (cU (by decide) (by decide))) rfl (bA (by decide))) hl) rfl) (by exact Nat.le_of_ble_eq_true rfl) ?_
 exact rP (aL rfl (aL rfl rfl (jK (Rp (by omega) (by omega)))) (cH _ _)) ⟨_,rfl,_,rfl⟩
theorem Et{first:Int}{cells:List Int}{m:List (Int×Int)}(hs:∀c∈cells,Small c)(hl:cells.length≤60):∃ps,gB [.int first,bY cells,dM m]=some (bC ps)∧ps.length≤cells.length:=by
 suffices hh:∃d,gB [.int first,bY cells,dM m]=some d∧∃ps,d=bC ps∧ps.length≤cells.length by
  obtain⟨d,h1,ps,rfl,h2⟩:=hh
  exact⟨ps,h1,h2⟩
 refine jZ rfl ?_
 unfold yZ
 refine cZ (d:=bC []) (cB rfl (by decide)) (by exact Nat.le_of_ble_eq_true rfl) ?_
 refine cZ (d:=tH []) rfl (by exact Nat.le_of_ble_eq_true rfl) ?_
 refine Jt (xs:=cells.map D.int) (λn env=>∃(ps:List Pt)(ks:List Int)(v5 v6:SD),env=[.fro (.int first),.fro (bY cells),.fro (dM m),.own (bC ps),.own (tH ks),v5,v6]∧ps.length≤n∧ks.length≤n) rfl (iG rfl) ⟨[],[],_,_,rfl,B9 _,B9 _⟩ ?_ ?_
 ·rintro n x env hx ⟨ps,ks,v5,v6,rfl,hl1,hl2⟩
  refine⟨by walk_at "lt", ?_⟩
  rw[C5]at hx
  obtain⟨c,hc,rfl⟩:=fJ hx
  have hn:=(B8.mp hc).1
  have m0:=J1 (c*48271%2147483647) (show (41:Int)≠0 by decide)
  have m1:=G9 (c*48271%2147483647) (show (0:Int)<41 by decide)
  obtain⟨k,hk⟩:=sV first (n:=c*48271%2147483647%41-20) (by omega) (by omega)
  obtain⟨p,hp,rfl,_,_⟩:=Hw (k:=k) (m:=m) (hs c (F9 hc))
  refine cZ (aW (aC rfl (aC (aL (aL (aL (aL rfl rfl (jK (Rp (by decide) (by decide)))) rfl (bA (by decide))) rfl (bA (by decide))) rfl (jJ _ _)) rfl)) rfl hk) (by exact Nat.le_of_ble_eq_true rfl) ?_
  have ha:=qI ks p.key
  refine Bj (cN (aL rfl rfl (wD true p.key ks))) (λhb=>?_) λhb=>wB ?_
  ·refine YK (ds:=ps.map gO) rfl (aW (aC rfl (aC rfl (aC rfl rfl))) rfl hp) (by rw[B3];omega) ?_
   refine wZ (Ec (ks:=ks) (k:=p.key) rfl rfl rfl (by omega)) ⟨_,rfl,ps++[p],iK ks p.key,.fro (.int c),.own (.int p.key),?_,by rw[F1];exact Nat.succ_le_succ hl1,by omega⟩
   unfold bC
   rw[G6]
   rfl
  ·exact wZ (Ec (ks:=ks) (k:=p.key) rfl rfl rfl (by omega)) ⟨_,rfl,ps,iK ks p.key,.fro (.int c),.own (.int p.key),rfl,by omega,by omega⟩
 ·rintro env ⟨ps,ks,v5,v6,rfl,hl1,hl2⟩
  rw[B3]at hl1
  exact rQ rfl ⟨_,rfl,ps,rfl,hl1⟩
theorem Eu(first c:Int)(ps:List Pt)(hl:ps.length≤1000):∃p,fZ [.int first,.int c,bC ps]=some (gO p):=by
 suffices hh:∃d,fZ [.int first,.int c,bC ps]=some d∧∃p,d=gO p by
  obtain⟨d,h1,p,rfl⟩:=hh
  exact⟨p,h1⟩
 refine jZ rfl ?_
 unfold yX
 have Yp:lK (.int 10) (.int 58)=some (.int (10 ^ 58)):=iD ⟨by decide,by decide,by decide⟩
 refine cZ (aL rfl rfl (bA (by decide))) (by exact Nat.le_of_ble_eq_true rfl) ?_
 have m0:=J1 (c/6) (show (9:Int)≠0 by decide)
 have m1:=G9 (c/6) (show (0:Int)<9 by decide)
 obtain⟨k,hk⟩:=sV first (n:=21+c/6%9) (by omega) (by omega)
 refine cZ (aW (aC rfl (aC (aL rfl (aL (aL rfl rfl (cU (by decide) (by decide))) rfl (bA (by decide))) (cH _ _)) rfl)) rfl hk) (by exact Nat.le_of_ble_eq_true rfl) ?_
 have hne:Yd (bC ps) (.lst [])=some (.bl (!(ps.map gO).isEmpty)):=rfl
 have rest:∀k:Int,Qs (λr=>∃d,r=.ret d∧∃p,d=gO p) ((aO (jD (fB (f2 Ca (f2 dC (aD 3) (fC (.int 3))) (fC (.int 0)))) (fX (nP (aB (fC (.str "put")) (aB (gD (aD 4)) (aB (f2 Cy (Qe (fC (.int 1))) (f2 dC (f2 lJ (aD 1) (fC (.int 54))) (f2 lK (fC (.int 10)) (fC (.int 58))))) aF))))) bW)
 (aO (jD (fB (f2 Ca (f2 dC (aD 3) (fC (.int 3))) (fC (.int 1)))) (fX (nP (aB (fC (.str "take")) (aB (gD (aD 4)) aF)))) bW)
 (fX (nP (aB (fC (.str "put")) (aB (gD (aD 4)) (aB (f2 dC (f2 lJ (aD 1) (fC (.int 54))) (f2 lK (fC (.int 10)) (fC (.int 58)))) aF))))))) [.fro (.int first),.fro (.int c),.fro (bC ps),.own (.int (c%6)),.own (.int k)]):=λk=>by
  refine Bj (cN (aL (aL rfl rfl (bA (by decide))) rfl (qG _ _))) (λ_=>?_) λ_=>wB ?_
  ·exact yV (jY (aC rfl (aC (cD rfl rfl) (aC (aL (Js rfl) (aL (aL rfl rfl (cU (by decide) (by decide))) (aL rfl rfl Yp) (bA (by decide))) (jJ _ _)) rfl))) (by exact Nat.le_of_ble_eq_true rfl)) ⟨_,rfl,⟨true,k,-1-c/54%10 ^ 58⟩,rfl⟩
  refine Bj (cN (aL (aL rfl rfl (bA (by decide))) rfl (qG _ _))) (λ_=>?_) λ_=>wB ?_
  ·exact yV (jY (aC rfl (aC (cD rfl rfl) rfl)) (by exact Nat.le_of_ble_eq_true rfl)) ⟨_,rfl,⟨false,k,0⟩,rfl⟩
  exact rP (jY (aC rfl (aC (cD rfl rfl) (aC (aL (aL rfl rfl (cU (by decide) (by decide))) (aL rfl rfl Yp) (bA (by decide))) rfl))) (by exact Nat.le_of_ble_eq_true rfl)) ⟨_,rfl,⟨true,k,c/54%10 ^ 58⟩,rfl⟩
 refine Bj (gP (cN (aL rfl (cB rfl (by decide)) hne)) (cN (aL rfl rfl (Bg _ _)))) (λhb=>?_) λ_=>wB (rest k)
 rw[J6]at hb
 have hp:0<ps.length:=by
  cases ps with
  | nil=>simp at hb
  | cons _ _=>exact Nat.succ_pos _
 have cp:(0:Int)<(ps.length:Int):=by omega
 have i0:=J1 (c/6) (show (ps.length:Int)≠0 by omega)
 have i1:=G9 (c/6) cp
 have hlen:vI [bC ps]=some (.int ps.length):=by unfold bC;rw[qH,B3]
 have hlt:(c/6%(ps.length:Int)).toNat<ps.length:=by omega
 exact cZ (cD (aL (aL rfl (aL (aL rfl rfl (cU (by decide) (by decide))) (qD (aC rfl rfl) hlen) (bA cp)) (nF i0 (by rw[C5,B0 hlt];rfl))) rfl (wW _)) rfl) (by exact Nat.le_of_ble_eq_true rfl) (rest _)
theorem qN{first:Int}{fs:List Int}{ps:List Pt}(hf:0<fs.length)(hfl:fs.length≤2)(hl:ps.length≤100):∃ps',gA [.int first,bY fs,bC ps]=some (bC ps')∧ps'.length≤ps.length+fs.length:=by
 suffices hh:∃d,gA [.int first,bY fs,bC ps]=some d∧∃ps',d=bC ps'∧ps'.length≤ps.length+fs.length by
  obtain⟨d,h1,p,rfl,h2⟩:=hh
  exact⟨p,h1,h2⟩
 refine jZ rfl ?_
 unfold wH
 refine Jt (xs:=fs.map D.int) (λn env=>∃(ps':List Pt)(v2 v3 v4:SD),env=[.fro (.int first),.fro (bY fs),v2,v3,v4]∧(v2=.fro (bC ps')∨v2=.own (bC ps'))∧(0<n→v2=.own (bC ps'))∧ps'.length≤ps.length+n) rfl (iG rfl) ⟨ps,_,_,_,rfl,.inl rfl,λz=>absurd z (G1 _),B9 _⟩ ?_ ?_
 ·rintro n x env hx ⟨ps',v2,v3,v4,rfl,hv,_,hll⟩
  refine⟨by walk_at "lt", ?_⟩
  rw[C5]at hx
  obtain⟨c,hc,rfl⟩:=fJ hx
  have hn:=(B8.mp hc).1
  have hlen:vI [bC ps']=some (.int ps'.length):=by unfold bC;rw[qH,B3]
  have cp:(0:Int)<(ps'.length:Int)+1:=by omega
  have a0:=J1 ((c+19)*69621%2147483647/7) (show (ps'.length:Int)+1≠0 by omega)
  have a1:=G9 ((c+19)*69621%2147483647/7) cp
  obtain⟨p,hp⟩:=Eu first c ps' (by omega)
  obtain⟨at',ea⟩:∃a:Nat,(c+19)*69621%2147483647/7%((ps'.length:Int)+1)=a:=⟨((c+19)*69621%2147483647/7%((ps'.length:Int)+1)).toNat,by omega⟩
  have hr:∀v2,(v2=SD.fro (bC ps')∨v2=SD.own (bC ps'))→∀v4,aD 2 (rE [.fro (.int first),.fro (bY fs),v2,.fro (.int c),v4])=some (bC ps'):=by
   rintro v2 (rfl | rfl) v4<;>rfl
  have hat:f2 dC (f2 lJ (f2 dC (f2 Cz (f2 dW (aD 3) (fC (.int 19))) (fC (.int 69621))) (fC (.int 2147483647))) (fC (.int 7))) (f2 dW (fL vI (aB (aD 2) aF)) (fC (.int 1))) (rE [.fro (.int first),.fro (bY fs),v2,.fro (.int c),v4])=some (.int (at':Int)):=by
   rw[←ea]
   exact aL (aL (aL (aL (aL rfl rfl (cH _ _)) rfl (jK (Rp (by decide) (by decide)))) rfl (bA (by decide))) rfl (cU (by decide) (by decide))) (aL (qD (aC (hr v2 hv v4) rfl) hlen) rfl (cH _ _)) (bA cp)
  refine cZ hat (by exact Nat.le_of_ble_eq_true rfl) ?_
  have hr2:=hr v2 hv (.own (.int (at':Int)))
  have hle:at'≤(ps'.map gO).length:=by rw[B3];omega
  have hsum:f2 dW (f2 dW (Cd false (aD 2) (eX) (cL (aD 4))) (fU (aB (aP 3 fZ (aB (aD 0) (aB (aD 3) (aB (aD 2) aF)))) aF))) (Cd false (aD 2) (cL (aD 4)) (eX)) (rE [.fro (.int first),.fro (bY fs),v2,.fro (.int c),.own (.int (at':Int))])=some (bC (ps'.take at'++[p]++ps'.drop at')):=by
   have e1:=Gw (b:=false) (l:=eX) (h:=cL (aD 4)) (f:=aD 2) (ds:=ps'.map gO) (lo:=none) (hi:=some (at':Int)) hr2 rfl (fY rfl) (.inl rfl)
   have e2:=Gw (b:=false) (l:=cL (aD 4)) (h:=eX) (f:=aD 2) (ds:=ps'.map gO) (lo:=some (at':Int)) (hi:=none) hr2 (fY rfl) rfl (.inl rfl)
   rw[Gy]at e1
   rw[Rw hle]at e2
   have e3:=cB (fs:=aB (aP 3 fZ (aB (aD 0) (aB (aD 3) (aB (aD 2) aF)))) aF) (e:=rE [.fro (.int first),.fro (bY fs),v2,.fro (.int c),.own (.int (at':Int))]) (aC (aW (aC rfl (aC rfl (aC hr2 rfl))) rfl hp) rfl) (by exact Nat.le_of_ble_eq_true rfl)
   refine(aL (aL e1 e3 (yS (a:=(ps'.map gO).take at') (b:=[gO p]) ?_ ?_)) e2 (yS (a:=(ps'.map gO).take at'++[gO p]) (b:=(ps'.map gO).drop at') ?_ ?_)).trans ?_
   ·rw[←Q0,wA,mO]
    show (true&&D.cF [gO p])=true
    rw[nG,Hq]
    rfl
   ·rw[K2,B3]
    show _+1≤_
    omega
   ·rw[←Q0,←T2,wA,wA,mO,mO,nG,Hq]
    rfl
   ·rw[F1,K2,L9,B3]
    show _+1+_≤_
    omega
   ·unfold bC
    rw[G6,G6,Q0,T2]
    rfl
  refine NP hsum (by exact Nat.le_of_ble_eq_true rfl) ⟨_,rfl,ps'.take at'++[p]++ps'.drop at',_,_,_,rfl,.inr rfl,λ_=>rfl,?_⟩
  rw[F1,F1,K2,L9]
  show _+1+_≤_
  omega
 ·rintro env ⟨ps',v2,v3,v4,rfl,_,hv,hll⟩
  rw[B3]at hv hll
  rw[hv hf]
  exact rQ rfl ⟨_,rfl,ps',rfl,hll⟩
def flt(m:List (Int×Int)):List Int→List Pt→Option Nat
 | _,[]=>none
 | ks,p::ps=>if p.key∈ks then some 0 else if(p.put&&decide (p.am<0))=true then some 1 else if(!p.put&&!decide (p.key∈dD m))=true then some 2 else flt m (iK ks p.key) ps
theorem Tc(m:List (Int×Int))(ks:List Int)(p:Pt)(ps:List Pt):flt m ks (p::ps)=if p.key∈ks then some 0 else if(p.put&&decide (p.am<0))=true then some 1 else if(!p.put&&!decide (p.key∈dD m))=true then some 2 else flt m (iK ks p.key) ps:=rfl
theorem zA{m m':List (Int×Int)}(h:∀k,k∈dD m↔k∈dD m'):∀(ps:List Pt)(ks:List Int),flt m ks ps=flt m' ks ps
 | [],_=>rfl
 | p::ps,ks=>by
  unfold flt
  rw[zA h ps,show decide (p.key∈dD m)=decide (p.key∈dD m')from decide_eq_decide.mpr (h _)]
theorem Td{m:List (Int×Int)}{i:Nat}:∀(ps:List Pt)(ks:List Int),flt m ks ps=some i→i=0∨i=1∨i=2
 | [],_,h=>by unfold flt at h;cases h
 | p::ps,ks,h=>by
  unfold flt at h
  split at h
  ·cases h;exact .inl rfl
  ·split at h
   ·cases h;exact .inr (.inl rfl)
   ·split at h
    ·cases h;exact .inr (.inr rfl)
    ·exact Td ps _ h
theorem Kf{m:List (Int×Int)}:∀(ps:List Pt)(ks:List Int),flt m ks ps=none→(∀p∈ps,p.key∉ks)∧je m ps
  | [],_,_=>⟨λp hp=>(by cases hp),⟨W8,λp hp=>(by cases hp),λp hp=>(by cases hp)⟩⟩
  | p::ps,ks,h=>by
    unfold flt at h
    split at h
    · cases h
    · rename_i c1
      split at h
      · cases h
      · rename_i c2
        split at h
        · cases h
        · rename_i c3
          obtain⟨h1,h2⟩:=Kf ps _ h
          have hk:∀q∈ps,q.key∉ks∧q.key≠p.key:=λq hq=>⟨λz=>h1 q hq ((wF _ _ _).mpr (.inl z)),λz=>h1 q hq ((wF _ _ _).mpr (.inr z))⟩
          refine⟨λq hq=>?_,⟨?_,λq hq=>?_,λq hq=>?_⟩⟩
          · rcases D6.mp hq with rfl | z
            · exact c1
            · exact(hk q z).1
          · rw[B5,K8]
            refine⟨λz=>?_,h2.nd⟩
            obtain⟨q,hq,e⟩:=G0.mp z
            exact(hk q hq).2 e
          · rcases D6.mp hq with rfl | z
            · intro hp
              rw[hp,Bool.true_and,decide_eq_true_iff]at c2
              omega
            · exact h2.am q z
          · rcases D6.mp hq with rfl | z
            · intro hp
              rw[hp]at c3
              simpa using c3
            · exact h2.tk q z
def bD:Option Nat→D
 | some 0=>.lst [.bl true,.bl false,.bl false,.bl true,.bl false]
 | some 1=>.lst [.bl false,.bl true,.bl false,.bl true,.bl false]
 | some 2=>.lst [.bl false,.bl false,.bl true,.bl true,.bl false]
 | _=>.lst []
section
variable{m:List (Int×Int)}{all:D}{ks:List Int}{p:Pt}
abbrev RP(m:List (Int×Int))(all:D)(ks:List Int)(p:Pt):EN:=[.fro (dM m),.fro all,.own (tH ks),.fro (gO p),.own (.int p.key)]
theorem YQ:fB (f2 (eE false) (aD 4) (aD 2)) (rE (RP m all ks p))=some (decide (p.key∈ks)):=(cN (aL rfl rfl (wD false p.key ks))).trans (by rw[if_neg (by decide)])
theorem YT:dU (fB (aP 1 bK (aB (aD 3) aF))) (fB (f2 Ga (aP 1 bJ (aB (aD 3) aF)) (fC (.int 0)))) (rE (RP m all ks p))=some (p.put&&decide (p.am<0)):=by
 have a1:fB (aP 1 bK (aB (aD 3) aF)) (rE (RP m all ks p))=some p.put:=cN (aW (aC rfl rfl) rfl (mQ p))
 cases c:p.put with
 | false=>rw[c]at a1;exact Bf a1
 | true=>
  rw[c]at a1
  exact gP a1 (cN (aL (aW (aC rfl rfl) rfl (Bu c)) rfl (qF _ _)))
theorem YW:dU (oJ (fB (aP 1 bK (aB (aD 3) aF)))) (fB (f2 (eE true) (aD 4) (aD 0))) (rE (RP m all ks p))=some (!p.put&&!decide (p.key∈dD m)):=by
 have a1:oJ (fB (aP 1 bK (aB (aD 3) aF))) (rE (RP m all ks p))=some (!p.put):=Be (cN (aW (aC rfl rfl) rfl (mQ p)))
 exact(gP a1 (cN (aL rfl rfl (Bw true p.key m)))).trans (by rw[if_pos rfl])
end
theorem sW{f:FT}{z1 z2:GZ}{env:EN}{b:Bool}(h:f (rE env)=some b):Va f z1 z2 env=if b=true then z1 env else z2 env:=by
 unfold Va
 rw[h]
 cases b<;>rfl
theorem mU{g:GS}{z:GZ}{env env':EN}(h:g env=.next env'):jF g z env=z env':=by
 unfold jF
 rw[h]
theorem BL{z1 z2:GZ}{env:EN}(h:z1 env=none):Uz z1 z2 env=z2 env:=by
 unfold Uz
 rw[h]
theorem BP{z1 z2:GZ}{env:EN}{i:Nat}(h:z1 env=some i):Uz z1 z2 env=some i:=by
 unfold Uz
 rw[h]
theorem Hy{i:Nat}{f:FE}{env:EN}{d:D}(h:f (rE env)=some d):Qm i (aB f aF) env=some i:=by
 have e:aB f aF (rE env)=some [d]:=aC h rfl
 unfold Qm
 rw[e,C7,if_pos (by show 1≤100;decide)]
theorem xF{c:FT}{env:EN}(h:c (rE env)=some false):jD c kW bW env=.next env:=by
 rw[nD h]
 rfl
section
variable(κ:Nat→Addr)
theorem Kg(m:List (Int×Int))(all:D):∀(ps:List Pt)(ks:List Int)(v3 v4:SD),ks.length+ps.length<1000→Dq 3 (aO (bT 4 (aP 1 fG (aB (aD 3) aF)))
 (aO (jD (fB (f2 (eE false) (aD 4) (aD 2))) kW bW)
 (aO (jD (dU (fB (aP 1 bK (aB (aD 3) aF))) (fB (f2 Ga (aP 1 bJ (aB (aD 3) aF)) (fC (.int 0))))) kW bW)
 (aO (jD (dU (oJ (fB (aP 1 bK (aB (aD 3) aF)))) (fB (f2 (eE true) (aD 4) (aD 0)))) kW bW)
 (iC 2 jE (aD 4) (fC (.bl true))))))) (jF (bT 4 (aP 1 fG (aB (aD 3) aF))) (Uz (Va (fB (f2 (eE false) (aD 4) (aD 2))) (Qm 0 (aB (fC (.str "a key comes in two parts")) aF)) (Uy)) (jF (jD (fB (f2 (eE false) (aD 4) (aD 2))) kW bW) (Uz (Va (dU (fB (aP 1 bK (aB (aD 3) aF))) (fB (f2 Ga (aP 1 bJ (aB (aD 3) aF)) (fC (.int 0))))) (Qm 1 (aB (fC (.str "a worth is below 0")) aF)) (Uy)) (jF (jD (dU (fB (aP 1 bK (aB (aD 3) aF))) (fB (f2 Ga (aP 1 bJ (aB (aD 3) aF)) (fC (.int 0))))) kW bW) (Va (dU (oJ (fB (aP 1 bK (aB (aD 3) aF)))) (fB (f2 (eE true) (aD 4) (aD 0)))) (Qm 2 (aB (fC (.str "there is no such key to take")) aF)) (Uy))))))) (ps.map gO) [.fro (dM m),.fro all,.own (tH ks),v3,v4]=flt m ks ps
 | [],_,_,_,_=>rfl
 | p::ps,ks,v3,v4,hl=>by
  rw[F3]at hl
  rw[B5]
  unfold Dq flt
  rw[if_pos (by exact Nat.le_of_ble_eq_true rfl)]
  have YX:bT 4 (aP 1 fG (aB (aD 3) aF)) [.fro (dM m),.fro all,.own (tH ks),.fro (gO p),v4]=.next (RP m all ks p):=dJ (aW (aC rfl rfl) rfl (qM p)) (by exact Nat.le_of_ble_eq_true rfl)
  have e1:=YQ (m:=m) (all:=all) (ks:=ks) (p:=p)
  have e2:=YT (m:=m) (all:=all) (ks:=ks) (p:=p)
  have e3:=YW (m:=m) (all:=all) (ks:=ks) (p:=p)
  show (match jF _ _ [.fro (dM m),.fro all,.own (tH ks),.fro (gO p),v4]with
   | some j=>some j
   | none=>_)=_
  rw[mU YX]
  by_cases k1:p.key∈ks
  ·rw[decide_eq_true k1]at e1
   rw[BP ((sW e1).trans (by rw[if_pos rfl];exact Hy rfl)),if_pos k1]
  ·rw[decide_eq_false k1]at e1
   rw[BL ((sW e1).trans (by rw[if_neg C6];rfl)),if_neg k1,mU (xF e1)]
   by_cases k2:(p.put&&decide (p.am<0))=true
   ·rw[k2]at e2
    rw[BP ((sW e2).trans (by rw[if_pos rfl];exact Hy rfl)),if_pos k2]
   ·rw[V8]at k2
    rw[k2]at e2
    rw[BL ((sW e2).trans (by rw[if_neg C6];rfl)),if_neg (by rw[k2];exact C6),mU (xF e2)]
    by_cases k3:(!p.put&&!decide (p.key∈dD m))=true
    ·rw[k3]at e3
     have r3:=sW (z1:=Qm 2 (aB (fC (.str "there is no such key to take")) aF)) (z2:=Uy) e3
     rw[if_pos rfl,Hy (d:=.str "there is no such key to take") rfl]at r3
     rw[r3,if_pos k3]
    ·rw[V8]at k3
     rw[k3]at e3
     have r3:=sW (z1:=Qm 2 (aB (fC (.str "there is no such key to take")) aF)) (z2:=Uy) e3
     rw[if_neg C6]at r3
     rw[r3.trans (show Uy _=none from rfl),if_neg (by rw[k3];exact C6)]
     dsimp only
     have hg:aO (bT 4 (aP 1 fG (aB (aD 3) aF))) (aO (jD (fB (f2 (eE false) (aD 4) (aD 2))) kW bW) (aO (jD (dU (fB (aP 1 bK (aB (aD 3) aF))) (fB (f2 Ga (aP 1 bJ (aB (aD 3) aF)) (fC (.int 0))))) kW bW) (aO (jD (dU (oJ (fB (aP 1 bK (aB (aD 3) aF)))) (fB (f2 (eE true) (aD 4) (aD 0)))) kW bW) (iC 2 jE (aD 4) (fC (.bl true)))))) [.fro (dM m),.fro all,.own (tH ks),.fro (gO p),v4]=.next [.fro (dM m),.fro all,.own (tH (iK ks p.key)),.fro (gO p),.own (.int p.key)]:=by
      rw[bR YX,bR (xF e1),bR (xF e2),bR (xF e3)]
      exact Ec (ks:=ks) (k:=p.key) rfl rfl rfl (by omega)
     have hg':=hg
     show (match (aO _ _:GS) [.fro (dM m),.fro all,.own (tH ks),.fro (gO p),v4]with
      | .next env'=>_
      | .cont env'=>_
      | _=>none)=_
     rw[hg]
     have:=qI ks p.key
     exact Kg m all ps (iK ks p.key) _ _ (by omega)
theorem Mw{m:List (Int×Int)}{ps:List Pt}(hl:ps.length<1000):gG κ [dM m,bC ps]=flt m [] ps:=by
 show mD κ [.fro (dM m),.fro (bC ps),.no,.no,.no]=_
 unfold mD
 rw[mU (env':=[.fro (dM m),.fro (bC ps),.own (tH []),.no,.no]) (dJ rfl (by exact Nat.le_of_ble_eq_true rfl))]
 have hxs:tR (aD 1) (zE (gW [] [.fro (dM m),.fro (bC ps),.own (tH []),.no,.no]))=some (ps.map gO):=iG rfl
 unfold Qk
 rw[hxs]
 exact Kg m (bC ps) ps [] .no .no (by rw[W2];omega)
theorem Ew{rs:List (Int×Int)}{ps:List Pt}(hn:(dD rs).Nodup)(hl:rs.length≤1000)(hp:ps.length<1000):jL κ [.lst (rs.map pD),bC ps]=flt rs [] ps:=by
 show wJ κ [.fro (.lst (rs.map pD)),.fro (bC ps),.no,.no]=_
 unfold wJ
 rw[mU (env':=[.fro (.lst (rs.map pD)),.fro (bC ps),.own (dM rs),.no]) (dJ (qD (aC rfl rfl) (Ep hn hl)) (by exact Nat.le_of_ble_eq_true rfl))]
 show (aB (aD 2) (aB (aD 1) aF) (rE [.fro (.lst (rs.map pD)),.fro (bC ps),.own (dM rs),.no])).bind (gG κ)=_
 rw[show aB (aD 2) (aB (aD 1) aF) (rE [.fro (.lst (rs.map pD)),.fro (bC ps),.own (dM rs),.no])=some [dM rs,bC ps]from aC rfl (aC rfl rfl),C7]
 exact Mw κ hp
theorem Yq{rs:List (Int×Int)}{ps:List Pt}(hn:(dD rs).Nodup)(hl:rs.length+ps.length<64):mG κ [.lst (rs.map pD),bC ps]=some (bD (flt rs [] ps)):=by
 suffices hh:∃d,mG κ [.lst (rs.map pD),bC ps]=some d∧d=bD (flt rs [] ps) by
  obtain⟨d,h1,rfl⟩:=hh
  exact h1
 refine jZ rfl ?_
 unfold Eh
 refine cZ (d:=.lst []) (cB rfl (by decide)) (by exact Nat.le_of_ble_eq_true rfl) ?_
 have hz:zX (Ao (jL κ) (aB (aD 0) (aB (aD 1) aF))) [.fro (.lst (rs.map pD)),.fro (bC ps),.own (.lst []),.no,.no]=flt rs [] ps:=by
  show (aB (aD 0) (aB (aD 1) aF) (rE [.fro (.lst (rs.map pD)),.fro (bC ps),.own (.lst []),.no,.no])).bind (jL κ)=_
  rw[show aB (aD 0) (aB (aD 1) aF) (rE [.fro (.lst (rs.map pD)),.fro (bC ps),.own (.lst []),.no,.no])=some [.lst (rs.map pD),bC ps]from aC rfl (aC rfl rfl),C7]
  exact Ew κ hn (by omega) (by omega)
 cases c:flt rs [] ps with
 | none=>
  rw[c]at hz
  obtain⟨mF,hp,_⟩:=Hu hn (Kf ps [] c).2 hl
  refine PQ hz (Rz (aW (aC rfl (aC rfl rfl)) rfl hp) ?_)
  exact rQ rfl ⟨_,rfl,rfl⟩
 | some i=>
  rw[c]at hz
  rcases Td ps [] c with rfl | rfl | rfl
  ·refine Hx (i:=0) hz (Sy (by decide) (by decide) rfl) ?_
   refine PX (env':=[.fro (.lst (rs.map pD)),.fro (bC ps),.own (bD (some 0)),.no,.own (.bl false)]) (by exact Nat.le_of_ble_eq_true rfl) ?_ (by exact Nat.le_of_ble_eq_true rfl) (rQ rfl ⟨_,rfl,rfl⟩)
   exact(bR (dJ (i:=4) (d:=.bl false) rfl (by exact Nat.le_of_ble_eq_true rfl))).trans (dJ (cB (aC rfl (aC rfl (aC rfl (aC rfl (aC (cD rfl rfl) rfl))))) (by exact Nat.le_of_ble_eq_true rfl)) (by exact Nat.le_of_ble_eq_true rfl))
  ·refine Hx (i:=1) hz (Sy (by decide) (by decide) rfl) ?_
   refine PX (env':=[.fro (.lst (rs.map pD)),.fro (bC ps),.own (bD (some 1)),.no,.own (.bl false)]) (by exact Nat.le_of_ble_eq_true rfl) ?_ (by exact Nat.le_of_ble_eq_true rfl) (rQ rfl ⟨_,rfl,rfl⟩)
   exact(bR (dJ (i:=4) (d:=.bl false) rfl (by exact Nat.le_of_ble_eq_true rfl))).trans (dJ (cB (aC rfl (aC rfl (aC rfl (aC rfl (aC (cD rfl rfl) rfl))))) (by exact Nat.le_of_ble_eq_true rfl)) (by exact Nat.le_of_ble_eq_true rfl))
  ·refine Hx (i:=2) hz (Sy (by decide) (by decide) rfl) ?_
   refine PX (env':=[.fro (.lst (rs.map pD)),.fro (bC ps),.own (bD (some 2)),.no,.own (.bl false)]) (by exact Nat.le_of_ble_eq_true rfl) ?_ (by exact Nat.le_of_ble_eq_true rfl) (rQ rfl ⟨_,rfl,rfl⟩)
   exact(bR (dJ (i:=4) (d:=.bl false) rfl (by exact Nat.le_of_ble_eq_true rfl))).trans (dJ (cB (aC rfl (aC rfl (aC rfl (aC rfl (aC (cD rfl rfl) rfl))))) (by exact Nat.le_of_ble_eq_true rfl)) (by exact Nat.le_of_ble_eq_true rfl))
end
theorem Yr(p:Pt):Ca (.str (if p.put=true then "put" else "take")) (.str "take")=some (.bl (!p.put)):=by
 rw[En]
 cases p.put with
 | true=>rw[if_pos rfl,decide_eq_false (by decide)];rfl
 | false=>rw[if_neg C6,decide_eq_true rfl];rfl
theorem QB{m:List (Int×Int)}{ps:List Pt}(hl:ps.length<500):qL [dM m,bC ps]=some (bD (flt m [] ps)):=by
 suffices hh:∃d,qL [dM m,bC ps]=some d∧d=bD (flt m [] ps) by
  obtain⟨d,h1,rfl⟩:=hh
  exact h1
 refine jZ rfl ?_
 unfold Jw
 refine cZ (d:=tH []) rfl (by exact Nat.le_of_ble_eq_true rfl) ?_
 refine Sx (xs:=ps.map gO) (λn env=>∃(ks:List Int)(v3:SD),env=[.fro (dM m),.fro (bC ps),.own (tH ks),v3]∧flt m [] ps=flt m ks (ps.drop n)∧ks.length≤n) rfl (iG rfl) ⟨[],_,rfl,rfl,B9 _⟩ ?_ ?_
 ·rintro n x env hx ⟨ks,v3,rfl,hfl,hll⟩
  refine⟨by walk_at "lt", ?_⟩
  rw[C5]at hx
  obtain⟨p,hp,rfl⟩:=fJ hx
  obtain⟨hn,hpe⟩:=B8.mp hp
  rw[L6 hn,hpe,Tc]at hfl
  refine Bj ((cN (aL (aL rfl rfl (wW p)) rfl (wD false p.key ks))).trans (by rw[if_neg (by decide)])) (λhb=>?_) λhb=>wB ?_
  ·rw[if_pos (of_decide_eq_true hb)]at hfl
   exact yV (cB (aC rfl (aC rfl (aC rfl (aC rfl (aC rfl rfl))))) (by exact Nat.le_of_ble_eq_true rfl)) (.inr ⟨_,rfl,_,rfl,by rw[hfl];rfl⟩)
  rw[if_neg (of_decide_eq_false hb)]at hfl
  have t2:dU (fB (f2 Ca (f2 oZ (aD 3) (fC (.int 0))) (fC (.str "put")))) (fB (f2 Ga (f2 oZ (aD 3) (fC (.int 2))) (fC (.int 0)))) (rE [.fro (dM m),.fro (bC ps),.own (tH ks),.fro (gO p)])=some (p.put&&decide (p.am<0)):=by
   have a1:fB (f2 Ca (f2 oZ (aD 3) (fC (.int 0))) (fC (.str "put"))) (rE [.fro (dM m),.fro (bC ps),.own (tH ks),.fro (gO p)])=some p.put:=cN (aL (aL rfl rfl (Hr p)) rfl (Jy p))
   cases c:p.put with
   | false=>rw[c]at a1;exact Bf a1
   | true=>
    rw[c]at a1
    exact gP a1 (cN (aL (aL rfl rfl (Sq c)) rfl (qF _ _)))
  refine Bj t2 (λhb=>?_) λhb=>wB ?_
  ·rw[if_pos hb]at hfl
   exact yV (cB (aC rfl (aC rfl (aC rfl (aC rfl (aC rfl rfl))))) (by exact Nat.le_of_ble_eq_true rfl)) (.inr ⟨_,rfl,_,rfl,by rw[hfl];rfl⟩)
  rw[if_neg (by rw[hb];exact C6)]at hfl
  have t3:dU (fB (f2 Ca (f2 oZ (aD 3) (fC (.int 0))) (fC (.str "take")))) (fB (f2 (eE true) (f2 oZ (aD 3) (fC (.int 1))) (aD 0))) (rE [.fro (dM m),.fro (bC ps),.own (tH ks),.fro (gO p)])=some (!p.put&&!decide (p.key∈dD m)):=(gP (cN (aL (aL rfl rfl (Hr p)) rfl (Yr p))) (cN (aL (aL rfl rfl (wW p)) rfl (Bw true p.key m)))).trans (by rw[if_pos rfl])
  refine Bj t3 (λhb=>?_) λhb=>wB ?_
  ·rw[if_pos hb]at hfl
   exact yV (cB (aC rfl (aC rfl (aC rfl (aC rfl (aC rfl rfl))))) (by exact Nat.le_of_ble_eq_true rfl)) (.inr ⟨_,rfl,_,rfl,by rw[hfl];rfl⟩)
  rw[if_neg (by rw[hb];exact C6)]at hfl
  have:=qI ks p.key
  exact wZ (Ec (ks:=ks) (k:=p.key) rfl (aL rfl rfl (wW p)) rfl (by omega)) (.inl ⟨_,rfl,iK ks p.key,_,rfl,hfl,by omega⟩)
 ·rintro env ⟨ks,v3,rfl,hfl,_⟩
  rw[B3,Q6]at hfl
  exact rP (cB rfl (by decide)) ⟨_,rfl,by rw[hfl];rfl⟩
theorem Ys(o:Option Nat):Xq (bD o) (bD o)=some (.bl true):=by
 unfold bD
 split<;>rfl
theorem Te{F:List D→Option D}{fa fb fc:FE}{e:DE}{d1 d3:D}(h1:fa e=some d1)(h2:fb e=some (.lst []))(h3:fc e=some d3):lX F fa fb fc e=some d3:=by
 unfold lX
 rw[h1,C7,h2,C7,h3]
 rfl
theorem Ey{F:List D→Option D}{fa fb fc:FE}{e:DE}{d1 d3 x d:D}{xs:List D}(h1:fa e=some d1)(h2:fb e=some (.lst (x::xs)))(h3:fc e=some d3)(h:F [d1,.lst (x::xs),d3]=some d):lX F fa fb fc e=some d:=by
 unfold lX
 rw[h1,C7,h2,C7,h3]
 exact h
theorem Tf(κ:Nat→Addr)(ns:List Int)(hl:ns.length≤63)(hs:∀k∈ns,Small k):OJ κ [.lst (ns.map D.int)]=some (.bl true):=by
 suffices h:∃d,OJ κ [bY ns]=some d∧d=.bl true by
  obtain⟨d,h1,rfl⟩:=h
  exact h1
 refine jZ rfl ?_
 unfold YL
 have hc0:=sU ns 0
 have hc1:=sU ns 1
 have hc2:=sU ns 2
 rw[show ((0:Nat):Int)=0 from rfl]at hc0
 rw[show ((1:Nat):Int)=1 from rfl]at hc1
 rw[show ((2:Nat):Int)=2 from rfl]at hc2
 have Yp:lK (.int 10) (.int 58)=some (.int (10 ^ 58)):=iD ⟨by decide,by decide,by decide⟩
 refine cZ (aW (aC rfl (aC rfl rfl)) rfl hc0) (by exact Nat.le_of_ble_eq_true rfl) ?_
 generalize ns.getD 0 0=first
 refine cZ (d:=bY ((ns.drop 3).take 57)) ((qJ rfl (fY rfl) (fY rfl)).trans (by rw[show (3:Int)=((3:Nat):Int)from rfl,show (60:Int)=((60:Nat):Int)from rfl,Rx])) (by exact Nat.le_of_ble_eq_true rfl) ?_
 have hcl:((ns.drop 3).take 57).length≤57:=by rw[K2];omega
 have hcs:∀c∈(ns.drop 3).take 57,Small c:=λc hc=>hs c (S9 (T0 hc))
 generalize (ns.drop 3).take 57=cells at *
 have cp:(0:Int)<(cells.length:Int)+1:=by omega
 refine cZ (aL (aL rfl rfl (cU (by decide) (by decide))) (aL (qD (aC rfl rfl) (rO _)) rfl (cH _ _)) (bA cp)) (by exact Nat.le_of_ble_eq_true rfl) ?_
 have q0:=J1 (first/9) (show (cells.length:Int)+1≠0 by omega)
 have q1:=G9 (first/9) cp
 obtain⟨mn,em⟩:∃mn:Nat,first/9%((cells.length:Int)+1)=mn:=⟨(first/9%((cells.length:Int)+1)).toNat,by omega⟩
 rw[em]at q1 ⊢
 refine cZ (d:=dM []) rfl (by exact Nat.le_of_ble_eq_true rfl) ?_
 refine Jt (xs:=(cells.take mn).map D.int) (λn env=>∃(m:List (Int×Int))(v5:SD),env=[.fro (bY ns),.own (.int first),.fro (bY cells),.fro (.int mn),.own (dM m),v5,.no,.no,.no,.no]∧(dD m).Nodup∧m.length≤n) rfl (iG ((qJ rfl rfl (fY rfl)).trans (by rw[Gy]))) ⟨[],_,rfl,W8,B9 _⟩ ?_ ?_
 ·rintro n x env hx ⟨m,v5,rfl,hm1,hm2⟩
  refine⟨by walk_at "lt", ?_⟩
  rw[C5]at hx
  obtain⟨c,hc,rfl⟩:=fJ hx
  have hn:=(B8.mp hc).1
  rw[K2]at hn
  have sc:=hcs c (T0 (F9 hc))
  have m0:=J1 (c*16807%2147483647) (show (41:Int)≠0 by decide)
  have m1:=G9 (c*16807%2147483647) (show (0:Int)<41 by decide)
  obtain⟨k,hk⟩:=sV first (n:=c*16807%2147483647%41-20) (by omega) (by omega)
  have h5:=nJ sc (show (0:Int)≤5 by decide) (by decide)
  have h7:=nJ sc (show (0:Int)≤7 by decide) (by decide)
  refine wZ (BJ (m:=m) (k:=k) (v:=(c+5)*(c+7)%10 ^ 58) rfl (aW (aC rfl (aC (aL (aL (aL (aL rfl rfl (jK (Rp (by decide) (by decide)))) rfl (bA (by decide))) rfl (bA (by decide))) rfl (jJ _ _)) rfl)) rfl hk) (aL (aL (aL rfl rfl (cH _ _)) (aL rfl rfl (cH _ _)) (rR h5 h7)) (aL rfl rfl Yp) (bA (by decide))) (by omega)) ⟨_,rfl,_,_,rfl,wY hm1,?_⟩
  have:=Eo m k ((c+5)*(c+7)%10 ^ 58)
  omega
 rintro env ⟨m,v5,rfl,hm1,hm2⟩
 rw[B3,K2]at hm2
 refine PL (m:=m) rfl (by exact Nat.le_of_ble_eq_true rfl) hm1 (by omega) rfl ?_
 have hrn:(dD (cM m)).Nodup:=Dt hm1
 have hrl:(cM m).length=m.length:=(jW m).length_eq
 have hrk:∀k,k∈dD (cM m)↔k∈dD m:=λk=>((jW m).map _).mem_iff
 have k0:=J1 (first/700) (show (3:Int)≠0 by decide)
 have k1:=G9 (first/700) (show (0:Int)<3 by decide)
 obtain⟨fk,ek⟩:∃fk:Nat,first/700%3=fk:=⟨(first/700%3).toNat,by omega⟩
 have hfs:Cd true (fU (aB (aP 2 cC (aB (aD 0) (aB (fC (.int 1)) aF))) (aB (aP 2 cC (aB (aD 0) (aB (fC (.int 2)) aF))) aF))) (eX) (cL (f2 dC (f2 lJ (aD 1) (fC (.int 700))) (fC (.int 3)))) (rE [.fro (bY ns),.own (.int first),.fro (bY cells),.fro (.int mn),.fro (dM m),v5,.own (.lst ((cM m).map pD)),.no,.no,.no])=some (bY ([ns.getD 1 0,ns.getD 2 0].take fk)):=by
  have e:=qJ (b:=true) (f:=fU (aB (aP 2 cC (aB (aD 0) (aB (fC (.int 1)) aF))) (aB (aP 2 cC (aB (aD 0) (aB (fC (.int 2)) aF))) aF))) (l:=eX) (h:=cL (f2 dC (f2 lJ (aD 1) (fC (.int 700))) (fC (.int 3)))) (e:=rE [.fro (bY ns),.own (.int first),.fro (bY cells),.fro (.int mn),.fro (dM m),v5,.own (.lst ((cM m).map pD)),.no,.no,.no]) (ns:=[ns.getD 1 0,ns.getD 2 0]) (lo:=none) (hi:=some (fk:Int)) (cB (aC (aW (aC rfl (aC rfl rfl)) rfl hc1) (aC (aW (aC rfl (aC rfl rfl)) rfl hc2) rfl)) (by exact Nat.le_of_ble_eq_true rfl)) rfl (fY (by rw[←ek];exact aL (aL rfl rfl (cU (by decide) (by decide))) rfl (bA (by decide))))
  rw[Gy]at e
  exact e
 refine cZ hfs (by exact Nat.le_of_ble_eq_true rfl) ?_
 obtain⟨ZC,jf,hl0⟩:=Et (first:=first) (cells:=cells.drop mn) (m:=m) (λc hc=>hcs c (S9 hc)) (by rw[L9];omega)
 rw[L9]at hl0
 have jg:aP 3 gB (aB (aD 1) (aB (Cd false (aD 2) (cL (aD 3)) (eX)) (aB (aD 4) aF))) (rE [.fro (bY ns),.own (.int first),.fro (bY cells),.fro (.int mn),.fro (dM m),v5,.own (.lst ((cM m).map pD)),.own (bY ([ns.getD 1 0,ns.getD 2 0].take fk)),.no,.no])=some (bC ZC):=aW (aC rfl (aC ((qJ rfl (fY rfl) rfl).trans (by rw[Rw (by omega)])) (aC rfl rfl))) rfl jf
 have hps:∃ps,lX gA (aD 1) (aD 7) (aP 3 gB (aB (aD 1) (aB (Cd false (aD 2) (cL (aD 3)) (eX)) (aB (aD 4) aF)))) (rE [.fro (bY ns),.own (.int first),.fro (bY cells),.fro (.int mn),.fro (dM m),v5,.own (.lst ((cM m).map pD)),.own (bY ([ns.getD 1 0,ns.getD 2 0].take fk)),.no,.no])=some (bC ps)∧ps.length≤ZC.length+2:=by
  have h3:fk=0∨fk=1∨fk=2:=by omega
  rcases h3 with rfl | rfl | rfl
  ·exact⟨ZC,Te (d1:=.int first) rfl rfl jg,by omega⟩
  ·obtain⟨ps',h1,h2⟩:=qN (first:=first) (fs:=[ns.getD 1 0]) (ps:=ZC) (G5 rfl) (G5 rfl) (by omega)
   exact⟨ps',Ey (d1:=.int first) rfl rfl jg h1,F8 h2 (T4 (G5 rfl) _)⟩
  ·obtain⟨ps',h1,h2⟩:=qN (first:=first) (fs:=[ns.getD 1 0,ns.getD 2 0]) (ps:=ZC) (G5 rfl) (G5 rfl) (by omega)
   exact⟨ps',Ey (d1:=.int first) rfl rfl jg h1,h2⟩
 obtain⟨ps,hps,hpl⟩:=hps
 refine cZ hps (by exact Nat.le_of_ble_eq_true rfl) ?_
 refine cZ (d:=.lst [.lst ((cM m).map pD),bC ps]) (cB (aC (qD (aC rfl rfl) (yU (qC _))) (aC (qD (aC rfl rfl) (yU (mO _))) rfl)) (by exact Nat.le_of_ble_eq_true rfl)) (by exact Nat.le_of_ble_eq_true rfl) ?_
 have ht:=Yq κ (rs:=cM m) (ps:=ps) hrn (by omega)
 have hd:=QB (m:=m) (ps:=ps) (by omega)
 rw[zA hrk]at ht
 exact rP (d:=.bl true) (Yh (aL (aW (aC (aL rfl rfl (nF (by decide) rfl)) (aC (aL rfl rfl (nF (by decide) rfl)) rfl)) rfl ht) (aW (aC rfl (aC rfl rfl)) rfl hd) (Ys _)) (aL rfl (cB (aC rfl (aC rfl rfl)) (by exact Nat.le_of_ble_eq_true rfl)) (Hv true (cM m) ps))) ⟨_,rfl,rfl⟩
end Rs

def PySem.W.Fast.tw6967672062886569260:Unit:=()
def PySem.W.Fast.tw13205971760366405376:Unit:=()
def PySem.W.Fast.tw13703306849273937545:Unit:=()
def PySem.W.Fast.tw1406335907320433448:Unit:=()
def PySem.W.Fast.tw13533167421149054628:Unit:=()
def PySem.W.Fast.tw7581762410086404118:Unit:=()
def PySem.W.Fast.tw10992861378828342787:Unit:=()
def PySem.W.Fast.tw7879471066259991378:Unit:=()
def PySem.W.Fast.tw14895569682778995946:Unit:=()
def PySem.W.Fast.tw2406808466861310771:Unit:=()
def PySem.W.Fast.tw14531067129903229951:Unit:=()
def PySem.W.Fast.tw6229521744946291279:Unit:=()
def PySem.W.Fast.tw9711831429944408594:Unit:=()
def PySem.W.Fast.tw833726310090480909:Unit:=()
def PySem.W.Fast.tw12608808611446192163:Unit:=()
def PySem.W.Fast.tw1195111622273226534:Unit:=()
def PySem.W.Fast.tw14537693004630812929:Unit:=()
def PySem.W.Fast.tw18135204955929487295:Unit:=()
def PySem.W.Fast.tw12705781362656464397:Unit:=()
def PySem.W.Fast.tw5811187260322862146:Unit:=()
def PySem.W.Fast.tw1864553174977444270:Unit:=()
def PySem.W.Fast.tw15779780349635043537:Unit:=()
def PySem.W.Fast.tw7904687909764208378:Unit:=()
def PySem.W.Fast.tw4142097953753059220:Unit:=()
def PySem.W.Fast.tw14346128914097315316:Unit:=()
def PySem.W.Fast.tw10505170396314848032:Unit:=()
def PySem.W.Fast.tw6348213538956610301:Unit:=()
def PySem.W.Fast.tw5980507536154595808:Unit:=()
def PySem.W.Fast.tw6157884540410234810:Unit:=()
def PySem.W.Fast.tw5861649692117159574:Unit:=()
def PySem.W.Fast.tw2122106884966539842:Unit:=()
def PySem.W.Fast.tw1623021093223418394:Unit:=()
def PySem.W.Fast.tw44308148739284635:Unit:=()
def PySem.W.Fast.tw608802090114846188:Unit:=()
def PySem.W.Fast.tw13292562567113801615:Unit:=()
def PySem.W.Fast.tw15235989142872051963:Unit:=()
namespace Rs
open PySem L2
theorem Yt{K:aA}{f:Addr}{oc:Value}{od:Option Addr}{fd:FuncData}{sl:Array (Option Value)}(l:K.lookup f=some ⟨oc,od,.func fd,sl⟩):J7 K (.ref f)=true:=by
 unfold J7
 dsimp only
 rw[l]
theorem jh{K:aA}{h:Heap}{mg:Str→Option Value}{x:Str}{st:Stmt}{f:Addr}{oc:Value}{od an:Option Addr}{osl:Array (Option Value)}{kV doc pm cdv ct:Value}(X:K.In h)(G:h.Ns mainGlobals mg)(a:G4 K mainGlobals x=some (some (.ref f)))(l:K.lookup f=some ⟨oc,od,.func (F4 x x (cJ st) (bO st) (aK st) .none kV doc pm an cdv ct),osl⟩)(c:M8 K cdv x=true):Raw K mg x st:=HJ X G a l c (Yt l)
theorem Bx{K:aA}{a b:Value}{v:Bool}(h:A9 K a b=some v):O2 K a b=some v:=by
 unfold A9 at h
 split at h
 ·exact h
 ·cases h
theorem Tg{K:aA}{C:Addr}{v:Value}(h:M4 K C v=some true):(O4 K C).isSome=true:=by
 unfold M4 at h
 cases q:O4 K C with
 | none=>rw[q]at h;cases h
 | some c=>rfl
theorem xn{K:aA}{h:Heap}{mg:Str→Option Value}(X:K.In h)(G:h.Ns mainGlobals mg){E0 E1 E2 E3 E4 E5 E6 E7 E8 E9 E10:Addr}(a0:G4 K mainGlobals "Twice" = some (some (.ref E0))) (a1:G4 K mainGlobals "NoWorth" = some (some (.ref E1))) (a2:G4 K mainGlobals "NoKey" = some (some (.ref E2))) (a3:G4 K mainGlobals "StoneError" = some (some (.ref E3))) (a4:G4 K mainGlobals "BadStone" = some (some (.ref E4))) (a5:G4 K mainGlobals "Full" = some (some (.ref E5))) (a6:G4 K mainGlobals "NoChange" = some (some (.ref E6))) (a7:G4 K mainGlobals "NoDeed" = some (some (.ref E7))) (a8:G4 K mainGlobals "NoPlace" = some (some (.ref E8))) (a9:G4 K mainGlobals "NoRow" = some (some (.ref E9))) (a10:G4 K mainGlobals "NoText" = some (some (.ref E10))) (b0:G3 K E0 jG "ValueError.__new__" = true) (b1:G3 K E1 jG "ValueError.__new__" = true) (b2:G3 K E2 jG "ValueError.__new__" = true) (b3:G3 K E3 jG "ValueError.__new__" = true) (b4:G3 K E4 jG "ValueError.__new__" = true) (b5:G3 K E5 jG "ValueError.__new__" = true) (b6:G3 K E6 jG "ValueError.__new__" = true) (b7:G3 K E7 jG "ValueError.__new__" = true) (b8:G3 K E8 jG "ValueError.__new__" = true) (b9:G3 K E9 jG "ValueError.__new__" = true) (b10:G3 K E10 jG "ValueError.__new__" = true) (Th:A9 K (.ref E0) (.ref E0)=some true) (Ti:A9 K (.ref E0) (.ref E1)=some false) (Tj:A9 K (.ref E0) (.ref E2)=some false) (Tn:A9 K (.ref E0) (.ref E3)=some true) (Tp:A9 K (.ref E0) (.ref E4)=some false) (Tq:A9 K (.ref E0) (.ref E5)=some false) (Tr:A9 K (.ref E0) (.ref E6)=some false) (Tt:A9 K (.ref E0) (.ref E7)=some false) (Tu:A9 K (.ref E0) (.ref E8)=some false) (Tv:A9 K (.ref E0) (.ref E9)=some false) (Ez:A9 K (.ref E0) (.ref E10)=some false) (Tw:A9 K (.ref E1) (.ref E0)=some false) (Tz:A9 K (.ref E1) (.ref E1)=some true) (Ua:A9 K (.ref E1) (.ref E2)=some false) (Ub:A9 K (.ref E1) (.ref E3)=some true) (Uc:A9 K (.ref E1) (.ref E4)=some false) (Ud:A9 K (.ref E1) (.ref E5)=some false) (Ue:A9 K (.ref E1) (.ref E6)=some false) (Ug:A9 K (.ref E1) (.ref E7)=some false) (Uh:A9 K (.ref E1) (.ref E8)=some false) (Ui:A9 K (.ref E1) (.ref E9)=some false) (Fb:A9 K (.ref E1) (.ref E10)=some false) (Uj:A9 K (.ref E2) (.ref E0)=some false) (Uk:A9 K (.ref E2) (.ref E1)=some false) (Ul:A9 K (.ref E2) (.ref E2)=some true) (Um:A9 K (.ref E2) (.ref E3)=some true) (Uo:A9 K (.ref E2) (.ref E4)=some false) (Up:A9 K (.ref E2) (.ref E5)=some false) (Uq:A9 K (.ref E2) (.ref E6)=some false) (Ur:A9 K (.ref E2) (.ref E7)=some false) (Us:A9 K (.ref E2) (.ref E8)=some false) (Ut:A9 K (.ref E2) (.ref E9)=some false) (Fd:A9 K (.ref E2) (.ref E10)=some false) (v0:A9 K (.ref E0) (.type "ValueError")=some true) (v1:A9 K (.ref E1) (.type "ValueError")=some true) (v2:A9 K (.ref E2) (.type "ValueError")=some true) (QC:D5 K (.ref E0) "__getattribute__" = some (some (.builtin "BaseException.__getattribute__"))) (QD:D5 K (.ref E0) "__getattr__" = some none) (QF:D5 K (.ref E0) "__class__" = some (some (.builtin "object.__class__"))) (QG:L5 K (.builtin "object.__class__") "__get__" = some (some (.builtin "getset_descriptor.__get__"))) (QH:N8 K (.builtin "object.__class__")=some true) (Yu:M4 K E0 (.type "object")=some true) (QJ:P9 K (.ref E0) (.type "BaseException")=some true) (QK:D5 K (.ref E1) "__getattribute__" = some (some (.builtin "BaseException.__getattribute__"))) (QL:D5 K (.ref E1) "__getattr__" = some none) (QM:D5 K (.ref E1) "__class__" = some (some (.builtin "object.__class__"))) (QQ:L5 K (.builtin "object.__class__") "__get__" = some (some (.builtin "getset_descriptor.__get__"))) (QR:N8 K (.builtin "object.__class__")=some true) (Yv:M4 K E1 (.type "object")=some true) (QS:P9 K (.ref E1) (.type "BaseException")=some true) (QT:D5 K (.ref E2) "__getattribute__" = some (some (.builtin "BaseException.__getattribute__"))) (QV:D5 K (.ref E2) "__getattr__" = some none) (QW:D5 K (.ref E2) "__class__" = some (some (.builtin "object.__class__"))) (QX:L5 K (.builtin "object.__class__") "__get__" = some (some (.builtin "getset_descriptor.__get__"))) (QZ:N8 K (.builtin "object.__class__")=some true) (Yw:M4 K E2 (.type "object")=some true) (RB:P9 K (.ref E2) (.type "BaseException")=some true):∃E0 E1 E2 E3 E4 E5 E6 E7 E8 E9 E10:Addr,jQ K mg "Twice" E0∧jQ K mg "NoWorth" E1∧jQ K mg "NoKey" E2∧jQ K mg "StoneError" E3∧jQ K mg "BadStone" E4∧jQ K mg "Full" E5∧jQ K mg "NoChange" E6∧jQ K mg "NoDeed" E7∧jQ K mg "NoPlace" E8∧jQ K mg "NoRow" E9∧jQ K mg "NoText" E10∧A9 K (.ref E0) (.ref E0)=some true∧A9 K (.ref E0) (.ref E1)=some false∧A9 K (.ref E0) (.ref E2)=some false∧A9 K (.ref E0) (.ref E3)=some true∧A9 K (.ref E0) (.ref E4)=some false∧A9 K (.ref E0) (.ref E5)=some false∧A9 K (.ref E0) (.ref E6)=some false∧A9 K (.ref E0) (.ref E7)=some false∧A9 K (.ref E0) (.ref E8)=some false∧A9 K (.ref E0) (.ref E9)=some false∧A9 K (.ref E0) (.ref E10)=some false∧A9 K (.ref E1) (.ref E0)=some false∧A9 K (.ref E1) (.ref E1)=some true∧A9 K (.ref E1) (.ref E2)=some false∧A9 K (.ref E1) (.ref E3)=some true∧A9 K (.ref E1) (.ref E4)=some false∧A9 K (.ref E1) (.ref E5)=some false∧A9 K (.ref E1) (.ref E6)=some false∧A9 K (.ref E1) (.ref E7)=some false∧A9 K (.ref E1) (.ref E8)=some false∧A9 K (.ref E1) (.ref E9)=some false∧A9 K (.ref E1) (.ref E10)=some false∧A9 K (.ref E2) (.ref E0)=some false∧A9 K (.ref E2) (.ref E1)=some false∧A9 K (.ref E2) (.ref E2)=some true∧A9 K (.ref E2) (.ref E3)=some true∧A9 K (.ref E2) (.ref E4)=some false∧A9 K (.ref E2) (.ref E5)=some false∧A9 K (.ref E2) (.ref E6)=some false∧A9 K (.ref E2) (.ref E7)=some false∧A9 K (.ref E2) (.ref E8)=some false∧A9 K (.ref E2) (.ref E9)=some false∧A9 K (.ref E2) (.ref E10)=some false∧A9 K (.ref E0) (.type "ValueError")=some true∧A9 K (.ref E1) (.type "ValueError")=some true∧A9 K (.ref E2) (.type "ValueError")=some true∧oO K E0∧oO K E1∧oO K E2:=⟨E0,E1,E2,E3,E4,E5,E6,E7,E8,E9,E10,⟨G2 X G a0,b0⟩,⟨G2 X G a1,b1⟩,⟨G2 X G a2,b2⟩,⟨G2 X G a3,b3⟩,⟨G2 X G a4,b4⟩,⟨G2 X G a5,b5⟩,⟨G2 X G a6,b6⟩,⟨G2 X G a7,b7⟩,⟨G2 X G a8,b8⟩,⟨G2 X G a9,b9⟩,⟨G2 X G a10,b10⟩,Th,Ti,Tj,Tn,Tp,Tq,Tr,Tt,Tu,Tv,Ez,Tw,Tz,Ua,Ub,Uc,Ud,Ue,Ug,Uh,Ui,Fb,Uj,Uk,Ul,Um,Uo,Up,Uq,Ur,Us,Ut,Fd,v0,v1,v2,⟨QC,QD,QF,QG,QH,Yu,QJ,Tg Yu⟩,⟨QK,QL,QM,QQ,QR,Yv,QS,Tg Yv⟩,⟨QT,QV,QW,QX,QZ,Yw,RB,Tg Yw⟩⟩
theorem walk{l:W6}{q:Program}{loose:List Str}{XP:(Str→Option Value)→Heap→Prop}{YP:World→Heap→Prop}{d:DefRec}{K:Params→aA}(hn:l.most=some 63)(hdf:d.params.defaults=[])(hdn:d.name = "law")
  (hY:∀(w:World)(h:Heap),YP w h→(K w.params).In h)
  (F:∀(w:World)(mg:Str→Option Value)(h:Heap),(K w.params).In h→h.Ns mainGlobals mg→(∃E0 E1 E2 E3 E4 E5 E6 E7 E8 E9 E10:Addr,jQ (K w.params) mg "Twice" E0∧jQ (K w.params) mg "NoWorth" E1∧jQ (K w.params) mg "NoKey" E2∧jQ (K w.params) mg "StoneError" E3∧jQ (K w.params) mg "BadStone" E4∧jQ (K w.params) mg "Full" E5∧jQ (K w.params) mg "NoChange" E6∧jQ (K w.params) mg "NoDeed" E7∧jQ (K w.params) mg "NoPlace" E8∧jQ (K w.params) mg "NoRow" E9∧jQ (K w.params) mg "NoText" E10∧A9 (K w.params) (.ref E0) (.ref E0)=some true∧A9 (K w.params) (.ref E0) (.ref E1)=some false∧A9 (K w.params) (.ref E0) (.ref E2)=some false∧A9 (K w.params) (.ref E0) (.ref E3)=some true∧A9 (K w.params) (.ref E0) (.ref E4)=some false∧A9 (K w.params) (.ref E0) (.ref E5)=some false∧A9 (K w.params) (.ref E0) (.ref E6)=some false∧A9 (K w.params) (.ref E0) (.ref E7)=some false∧A9 (K w.params) (.ref E0) (.ref E8)=some false∧A9 (K w.params) (.ref E0) (.ref E9)=some false∧A9 (K w.params) (.ref E0) (.ref E10)=some false∧A9 (K w.params) (.ref E1) (.ref E0)=some false∧A9 (K w.params) (.ref E1) (.ref E1)=some true∧A9 (K w.params) (.ref E1) (.ref E2)=some false∧A9 (K w.params) (.ref E1) (.ref E3)=some true∧A9 (K w.params) (.ref E1) (.ref E4)=some false∧A9 (K w.params) (.ref E1) (.ref E5)=some false∧A9 (K w.params) (.ref E1) (.ref E6)=some false∧A9 (K w.params) (.ref E1) (.ref E7)=some false∧A9 (K w.params) (.ref E1) (.ref E8)=some false∧A9 (K w.params) (.ref E1) (.ref E9)=some false∧A9 (K w.params) (.ref E1) (.ref E10)=some false∧A9 (K w.params) (.ref E2) (.ref E0)=some false∧A9 (K w.params) (.ref E2) (.ref E1)=some false∧A9 (K w.params) (.ref E2) (.ref E2)=some true∧A9 (K w.params) (.ref E2) (.ref E3)=some true∧A9 (K w.params) (.ref E2) (.ref E4)=some false∧A9 (K w.params) (.ref E2) (.ref E5)=some false∧A9 (K w.params) (.ref E2) (.ref E6)=some false∧A9 (K w.params) (.ref E2) (.ref E7)=some false∧A9 (K w.params) (.ref E2) (.ref E8)=some false∧A9 (K w.params) (.ref E2) (.ref E9)=some false∧A9 (K w.params) (.ref E2) (.ref E10)=some false∧A9 (K w.params) (.ref E0) (.type "ValueError")=some true∧A9 (K w.params) (.ref E1) (.type "ValueError")=some true∧A9 (K w.params) (.ref E2) (.type "ValueError")=some true∧oO (K w.params) E0∧oO (K w.params) E1∧oO (K w.params) E2)∧Raw (K w.params) mg "_law_cell_at" oW∧Raw (K w.params) mg "_law_key" Bk∧Raw (K w.params) mg "_law_fault" rW∧Raw (K w.params) mg "_law_spoilt" oX∧Raw (K w.params) mg "_law_part" wI∧Raw (K w.params) mg "_law_parts" rY∧Raw (K w.params) mg "key_of" Gz∧Raw (K w.params) mg "is_put" Hf∧Raw (K w.params) mg "amount_of" rZ∧Raw (K w.params) mg "check_parts" iQ∧Raw (K w.params) mg "plainly" qK∧Raw (K w.params) mg "_law_told" wK∧Raw (K w.params) mg "_law_due" Bl∧Raw (K w.params) mg "law" Yk∧mg "len" = none∧mg "dict" = none∧mg "sorted" = none∧mg "isinstance" = none∧mg "ValueError" = none∧mg "list" = none∧Je mg "PUT" "put") :
  W9 q loose XP YP l.row.toRowW d [] (λf vs=>W5 f vs):=by
 refine L2.Lr (n:=63) (k:=5) (x := "script") (CX:=λ_=>Lh) (sp:=λw=>gj (K w.params)) hn (by decide) hdf ⟨rfl,by decide,by decide⟩ hY ?_ (λ_ _ a ns hl hb _ hS=>⟨a,ns,rfl,hS,hl,hb,λ_=>rfl⟩) λ_ _ _ _ _ z=>z
 intro w mg fa h KX G hmg
 obtain⟨⟨E0,E1,E2,E3,E4,E5,E6,E7,E8,E9,E10,sG,jN,sH,mK,sJ,Sh,sI,Bq,wR,Ho,Bp,Th,Ti,Tj,Tn,Tp,Tq,Tr,Tt,Tu,Tv,Ez,Tw,Tz,Ua,Ub,Uc,Ud,Ue,Ug,Uh,Ui,Fb,Uj,Uk,Ul,Um,Uo,Up,Uq,Ur,Us,Ut,Fd,v0,v1,v2,xc0,xc1,xc2⟩,RLawCellAt,RLawKey,RLawFault,RLawSpoilt,RLawPart,RLawParts,RKeyOf,RIsPut,RAmountOf,RCheckParts,RPlainly,RLawTold,RLawDue,RLaw,tW,zdict,nH,cV,mL,Jx,PB⟩:=F w mg h KX G
 obtain⟨κ,e0,e1,e2,e3,e4,e5,e6,e7,e8,e9,e10⟩:∃κ:Nat→Addr,κ 0=E0∧κ 1=E1∧κ 2=E2∧κ 3=E3∧κ 4=E4∧κ 5=E5∧κ 6=E6∧κ 7=E7∧κ 8=E8∧κ 9=E9∧κ 10=E10:=⟨(λn=>match n with | 0=>E0 | 1=>E1 | 2=>E2 | 3=>E3 | 4=>E4 | 5=>E5 | 6=>E6 | 7=>E7 | 8=>E8 | 9=>E9 | 10=>E10 | _=>E0),rfl,rfl,rfl,rfl,rfl,rfl,rfl,rfl,rfl,rfl,rfl⟩
 subst e0 e1 e2 e3 e4 e5 e6 e7 e8 e9 e10
 have XM:∀i j,i<3→j<11→A9 (K w.params) (.ref (κ i)) (.ref (κ j))=some (rT i j):=λi j hi hj=>match i,j,hi,hj with
  | 0,0,_,_=>Th
  | 0,1,_,_=>Ti
  | 0,2,_,_=>Tj
  | 0,3,_,_=>Tn
  | 0,4,_,_=>Tp
  | 0,5,_,_=>Tq
  | 0,6,_,_=>Tr
  | 0,7,_,_=>Tt
  | 0,8,_,_=>Tu
  | 0,9,_,_=>Tv
  | 0,10,_,_=>Ez
  | 1,0,_,_=>Tw
  | 1,1,_,_=>Tz
  | 1,2,_,_=>Ua
  | 1,3,_,_=>Ub
  | 1,4,_,_=>Uc
  | 1,5,_,_=>Ud
  | 1,6,_,_=>Ue
  | 1,7,_,_=>Ug
  | 1,8,_,_=>Uh
  | 1,9,_,_=>Ui
  | 1,10,_,_=>Fb
  | 2,0,_,_=>Uj
  | 2,1,_,_=>Uk
  | 2,2,_,_=>Ul
  | 2,3,_,_=>Um
  | 2,4,_,_=>Uo
  | 2,5,_,_=>Up
  | 2,6,_,_=>Uq
  | 2,7,_,_=>Ur
  | 2,8,_,_=>Us
  | 2,9,_,_=>Ut
  | 2,10,_,_=>Fd
  | n+3,_,h,_=>absurd h (by omega)
  | _,n+11,_,h=>absurd h (by omega)
 have XV:∀i,i<3→O2 (K w.params) (.ref (κ i)) (.type "ValueError")=some true:=λi hi=>match i,hi with
  | 0,_=>Bx v0
  | 1,_=>Bx v1
  | 2,_=>Bx v2
  | n+3,h=>absurd h (by omega)
 have XC:∀i,i<3→oO (K w.params) (κ i):=λi hi=>match i,hi with
  | 0,_=>xc0
  | 1,_=>xc1
  | 2,_=>xc2
  | n+3,h=>absurd h (by omega)
 obtain⟨f,fd,FL,m⟩:=RLaw.ex
 rw[hdn]at hmg
 have e:=hmg.symm.trans m
 cases e
 refine⟨fd,Gh FL (λ_ _ _ _ _ _ u=>rfl),λbase _ _=>?_⟩
 have iJ:=Bm (P:=l.prog) (w:=w) (mg:=mg) (base:=base) RLawCellAt  tW
 have gU:=Mr (P:=l.prog) (w:=w) (mg:=mg) (base:=base) RLawKey
 have sE:=Ej (P:=l.prog) (w:=w) (mg:=mg) (base:=base) RLawFault gU  tW
 have oY:=Bo (P:=l.prog) (w:=w) (mg:=mg) (base:=base) RLawSpoilt sE  tW
 have wM:=Hg (P:=l.prog) (w:=w) (mg:=mg) (base:=base) RLawPart
 have sO:=Ek (P:=l.prog) (w:=w) (mg:=mg) (base:=base) RLawParts gU wM
 have iI:=Sd (P:=l.prog) (w:=w) (mg:=mg) (base:=base) RKeyOf
 have fH:=Sg (P:=l.prog) (w:=w) (mg:=mg) (base:=base) RIsPut  PB
 have cI:=El (P:=l.prog) (w:=w) (mg:=mg) (base:=base) RAmountOf
 have mH:=xP (P:=l.prog) (w:=w) (mg:=mg) (base:=base) RCheckParts iI cI fH
 have wO:=Hi (P:=l.prog) (w:=w) (mg:=mg) (base:=base) RPlainly mH fH iI cI  zdict nH
 have mJ:=wN (P:=l.prog) (w:=w) (mg:=mg) (base:=base) RCheckParts iI cI fH sG jN sH
 have wQ:=Em (P:=l.prog) (w:=w) (mg:=mg) (base:=base) RPlainly mJ zdict
 have wV:=Hj (P:=l.prog) (w:=w) (mg:=mg) (base:=base) RLawTold wO wQ mK sH jN sG Bp Ho wR Bq sI Sh sJ XM XC XV cV mL
 have Br:=Mt (P:=l.prog) (w:=w) (mg:=mg) (base:=base) RLawDue
 exact PJ FL iJ gU oY sO wV Br  tW nH Jx (Tf κ)
end Rs
open PySem PySem.W PyProof.Rows
set_option maxRecDepth 100000 in
set_option maxHeartbeats 0 in
theorem PySem.Challenge.cw_ripestone_k34_plainly_refused_holds : PySem.Challenge.rw_ripestone_k34_plainly_refused.Holds := by
 w_on;o_law;k_head;(case hw=>w_witness2)
 k_fill
 refine Rs.walk (l:=PySem.Challenge.rw_ripestone_k34_plainly_refused) rfl rfl rfl (λw h Y=>PySem.W.kIn_of Y) ?F
 case F=>
  intro w mg h KX G
  refine⟨?_,?_,?_,?_,?_,?_,?_,?_,?_,?_,?_,?_,?_,?_,?_,K7 KX G ?_,K7 KX G ?_,K7 KX G ?_,K7 KX G ?_,K7 KX G ?_,K7 KX G ?_,?_⟩
  ·refine' Rs.xn KX G ?a0 ?a1 ?a2 ?a3 ?a4 ?a5 ?a6 ?a7 ?a8 ?a9 ?a10 ?b0 ?b1 ?b2 ?b3 ?b4 ?b5 ?b6 ?b7 ?b8 ?b9 ?b10 ?Th ?Ti ?Tj ?Tn ?Tp ?Tq ?Tr ?Tt ?Tu ?Tv ?Ez ?Tw ?Tz ?Ua ?Ub ?Uc ?Ud ?Ue ?Ug ?Uh ?Ui ?Fb ?Uj ?Uk ?Ul ?Um ?Uo ?Up ?Uq ?Ur ?Us ?Ut ?Fd ?v0 ?v1 ?v2 ?QC ?QD ?QF ?QG ?QH ?Yu ?QJ ?QK ?QL ?QM ?QQ ?QR ?Yv ?QS ?QT ?QV ?QW ?QX ?QZ ?Yw ?RB
   (case a0=>k_is);(case a1=>k_is);(case a2=>k_is);(case a3=>k_is);(case a4=>k_is);(case a5=>k_is);(case a6=>k_is);(case a7=>k_is);(case a8=>k_is);(case a9=>k_is);(case a10=>k_is);(case b0=>k_exc);(case b1=>k_exc);(case b2=>k_exc);(case b3=>k_exc);(case b4=>k_exc);(case b5=>k_exc);(case b6=>k_exc);(case b7=>k_exc);(case b8=>k_exc);(case b9=>k_exc);(case b10=>k_exc);(case Th=>kts_exm);(case Ti=>kts_exm);(case Tj=>kts_exm);(case Tn=>kts_exm);(case Tp=>kts_exm);(case Tq=>kts_exm);(case Tr=>kts_exm);(case Tt=>kts_exm);(case Tu=>kts_exm);(case Tv=>kts_exm);(case Ez=>kts_exm);(case Tw=>kts_exm);(case Tz=>kts_exm);(case Ua=>kts_exm);(case Ub=>kts_exm);(case Uc=>kts_exm);(case Ud=>kts_exm);(case Ue=>kts_exm);(case Ug=>kts_exm);(case Uh=>kts_exm);(case Ui=>kts_exm);(case Fb=>kts_exm);(case Uj=>kts_exm);(case Uk=>kts_exm);(case Ul=>kts_exm);(case Um=>kts_exm);(case Uo=>kts_exm);(case Up=>kts_exm);(case Uq=>kts_exm);(case Ur=>kts_exm);(case Us=>kts_exm);(case Ut=>kts_exm);(case Fd=>kts_exm);(case v0=>kts_exm);(case v1=>kts_exm);(case v2=>kts_exm);(case QC=>k_is);(case QD=>k_is);(case QF=>k_is);(case QG=>k_is);(case QH=>k_is);(case Yu=>k_is);(case QJ=>k_is);(case QK=>k_is);(case QL=>k_is);(case QM=>k_is);(case QQ=>k_is);(case QR=>k_is);(case Yv=>k_is);(case QS=>k_is);(case QT=>k_is);(case QV=>k_is);(case QW=>k_is);(case QX=>k_is);(case QZ=>k_is);(case Yw=>k_is);(case RB=>k_is)
  iterate 14
   ·refine' Rs.jh KX G ?a ?l ?c
    (case a=>k_is);(case l=>k_is);(case c=>k_is)
  iterate 6
   ·k_is
  ·refine' L2.Qg KX G ?a
   (case a=>k_is)
#print axioms PySem.Challenge.cw_ripestone_k34_plainly_refused_holds
